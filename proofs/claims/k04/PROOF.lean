import PyProof.Rows.All
import Wide.All
import OpenK.AllK
import Wide.FinOn
import Lean
import PyProof.EqAt
import PyProof.EqKinds
import PyProof.TupleCall
import PyProof.ListRange
import PyProof.ReprRoads
import PyProof.SeqI3
import PySem.Challenge.RW_papercircle_k04_shelf_numbers

set_option Elab.async false
set_option linter.all false
set_option maxRecDepth 100000

namespace L2
open PySem PySem.Spec PyProof.Rows
noncomputable abbrev Key := Sum Int Str
noncomputable def keyIs : Key → Value → Bool
 | .inl k, v => Value.isInt k v
 | .inr x, v => Value.isStrOf x v
noncomputable def keyH (w : World) : Key → Int
 | .inl k => hashInt k
 | .inr x => hashStr w x
theorem Z244 : ∀ {k : Key} {v : Value}, keyIs k v = true → (∃ i t, k = Sum.inl i ∧ v = Value.int i t) ∨ (∃ x t, k = Sum.inr x ∧ v = Value.str x t)
 | .inl i, v, h => by
  obtain ⟨t, e⟩ := Value.isInt_shape (k := i) (v := v) h
  exact .inl ⟨i, t, rfl, e⟩
 | .inr x, v, h => by
  obtain ⟨t, e⟩ := Value.isStrOf_shape (x := x) (v := v) h
  exact .inr ⟨x, t, rfl, e⟩
theorem Z243 (i : Int) (t : Tok) : keyIs (.inl i) (.int i t) = true := by simp [keyIs, Value.isInt]
theorem Z245 (x : Str) (t : Tok) : keyIs (.inr x) (.str x t) = true := by simp [keyIs, Value.isStrOf]
theorem Z246 (a b : Int) : decide ((Sum.inl a : Key) = Sum.inl b) = (a == b) := by
 by_cases e : a = b
 ·subst e; simp
 ·have h : ¬ (Sum.inl a : Key) = Sum.inl b := fun q => e (Sum.inl.inj q)
  rw [decide_eq_false h]
  exact (beq_eq_false_iff_ne.mpr e).symm
theorem Z250 (a b : Str) : decide ((Sum.inr a : Key) = Sum.inr b) = decide (a = b) := by
 by_cases e : a = b
 ·subst e; simp
 ·have h : ¬ (Sum.inr a : Key) = Sum.inr b := fun q => e (Sum.inr.inj q)
  rw [decide_eq_false h, decide_eq_false e]
theorem Z247 (a : Int) (b : Str) : decide ((Sum.inl a : Key) = Sum.inr b) = false := decide_eq_false (fun q => nomatch q)
theorem Z249 (a : Str) (b : Int) : decide ((Sum.inr a : Key) = Sum.inl b) = false := decide_eq_false (fun q => nomatch q)
noncomputable def mixKind (prog : Program) (w : World) : PySem.KeyKind prog w Key where
 is := keyIs
 hash := keyH w
 inj := fun v a b ha hb => by
  rcases Z244 ha with ⟨i, t, rfl, rfl⟩ | ⟨x, t, rfl, rfl⟩
  ·rcases Z244 hb with ⟨j, u, rfl, e⟩ | ⟨y, u, rfl, e⟩
   ·injection e with e1 _; rw [e1]
   ·exact nomatch e
  ·rcases Z244 hb with ⟨j, u, rfl, e⟩ | ⟨y, u, rfl, e⟩
   ·exact nomatch e
   ·injection e with e1 _; rw [e1]
 byValue := fun k v h => by
  rcases Z244 h with ⟨i, t, rfl, rfl⟩ | ⟨x, t, rfl, rfl⟩ <;> rfl
 pyHash := fun hv h => by
  rcases Z244 hv with ⟨i, t, rfl, rfl⟩ | ⟨x, t, rfl, rfl⟩
  ·exact wpAny_pyHash_int h
  ·exact wpAny_pyHash_str h
 eqBool := fun hu hv h => by
  rcases Z244 hu with ⟨i, t, rfl, rfl⟩ | ⟨x, t, rfl, rfl⟩
  ·rcases Z244 hv with ⟨j, u, rfl, rfl⟩ | ⟨y, u, rfl, rfl⟩
   ·rw [Z246] at h; exact wpAny_eqBool_int h
   ·rw [Z247] at h; exact SeqAt.EqAt.int_str i t y u _ _ _ _ h
  ·rcases Z244 hv with ⟨j, u, rfl, rfl⟩ | ⟨y, u, rfl, rfl⟩
   ·rw [Z249] at h; exact SeqAt.EqAt.str_int x t j u _ _ _ _ h
   ·rw [Z250] at h; exact wpAny_eqBool_str h
 «strs» := fun k x t v h => by
  rcases Z244 h with ⟨i, u, rfl, e⟩ | ⟨y, u, rfl, e⟩
  ·exact nomatch e
  ·injection e with e1 _
   subst e1
   cases v <;> rfl
theorem Z332 (prog : Program) (w : World) (i : Int) (t : Tok) : (mixKind prog w).is (.inl i) (.int i t) = true := Z243 i t
theorem Z333 (prog : Program) (w : World) (x : Str) (t : Tok) : (mixKind prog w).is (.inr x) (.str x t) = true := Z245 x t
end L2
namespace L2
open PySem PySem.Spec PyProof.Rows
inductive V where
 | non | bl (b : Bool) | int (i : Int) | str (x : Str) | byt (b : Array UInt8) | flt (b : UInt64) | ref (a : Addr) | ty (n : String)
 deriving DecidableEq
noncomputable def RelV : V → Value → Prop
 | .non, u => u = Value.none
 | .bl b, u => u = Value.bool b
 | .int i, u => ∃ t, u = Value.int i t
 | .str x, u => ∃ t, u = Value.str x t
 | .byt b, u => ∃ t, u = Value.bytes b t
 | .flt b, u => ∃ t, u = Value.float b t
 | .ref a, u => u = Value.ref a
 | .ty n, u => u = Value.type n
noncomputable abbrev Vals : List V → List Value → Prop := Paired RelV
theorem Vals.length {xs : List V} {us : List Value} (r : Vals xs us) : xs.length = us.length := Paired.length r
theorem Vals.get : ∀ {xs : List V} {us : List Value} {i : Nat} {x : V}, Vals xs us → xs[i]? = some x → ∃ u, us[i]? = some u ∧ RelV x u
 | _, _, _, _, .nil, e => by simp at e
 | _, _, 0, _, .cons r _, e => by simp at e; subst e; exact ⟨_, rfl, r⟩
 | _, _, i + 1, x, .cons _ t, e => by
  obtain ⟨u, h1, h2⟩ := Vals.get (i := i) (x := x) t (by simpa using e)
  exact ⟨u, by simpa using h1, h2⟩
theorem Vals.append : ∀ {xs ys : List V} {us ws : List Value}, Vals xs us → Vals ys ws → Vals (xs ++ ys) (us ++ ws)
 | _, _, _, _, .nil, s => s
 | _, _, _, _, .cons r t, s => .cons r (Vals.append t s)
theorem Vals.take : ∀ {xs : List V} {us : List Value} (n : Nat), Vals xs us → Vals (xs.take n) (us.take n)
 | _, _, 0, _ => .nil
 | _, _, _ + 1, .nil => .nil
 | _, _, n + 1, .cons r t => .cons r (Vals.take n t)
theorem Vals.drop : ∀ {xs : List V} {us : List Value} (n : Nat), Vals xs us → Vals (xs.drop n) (us.drop n)
 | _, _, 0, r => r
 | _, _, _ + 1, .nil => .nil
 | _, _, n + 1, .cons _ t => Vals.drop n t
noncomputable def RelO : Option V → Option Value → Prop
 | some v, some u => RelV v u
 | none, none => True
 | _, _ => False
noncomputable def KV {κ : Type} : List (κ × V) → List (κ × Value) → Prop := Paired fun (p : κ × V) (q : κ × Value) => p.1 = q.1 ∧ RelV p.2 q.2
noncomputable def kV : Key → V
 | .inl i => .int i
 | .inr x => .str x
inductive HO where
 | lst (xs : List V)
 | tup (xs : List V)
 | dK (kvs : List (Key × V)) | dT (kvs : List (List Key × V))
 | set (S : Int → Bool) (n : Nat)
 | ins (C dx : Addr) (fs : List (Str × V))
 | own (x : Addr)
 | xd (fs : List (Str × V))
 | met (f x : Addr)
 | rng (lo hi : Int)
 | frz (o : Obj) (u : HO)
 | tbl (ps : Array Value)
 | ext (φ : Heap → Prop)
noncomputable abbrev Hp := Addr → Option HO
noncomputable def upd (H : Hp) (a : Addr) (o : HO) : Hp := fun b => if b = a then some o else H b
theorem Z605 {H : Hp} {a : Addr} {o : HO} : upd H a o a = some o := by unfold upd; rw [if_pos rfl]
theorem Z604 {H : Hp} {a b : Addr} {o : HO} (h : b ≠ a) : upd H a o b = H b := by unfold upd; rw [if_neg h]
theorem ne_of {H : Hp} {a b : Addr} {o u : HO} (h : H a = some o) (h' : H b = some u) (d : o ≠ u) : a ≠ b := by
 intro e; subst e; rw [h] at h'; exact d (Option.some.inj h')
theorem Z352 {H : Hp} {a b : Addr} {o : HO} (h : H a = some o) (h' : H b = none) : a ≠ b := by
 intro e; subst e; rw [h] at h'; cases h'
section
variable (P : Program) (w : World)
noncomputable def ObjOk (H : Hp) (h : Heap) (a : Addr) : HO → Prop
 | .lst xs => xs.length ≤ sizeLine ∧ ∃ (its : List Value) (n : Nat), Vals xs its ∧ h.get? a = some { cls := .type "list", data := .seq its.toArray n }
 | .tup xs => xs.length ≤ sizeLine ∧ ∃ its : List Value, Vals xs its ∧ IsTup h a its.toArray
 | .dK kvs => kvs.length ≤ sizeLine ∧ (a == sysModules) = false ∧ ∃ vs, KV kvs vs ∧ h.DictOf (mixKind P w) a vs
 | .dT kvs => kvs.length ≤ sizeLine ∧ (a == sysModules) = false ∧ ∃ xs : List (List Key × Addr × Value),
   Paired (fun (p : List Key × V) (q : List Key × Addr × Value) => p.1 = q.1 ∧ H q.2.1 = some (.tup (p.1.map kV)) ∧ RelV p.2 q.2.2) kvs xs ∧
   ∃ o es ep, h.get? a = some o ∧ o.ExactDict ∧ o.data = .dict es ep ∧ es.toList = xs.map (entryOfKey (tupleKind (mixKind P w))) ∧ (xs.map (·.1)).Nodup
 | .set S n => h.SetOf (intKind P w) a S n
 | .ins C dx fs => H dx = some (.own a) ∧ fs.length ≤ 1000 ∧ dx ≠ a ∧ h.get? a = some (PySem.W.instObj C dx) ∧
   ∃ mA, h.Ns1 dx mA ∧ (∀ f, RelO (fs.lookup f) (mA f)) ∧ PySem.Within mA (fs.map (·.1))
 | .own _ => ∃ o, h.get? a = some o
 | .xd fs => ∃ mA, h.Ns1 a mA ∧ ∀ f, RelO (fs.lookup f) (mA f)
 | .rng lo hi => ∃ t u v, h.get? a = some { cls := .type "range", data := .fields #[.int lo t, .int hi u, .int 1 v] }
 | .frz o u => h.get? a = some o ∧ ObjOk H h a u
 | .tbl ps => h.get? a = some { cls := .none, data := .fields ps }
 | .met f x => h.get? a = some (PySem.W.methodObj (.ref f) (.ref x))
 | .ext φ => φ h ∧ (∃ o, h.get? a = some o) ∧ ∀ h1 h2 : Heap, φ h1 → (∀ o, h1.get? a = some o → h2.get? a = some o) → φ h2
noncomputable def HOk (H : Hp) (h : Heap) : Prop := ∀ a o, H a = some o → ObjOk P w H h a o
end
section
variable {P : Program} {w : World} {H H' : Hp} {h h' : Heap} {a : Addr} {o : HO}
theorem ObjOk.lt (x : ObjOk P w H h a o) : a < h.objs.size := by
 cases o with
 | lst xs => obtain ⟨_, _, _, _, e⟩ := x; exact Heap.lt_size e
 | tup xs => obtain ⟨_, _, _, p⟩ := x; exact p.lt
 | dK kvs => obtain ⟨_, _, _, _, o, _, _, e, _⟩ := x; exact Heap.lt_size e
 | dT kvs => obtain ⟨_, _, _, _, o, _, _, e, _⟩ := x; exact Heap.lt_size e
 | set S n => obtain ⟨o, _, _, _, e, _⟩ := x; exact Heap.lt_size e
 | ins C dx fs => obtain ⟨_, _, _, e, _⟩ := x; exact Heap.lt_size e
 | own y => obtain ⟨_, e⟩ := x; exact Heap.lt_size e
 | xd fs => obtain ⟨_, ⟨_, _, _, e, _⟩, _⟩ := x; exact Heap.lt_size e
 | rng lo hi => obtain ⟨_, _, _, e⟩ := x; exact Heap.lt_size e
 | frz ob u => obtain ⟨e, _⟩ := x; exact Heap.lt_size e
 | tbl ps => exact Heap.lt_size (show h.get? a = some _ from x)
 | met f y => exact Heap.lt_size (show h.get? a = some _ from x)
 | ext φ => obtain ⟨_, ⟨_, e⟩, _⟩ := x; exact Heap.lt_size e
theorem Paired.mapP {α β : Type} {F G : α → β → Prop} : ∀ {l₁ : List α} {l₂ : List β}, Paired F l₁ l₂ → (∀ a b, F a b → G a b) → Paired G l₁ l₂
 | _, _, .nil, _ => .nil
 | _, _, .cons r t, f => .cons (f _ _ r) (Paired.mapP t f)
theorem ObjOk.stay (x : ObjOk P w H h a o) (k : ∀ b u, (b = a ∨ H b = some (.own a)) → h.get? b = some u → h'.get? b = some u)
  (ho : ∀ b, H b = some (.own a) → H' b = some (.own a)) (ht : ∀ b xs, H b = some (.tup xs) → H' b = some (.tup xs)) : ObjOk P w H' h' a o := by
 induction o with
 | lst xs => obtain ⟨z, its, n, r, e⟩ := x; exact ⟨z, its, n, r, k _ _ (.inl rfl) e⟩
 | tup xs => obtain ⟨z, its, r, ob, e, c⟩ := x; exact ⟨z, its, r, ob, k _ _ (.inl rfl) e, c⟩
 | dK kvs => obtain ⟨z, y, vs, r, ob, es, ep, e, c⟩ := x; exact ⟨z, y, vs, r, ob, es, ep, k _ _ (.inl rfl) e, c⟩
 | dT kvs =>
  obtain ⟨z, y, xs, r, ob, es, ep, e, c⟩ := x
  exact ⟨z, y, xs, Paired.mapP r fun p q z => ⟨z.1, ht _ _ z.2.1, z.2.2⟩, ob, es, ep, k _ _ (.inl rfl) e, c⟩
 | set S n => obtain ⟨ob, es, ep, t, e, c⟩ := x; exact ⟨ob, es, ep, t, k _ _ (.inl rfl) e, c⟩
 | ins C dx fs =>
  obtain ⟨d, z, ne, e, mA, ⟨od, es, ep, e2, c⟩, r⟩ := x
  exact ⟨ho _ d, z, ne, k _ _ (.inl rfl) e, mA, ⟨od, es, ep, k _ _ (.inr d) e2, c⟩, r⟩
 | own y => obtain ⟨ob, e⟩ := x; exact ⟨ob, k _ _ (.inl rfl) e⟩
 | xd fs => obtain ⟨mA, ⟨od, es, ep, e, c⟩, r⟩ := x; exact ⟨mA, ⟨od, es, ep, k _ _ (.inl rfl) e, c⟩, r⟩
 | rng lo hi => obtain ⟨t, u, v, e⟩ := x; exact ⟨t, u, v, k _ _ (.inl rfl) e⟩
 | frz ob u ih => obtain ⟨e, q⟩ := x; exact ⟨k _ _ (.inl rfl) e, ih q⟩
 | tbl ps =>
  have e : h.get? a = some { cls := .none, data := .fields ps } := x
  show h'.get? a = some { cls := .none, data := .fields ps }
  exact k a _ (.inl rfl) e
 | met f y =>
  have e : h.get? a = some (PySem.W.methodObj (.ref f) (.ref y)) := x
  show h'.get? a = some (PySem.W.methodObj (.ref f) (.ref y))
  exact k a _ (.inl rfl) e
 | ext φ => obtain ⟨p, ⟨o, e⟩, st⟩ := x; exact ⟨st _ _ p fun o q => k _ _ (.inl rfl) q, ⟨o, k _ _ (.inl rfl) e⟩, st⟩
theorem HOk.lt (x : HOk P w H h) (e : H a = some o) : a < h.objs.size := (x a o e).lt
theorem HOk.fresh (x : HOk P w H h) (e : h.objs.size ≤ a) : H a = none := by
 cases q : H a with
 | none => rfl
 | some u => exact absurd (Nat.lt_of_lt_of_le (x.lt q) e) (Nat.lt_irrefl _)
theorem HOk.kept (x : HOk P w H h) (k : ∀ b u, h.get? b = some u → h'.get? b = some u) : HOk P w H h' := fun a o e =>
 (x a o e).stay (fun b u _ q => k b u q) (fun _ q => q) fun _ _ q => q
theorem HOk.laid (x : HOk P w H h) (k : ∀ b u, h.get? b = some u → h'.get? b = some u) (hp : h.objs.size ≤ a) (new : ObjOk P w (upd H a o) h' a o) : HOk P w (upd H a o) h' := fun b u e => by
 have hn := x.fresh hp
 by_cases hb : b = a
 ·subst hb; rw [Z605] at e; cases e; exact new
 ·rw [Z604 hb] at e
  exact (x b u e).stay (fun c v _ q => k c v q) (fun c q => by rw [Z604 (Z352 q hn)]; exact q) fun c xs q => by rw [Z604 (Z352 q hn)]; exact q
end
noncomputable def Rd (H : Hp) (a : Addr) (u : HO) : Prop := H a = some u ∨ ∃ o, H a = some (.frz o u)
theorem Rd.ok {P : Program} {w : World} {H : Hp} {h : Heap} {a : Addr} {u : HO} (r : Rd H a u) (x : HOk P w H h) : ObjOk P w H h a u := by
 rcases r with r | ⟨o, r⟩
 ·exact x a u r
 ·obtain ⟨_, q⟩ := x a _ r
  exact q
noncomputable def Mut : Option HO → Prop
 | some (.lst _) => True
 | some (.dK _) => True
 | some (.dT _) => True
 | some (.set _ _) => True
 | some (.ins _ _ _) => True
 | some (.ext _) => True
 | _ => False
section
variable {P : Program} {w : World} {H : Hp} {h h' : Heap} {x e : Addr} {o' : HO}
theorem HOk.write (ok : HOk P w H h) (mu : Mut (H x)) (he : e = x ∨ H e = some (.own x)) (k : ∀ b u, b ≠ e → h.get? b = some u → h'.get? b = some u) (heo : ∃ u, h'.get? e = some u)
  (new : ObjOk P w (upd H x o') h' x o') : HOk P w (upd H x o') h' := fun b u q => by
 have nown : ∀ c y, H c = some (.own y) → c ≠ x := fun c y r z => by subst z; rw [r] at mu; exact mu
 have ntup : ∀ c xs, H c = some (.tup xs) → c ≠ x := fun c xs r z => by subst z; rw [r] at mu; exact mu
 by_cases hb : b = x
 ·subst hb; rw [Z605] at q; cases q; exact new
 ·rw [Z604 hb] at q
  by_cases hbe : b = e
  ·have q' : H b = some (.own x) := by
    rcases he with z | z
    ·exact absurd (hbe.trans z) hb
    ·rw [hbe]; exact z
   rw [q] at q'; cases q'
   obtain ⟨v, hv⟩ := heo
   exact ⟨v, by rw [hbe]; exact hv⟩
  ·refine (ok b u q).stay (fun c v hc r => k c v ?_ r) (fun c r => by rw [Z604 (nown c b r)]; exact r) fun c xs r => by rw [Z604 (ntup c xs r)]; exact r
   rcases hc with rfl | hc
   ·exact hbe
   ·rintro rfl
    rcases he with z | z
    ·exact nown c b hc z
    ·rw [hc] at z; cases z; exact hb rfl
end

structure Un (fs ex : List Addr) (H H' : Hp) (h h' : Heap) : Prop where
 keep : ∀ b o, h.get? b = some o → H b = none → b ∉ fs → b ∉ ex → h'.get? b = some o
 slot : ∀ b o, h.get? b = some o → H b = none → b ∈ fs → b ∉ ex → ∃ sl, h'.get? b = some { o with slots := sl }
 free : ∀ b o, h.get? b = some o → H b = none → b ∉ ex → H' b = none
 there : ∀ b o, h.get? b = some o → b ∉ ex → ∃ o', h'.get? b = some o'
 tups : ∀ b xs, H b = some (.tup xs) → H' b = some (.tup xs)
 frzs : ∀ b o u, H b = some (.frz o u) → H' b = some (.frz o u)
 tbls : ∀ b ps, H b = some (.tbl ps) → ∃ more, H' b = some (.tbl (ps ++ more))
section
variable {fs fs' ex ex' : List Addr} {H H1 H2 : Hp} {h h1 h2 h' : Heap} {a x e : Addr} {o : HO}
theorem Un.any (u : Un fs ex H H1 h h1) {b : Addr} {ob : Obj} (q : h.get? b = some ob) (n : H b = none) (hx : b ∉ ex) : ∃ sl, h1.get? b = some { ob with slots := sl } := by
 by_cases hb : b ∈ fs
 ·exact u.slot b ob q n hb hx
 ·exact ⟨ob.slots, u.keep b ob q n hb hx⟩
theorem Un.kept (k : ∀ b u, h.get? b = some u → h'.get? b = some u) : Un fs ex H H h h' :=
 ⟨fun b ob q _ _ _ => k b ob q, fun b ob q _ _ _ => ⟨ob.slots, k b ob q⟩, fun _ _ _ n _ => n, fun b ob q _ => ⟨ob, k b ob q⟩, fun _ _ q => q, fun _ _ _ q => q, fun _ ps q => ⟨#[], by rw [q]; simp⟩⟩
theorem Un.refl : Un fs ex H H h h := Un.kept fun _ _ q => q
theorem Un.laid (k : ∀ b u, h.get? b = some u → h'.get? b = some u) (hp : h.objs.size ≤ a) (hn : H a = none) : Un fs ex H (upd H a o) h h' where
 keep := fun b u q _ _ _ => k b u q
 slot := fun b u q _ _ _ => ⟨u.slots, k b u q⟩
 free := fun b u q n _ => by rw [Z604 (Nat.ne_of_lt (Nat.lt_of_lt_of_le (Heap.lt_size q) hp))]; exact n
 there := fun b u q _ => ⟨u, k b u q⟩
 tups := fun b xs q => by rw [Z604 (Z352 q hn)]; exact q
 frzs := fun b u xs q => by rw [Z604 (Z352 q hn)]; exact q
 tbls := fun b ps q => ⟨#[], by rw [Z604 (Z352 q hn), q]; simp⟩
theorem Un.write (mu : Mut (H x)) (he : e = x ∨ H e = some (.own x)) (k : ∀ b u, b ≠ e → h.get? b = some u → h'.get? b = some u) (heo : ∃ u, h'.get? e = some u) : Un fs ex H (upd H x o) h h' := by
 have hx : ∀ b, H b = none → b ≠ x := fun b n z => by subst z; rw [n] at mu; exact mu
 have hb : ∀ b, H b = none → b ≠ e := fun b n z => by
  subst z
  rcases he with r | r
  ·exact hx b n r
  ·rw [n] at r; cases r
 have hm : ∀ b u, H b = some u → ¬ Mut (some u) → b ≠ x := fun b u q nm z => by subst z; rw [q] at mu; exact nm mu
 refine ⟨fun b u q n _ _ => k b u (hb b n) q, fun b u q n _ _ => ⟨u.slots, k b u (hb b n) q⟩, fun b u q n _ => by rw [Z604 (hx b n)]; exact n, fun b u q _ => ?_,
  fun b xs q => by rw [Z604 (hm b _ q fun z => z)]; exact q, fun b u xs q => by rw [Z604 (hm b _ q fun z => z)]; exact q, fun b ps q => ⟨#[], by rw [Z604 (hm b _ q fun z => z), q]; simp⟩⟩
 by_cases hbe : b = e
 ·subst hbe; exact heo
 ·exact ⟨u, k b u hbe q⟩
end

noncomputable def trk (h : Heap) (H : Hp) : List Addr := (List.range h.objs.size).filter fun a => (H a).isSome
noncomputable def hidT (h : Heap) (H : Hp) : Heap := PySem.W.hideAll h (trk h H)
theorem Z189 (h : Heap) (H : Hp) : (hidT h H).objs.size = h.objs.size := PySem.W.hideAll_size _ _
theorem Z188 {h : Heap} {H : Hp} {b : Addr} {o : Obj} (e : h.get? b = some o) (n : H b = none) : (hidT h H).get? b = some o :=
 PySem.W.hideAll_get _ e fun hm => by
  have q : (H b).isSome = true := (List.mem_filter.mp hm).2
  rw [n] at q; simp at q
theorem Z357 {h : Heap} {H : Hp} {b : Addr} {o : Obj} (e : (hidT h H).get? b = some o) : h.get? b = some o ∧ H b = none := by
 have e' : h.get? b = some o := PySem.W.of_hideAll (trk h H) e
 refine ⟨e', ?_⟩
 cases q : H b with
 | none => rfl
 | some x =>
  have hm : b ∈ trk h H := List.mem_filter.mpr ⟨List.mem_range.mpr (Heap.lt_size e'), by simp [q]⟩
  have z : (hidT h H).get? b = none := PySem.W.hideAll_none (trk h H) hm
  rw [z] at e; cases e

noncomputable def allNews (g h : Heap) (L : Addr) : List (Addr × Obj) := (List.range h.objs.size).filterMap fun a => if a = L ∨ (g.get? a).isSome = true then none else (h.get? a).map fun o => (a, o)
noncomputable def rest (g h : Heap) (L d : Addr) : List (Addr × Obj) := (allNews g h L).filter fun p => decide (p.1 ≠ d)
end L2
namespace L2
open PySem PySem.Spec PyProof.Rows
structure Mod (K : PySem.W.Frag) (mg : Str → Option Value) (base : Heap) : Prop where
 kin : K.In base
 glob : base.Ns mainGlobals mg
 blt : ∃ mb, base.Ns builtinsNs mb ∧ ∀ x : Str, x ≠ "__name__" → mb x = bootBuiltins x
 nolimit : base.NoLimit
structure Cx where
 prog : Program
 w : World
 K : PySem.W.Frag
 mg : Str → Option Value
 base : Heap
 A : Around
 N : List Str
 s₀ : Shared
 H₀ : Hp
 env : Env
 outer : List Env
 stack : List Env
 ex : List Addr
 fn : Str → Bool
 calm : Bool
 pn : List (Addr × Obj)
 xe : Value → Shared → Prop
noncomputable def frs (l : List Env) : List Addr := l.filterMap (·.frame)
noncomputable abbrev Cx.fs (X : Cx) : List Addr := frs X.outer
noncomputable def Vis (sc : Scope) (x : Str) : Prop := sc.names.lookup x = some .local ∨ sc.names.lookup x = some .cell ∨ sc.names.lookup x = some .free
noncomputable def Loc (sc : Scope) (x : Str) : Prop := sc.names.lookup x = some .local ∨ sc.names.lookup x = some .cell
noncomputable def Look (env : Env) (h : Heap) (m : Str → Option Value) (x : Str) (u : Value) : Prop :=
 (env.kindOf x = some .local ∧ m x = some u) ∨ ((env.kindOf x = some .cell ∨ env.kindOf x = some .free) ∧ ∃ c, env.cells.lookup x = some c ∧ h.IsCell c (some u))
structure Cx.Ok (X : Cx) : Prop where
 mod : Mod X.K X.mg X.base
 kind : X.env.scope.kind = .function
 glob : X.env.globals = mainGlobals
 blt : X.env.builtins = builtinsNs
 above : X.s₀.heap.objs.size ≤ X.env.locals
 inj : ∀ x y c, X.env.cells.lookup x = some c → X.env.cells.lookup y = some c → x = y
 has : ∀ x, (X.env.kindOf x = some .cell ∨ X.env.kindOf x = some .free) → ∃ c, X.env.cells.lookup x = some c
 cab : ∀ x c, X.fn x = true → X.env.cells.lookup x = some c → X.s₀.heap.objs.size ≤ c
 hd : X.calm = true → X.A.handled = none
 frames : X.A.frames = some X.stack
 stk : X.stack = X.outer ∨ (X.stack = X.env :: X.outer ∧ X.env.frame = some X.env.locals)
 exf : ∀ b ∈ X.ex, b ≠ X.env.locals ∧ ∀ x c, X.env.cells.lookup x = some c → c ≠ b
 bs : ∀ b o, X.base.get? b = some o → X.s₀.heap.get? b = some o ∧ X.H₀ b = none
 bsz : X.base.objs.size ≤ X.s₀.heap.objs.size
 noex : ∀ b o, X.base.get? b = some o → b ∉ X.ex
 exfs : ∀ b ∈ X.ex, b ∉ X.fs
 funs : X.s₀.heap.FunFrames X.base X.outer
 frf : ∀ b ∈ X.fs, X.H₀ b = none
structure Inv (X : Cx) (pins : List (Addr × Obj)) (σ : List (Option V)) (H : Hp) (s : Shared) : Prop where
 ok : X.Ok
 os : s.os = X.s₀.os
 bare : AllBare s.gens
 base : Un X.fs X.ex X.H₀ H X.s₀.heap s.heap
 loc : ∃ m, s.heap.Ns X.env.locals m ∧ ∀ (i : Nat) (x : Str) (v : V), X.N[i]? = some x → σ[i]? = some (some v) → Vis X.env.scope x → ∃ u, RelV v u ∧ Look X.env s.heap m x u
 cell : ∀ x c, X.env.cells.lookup x = some c → ∃ v, s.heap.IsCell c v
 free : H X.env.locals = none
 freeC : ∀ x c, X.env.cells.lookup x = some c → H c = none
 pin : ∀ p ∈ X.pn ++ pins, s.heap.get? p.1 = some p.2 ∧ H p.1 = none ∧ p.1 ≠ X.env.locals ∧ p.1 ∉ X.fs ∧ ∀ v, p.2.data ≠ .cell v
 hok : HOk X.prog X.w H s.heap
 len : σ.length = X.N.length
section
variable {X : Cx} {pins : List (Addr × Obj)} {σ : List (Option V)} {H H' : Hp} {s : Shared} {h' : Heap}
theorem Cx.Ok.nofr (ok : X.Ok) {b : Addr} {o : Obj} (e : X.base.get? b = some o) : b ∉ X.fs := fun hb => by
 have := (ok.funs.mem hb).1
 rw [e] at this; cases this
theorem Inv.bs (I : Inv X pins σ H s) : ∀ b o, X.base.get? b = some o → s.heap.get? b = some o ∧ H b = none := fun b o e =>
 ⟨I.base.keep b o (I.ok.bs b o e).1 (I.ok.bs b o e).2 (I.ok.nofr e) (I.ok.noex b o e), I.base.free b o (I.ok.bs b o e).1 (I.ok.bs b o e).2 (I.ok.noex b o e)⟩
theorem Inv.bk (I : Inv X pins σ H s) : ∀ b o, X.base.get? b = some o → s.heap.get? b = some o := fun b o e => (I.bs b o e).1
theorem Inv.mod (I : Inv X pins σ H s) : Mod X.K X.mg X.base := I.ok.mod
theorem Inv.kIn (I : Inv X pins σ H s) : X.K.In s.heap := I.ok.mod.kin.keeps I.bk
theorem Inv.lt (I : Inv X pins σ H s) : X.env.locals < s.heap.objs.size := let ⟨_, hn, _⟩ := I.loc; hn.lt
theorem Inv.sz (I : Inv X pins σ H s) : X.s₀.heap.objs.size ≤ s.heap.objs.size := Nat.le_trans I.ok.above (Nat.le_of_lt I.lt)
theorem Inv.nofs (I : Inv X pins σ H s) {a : Addr} (h : s.heap.objs.size ≤ a) : a ∉ X.fs := fun hb => by
 obtain ⟨_, o, ho, _⟩ := I.ok.funs.mem hb
 exact absurd (Nat.lt_of_lt_of_le (Heap.lt_size ho) (Nat.le_trans I.sz h)) (Nat.lt_irrefl _)
theorem Inv.cne (I : Inv X pins σ H s) : ∀ x c, X.env.cells.lookup x = some c → c ≠ X.env.locals := fun x c e z => by
 obtain ⟨v, o, ho, hd⟩ := I.cell x c e
 obtain ⟨m, ⟨o', es, ep, ho', hd', _⟩, _⟩ := I.loc
 rw [z, ho'] at ho; cases ho; rw [hd'] at hd; cases hd
theorem Inv.funs (I : Inv X pins σ H s) : s.heap.FunFrames X.base X.outer := by
 have all : ∀ (l : List Env), (∀ b ∈ frs l, b ∈ X.fs) → X.s₀.heap.FunFrames X.base l → s.heap.FunFrames X.base l := by
  intro l
  induction l with
  | nil => intro _ _; trivial
  | cons env r ih =>
   intro hs hl
   obtain ⟨hk, ⟨L, o, hf, hn, ho, hd⟩, hr⟩ := hl
   have hL : L ∈ X.fs := hs L (by unfold frs; rw [List.filterMap_cons, hf]; exact List.mem_cons_self)
   obtain ⟨sl, e⟩ := I.base.slot L o ho (I.ok.frf L hL) hL fun z => I.ok.exfs L z hL
   exact ⟨hk, ⟨L, _, hf, hn, e, hd⟩, ih (fun b hb => hs b (by unfold frs; rw [List.filterMap_cons, hf]; exact List.mem_cons_of_mem _ hb)) hr⟩
 exact all X.outer (fun _ hb => hb) I.ok.funs
theorem Inv.stack (I : Inv X pins σ H s) : s.heap.FunFrames X.base X.stack := by
 rcases I.ok.stk with e | ⟨e, hf⟩
 ·rw [e]; exact I.funs
 ·rw [e]
  obtain ⟨m, hn, _⟩ := I.loc
  refine .cons (by rw [I.ok.kind]; decide) hf hn ?_ I.funs
  exact Heap.get?_none_of_le (Nat.le_trans I.ok.bsz I.ok.above)
theorem Inv.stkSub (I : Inv X pins σ H s) : ∀ b ∈ frs X.stack, b ∈ X.env.locals :: X.fs := fun b hb => by
 rcases I.ok.stk with e | ⟨e, hf⟩
 ·rw [e] at hb; exact List.mem_cons_of_mem _ hb
 ·rw [e] at hb
  unfold frs at hb
  rw [List.filterMap_cons, hf] at hb
  exact hb
theorem Inv.stkFree (I : Inv X pins σ H s) : ∀ b ∈ frs X.stack, H b = none := fun b hb => by
 rcases List.mem_cons.mp (I.stkSub b hb) with e | hb
 ·rw [e]; exact I.free
 ·obtain ⟨_, o, ho, _⟩ := I.ok.funs.mem hb
  exact I.base.free b o ho (I.ok.frf b hb) fun z => I.ok.exfs b z hb
theorem Inv.step {g' : Array GenState} {t' : Nat} {d' : Drawn} {ch : List Addr} (I : Inv X pins σ H s)
  (hch : ∀ b ∈ ch, (b ∈ X.ex ∨ X.s₀.heap.objs.size ≤ b) ∧ b ≠ X.env.locals ∧ (∀ x c, X.env.cells.lookup x = some c → c ≠ b) ∧ ∀ p ∈ X.pn ++ pins, p.1 ≠ b)
  (keep : ∀ b o, b ≠ X.env.locals → b ∉ X.fs → b ∉ ch → s.heap.get? b = some o → H b = none → h'.get? b = some o)
  (slot : ∀ b o, b ≠ X.env.locals → b ∈ X.fs → b ∉ ch → s.heap.get? b = some o → H b = none → ∃ sl, h'.get? b = some { o with slots := sl }) (free : ∀ b o, b ∉ ch → s.heap.get? b = some o → H b = none → H' b = none)
  (there : ∀ b o, b ∉ ch → s.heap.get? b = some o → ∃ o', h'.get? b = some o')
  (tups : ∀ b xs, H b = some (.tup xs) → H' b = some (.tup xs)) (frzs : ∀ b o u, H b = some (.frz o u) → H' b = some (.frz o u)) (tbls : ∀ b ps, H b = some (.tbl ps) → ∃ more, H' b = some (.tbl (ps ++ more)))
  (ns : ∀ m, s.heap.Ns X.env.locals m → h'.Ns X.env.locals m) (hok : HOk X.prog X.w H' h') (hg : AllBare g') :
  Inv X pins σ H' { s with heap := h', gens := g', drawn := d', toks := t' } := by
 have neL : ∀ b o, X.s₀.heap.get? b = some o → b ≠ X.env.locals := fun b o e => Nat.ne_of_lt (Nat.lt_of_lt_of_le (Heap.lt_size e) I.ok.above)
 have neC : ∀ b o, X.s₀.heap.get? b = some o → b ∉ X.ex → b ∉ ch := fun b o e hx hb => by
  rcases (hch b hb).1 with z | z
  ·exact hx z
  ·exact absurd (Nat.lt_of_lt_of_le (Heap.lt_size e) z) (Nat.lt_irrefl _)
 have cellK : ∀ x c, X.env.cells.lookup x = some c → ∀ v, s.heap.IsCell c v → h'.IsCell c v := fun x c e v ⟨o, ho, hd⟩ => by
  have nch : c ∉ ch := fun z => (hch c z).2.2.1 x c e rfl
  by_cases hc : c ∈ X.fs
  ·obtain ⟨sl, q⟩ := slot c o (I.cne x c e) hc nch ho (I.freeC x c e)
   exact ⟨_, q, hd⟩
  ·exact ⟨o, keep c o (I.cne x c e) hc nch ho (I.freeC x c e), hd⟩
 refine ⟨I.ok, I.os, hg, ⟨fun b o e n hb hx => ?_, fun b o e n hb hx => ?_, fun b o e n hx => ?_, fun b o e hx => ?_, fun b xs e => tups b xs (I.base.tups b xs e), fun b o xs e => frzs b o xs (I.base.frzs b o xs e), fun b ps e => ?_⟩, ?_, fun x c e => ?_, ?_, fun x c e => ?_, fun p hp => ?_, hok, I.len⟩
 ·exact keep b o (neL b o e) hb (neC b o e hx) (I.base.keep b o e n hb hx) (I.base.free b o e n hx)
 ·obtain ⟨sl, e1⟩ := I.base.slot b o e n hb hx
  obtain ⟨sl', e2⟩ := slot b _ (neL b o e) hb (neC b o e hx) e1 (I.base.free b o e n hx)
  exact ⟨sl', e2⟩
 ·obtain ⟨o', e1⟩ := I.base.there b o e hx
  exact free b o' (neC b o e hx) e1 (I.base.free b o e n hx)
 ·obtain ⟨o', e1⟩ := I.base.there b o e hx
  exact there b o' (neC b o e hx) e1
 ·obtain ⟨m1, e1⟩ := I.base.tbls b ps e
  obtain ⟨m2, e2⟩ := tbls b _ e1
  exact ⟨m1 ++ m2, by rw [e2, Array.append_assoc]⟩
 ·obtain ⟨m, hn, hl⟩ := I.loc
  refine ⟨m, ns m hn, fun i x v e1 e2 e3 => ?_⟩
  obtain ⟨u, r, l⟩ := hl i x v e1 e2 e3
  refine ⟨u, r, ?_⟩
  rcases l with l | ⟨k, c, e, z⟩
  ·exact .inl l
  ·exact .inr ⟨k, c, e, cellK x c e _ z⟩
 ·obtain ⟨v, z⟩ := I.cell x c e
  exact ⟨v, cellK x c e v z⟩
 ·obtain ⟨m, ⟨o, _, _, ho, _⟩, _⟩ := I.loc
  exact free _ o (fun z => (hch _ z).2.1 rfl) ho I.free
 ·obtain ⟨v, o, ho, hd⟩ := I.cell x c e
  exact free c o (fun z => (hch c z).2.2.1 x c e rfl) ho (I.freeC x c e)
 ·obtain ⟨e, n, ne, nf, d⟩ := I.pin p hp
  have nch : p.1 ∉ ch := fun z => (hch p.1 z).2.2.2 p hp rfl
  exact ⟨keep p.1 p.2 ne nf nch e n, free p.1 p.2 nch e n, ne, nf, d⟩
theorem Inv.un {t' : Nat} (I : Inv X pins σ H s) (u : Un X.fs [] H H' s.heap h') (hok : HOk X.prog X.w H' h') : Inv X pins σ H' { s with heap := h', toks := t' } := by
 obtain ⟨m, ⟨o, es, ep, ho, r⟩, _⟩ := id I.loc
 obtain ⟨sl, hL⟩ := u.any ho I.free (by simp)
 exact I.step (g' := s.gens) (d' := s.drawn) (ch := []) (fun _ z => nomatch z) (fun b o _ hb _ e n => u.keep b o e n hb (by simp)) (fun b o _ hb _ e n => u.slot b o e n hb (by simp)) (fun b o _ e n => u.free b o e n (by simp)) (fun b o _ e => u.there b o e (by simp)) u.tups u.frzs u.tbls (fun m' hm => by
  obtain ⟨o', es', ep', ho', r'⟩ := hm
  rw [ho] at ho'; cases ho'
  exact ⟨_, es', ep', hL, r'⟩) hok I.bare
theorem Inv.call {g' : Array GenState} {t' : Nat} {d' : Drawn} {ch : List Addr} (I : Inv X pins σ H s) (u : Un (frs X.stack) ch H H' s.heap h') (hok : HOk X.prog X.w H' h') (hg : AllBare g')
  (hch : ∀ b ∈ ch, (b ∈ X.ex ∨ X.s₀.heap.objs.size ≤ b) ∧ b ≠ X.env.locals ∧ (∀ x c, X.env.cells.lookup x = some c → c ≠ b) ∧ ∀ p ∈ X.pn ++ pins, p.1 ≠ b) :
  Inv X pins σ H' { s with heap := h', gens := g', drawn := d', toks := t' } := by
 obtain ⟨m, ⟨o, es, ep, ho, r⟩, _⟩ := id I.loc
 obtain ⟨sl, hL⟩ := u.any ho I.free fun z => (hch _ z).2.1 rfl
 exact I.step (ch := ch) hch (fun b o hL hb hc e n => u.keep b o e n (fun z => (List.mem_cons.mp (I.stkSub b z)).elim hL hb) hc) (fun b o _ _ hc e n => u.any e n hc) (fun b o hc e n => u.free b o e n hc) (fun b o hc e => u.there b o e hc) u.tups u.frzs u.tbls (fun m' hm => by
  obtain ⟨o', es', ep', ho', r'⟩ := hm
  rw [ho] at ho'; cases ho'
  exact ⟨_, es', ep', hL, r'⟩) hok hg
theorem Inv.turned {t' : Nat} {it : Addr} (I : Inv X pins σ H s) (k : ∀ b o, b ≠ it → s.heap.get? b = some o → h'.get? b = some o) (hn : H it = none) (hL : it ≠ X.env.locals)
  (h1 : it ∈ X.ex ∨ X.s₀.heap.objs.size ≤ it) (h2 : ∀ x c, X.env.cells.lookup x = some c → c ≠ it) (h3 : ∀ p ∈ X.pn ++ pins, p.1 ≠ it) : Inv X pins σ H { s with heap := h', toks := t' } := by
 have nit : ∀ b u, H b = some u → b ≠ it := fun b u e z => by rw [z, hn] at e; cases e
 refine I.step (g' := s.gens) (d' := s.drawn) (ch := [it]) (fun b hb => ?_) (fun b o _ _ hc e _ => k b o (fun z => hc (by simp [z])) e) (fun b o _ _ hc e _ => ⟨o.slots, k b o (fun z => hc (by simp [z])) e⟩) (fun _ _ _ _ n => n)
  (fun b o hc e => ⟨o, k b o (fun z => hc (by simp [z])) e⟩) (fun _ _ e => e) (fun _ _ _ e => e) (fun b ps e => ⟨#[], by rw [e]; simp⟩) (fun m hm => ?_) (fun b u e => ?_) I.bare
 ·have e : b = it := by simpa using hb
  subst e
  exact ⟨h1, hL, h2, h3⟩
 ·obtain ⟨o, es, ep, ho, r⟩ := hm
  exact ⟨o, es, ep, k _ o (Ne.symm hL) ho, r⟩
 ·refine (I.hok b u e).stay (fun c v hc q => k c v ?_ q) (fun _ q => q) fun _ _ q => q
  rcases hc with z | z
  ·rw [z]; exact nit b u e
  ·exact nit c _ z
theorem Inv.tok (I : Inv X pins σ H s) (t : Nat) : Inv X pins σ H { s with toks := t } := I.un (h' := s.heap) (t' := t) Un.refl I.hok
theorem Inv.kept {t' : Nat} (I : Inv X pins σ H s) (k : ∀ b u, s.heap.get? b = some u → h'.get? b = some u) : Inv X pins σ H { s with heap := h', toks := t' } := I.un (Un.kept k) (I.hok.kept k)
theorem Inv.laid {a : Addr} {o : HO} {t' : Nat} (I : Inv X pins σ H s) (k : ∀ b u, s.heap.get? b = some u → h'.get? b = some u) (hp : s.heap.objs.size ≤ a) (new : ObjOk X.prog X.w (upd H a o) h' a o) :
  Inv X pins σ (upd H a o) { s with heap := h', toks := t' } := I.un (Un.laid k hp (I.hok.fresh hp)) (I.hok.laid k hp new)
theorem Inv.write {x e : Addr} {o : HO} {t' : Nat} (I : Inv X pins σ H s) (mu : Mut (H x)) (he : e = x ∨ H e = some (.own x)) (k : ∀ b u, b ≠ e → s.heap.get? b = some u → h'.get? b = some u) (heo : ∃ u, h'.get? e = some u)
  (new : ObjOk X.prog X.w (upd H x o) h' x o) : Inv X pins σ (upd H x o) { s with heap := h', toks := t' } := I.un (Un.write mu he k heo) (I.hok.write mu he k heo new)
theorem Inv.pins_of {pins' : List (Addr × Obj)} (I : Inv X pins σ H s) (h : ∀ p ∈ pins', s.heap.get? p.1 = some p.2 ∧ H p.1 = none ∧ p.1 ≠ X.env.locals ∧ p.1 ∉ X.fs ∧ ∀ v, p.2.data ≠ .cell v) : Inv X pins' σ H s :=
 ⟨I.ok, I.os, I.bare, I.base, I.loc, I.cell, I.free, I.freeC, fun p hp => (List.mem_append.mp hp).elim (fun z => I.pin p (List.mem_append_left _ z)) (h p), I.hok, I.len⟩
theorem Z354 {N : List Str} (hN : N.Nodup) {i j : Nat} {x : Str} (a : N[i]? = some x) (b : N[j]? = some x) : i = j := by
 obtain ⟨h1, e1⟩ := List.getElem?_eq_some_iff.mp a
 obtain ⟨h2, e2⟩ := List.getElem?_eq_some_iff.mp b
 exact (List.getElem_inj hN).mp (e1.trans e2.symm)
theorem Z566 {M : Model} {A : Around} {E : Value → Shared → Prop} {i : Nat} {x : Str} {v : V} {u : Value} {Q : Unit → Shared → Prop} (I : Inv X pins σ H s) (hN : X.N.Nodup) (hi : X.N[i]? = some x) (hx : Loc X.env.scope x) (r : RelV v u)
  (h : ∀ s', Inv X pins (σ.set i (some v)) H s' → (∃ a, Heap.SameBut a s.heap s'.heap ∧ (a = X.env.locals ∨ X.env.cells.lookup x = some a)) → Q () s') (hf : X.fn x = true ∨ X.env.scope.names.lookup x = some .local := by first | exact .inl rfl | exact .inr rfl | assumption) : wpAny M A (storeName X.env x u) Q E s := by
 obtain ⟨m, hn, hl⟩ := id I.loc
 have hcls : (X.env.scope.kind == .class || (X.env.scope.kind == .module && X.env.locals != X.env.globals)) = false := by rw [I.ok.kind]; rfl
 have hiσ : i < σ.length := by rw [I.len]; exact (List.getElem?_eq_some_iff.mp hi).1
 have cne := I.cne
 have tracked : ∀ {a : Addr} {h' : Heap}, (∃ o, s.heap.get? a = some o ∧ H a = none) → Heap.SameBut a s.heap h' → HOk X.prog X.w H h' := fun {a h'} ha hs b ob e => by
  obtain ⟨_, _, hfree⟩ := ha
  refine (I.hok b ob e).stay (fun c w' hc q => (hs.2 c ?_).trans q) (fun _ q => q) fun _ _ q => q
  rintro rfl
  rcases hc with rfl | hc
  ·rw [hfree] at e; cases e
  ·rw [hfree] at hc; cases hc
 rcases hx with hk | hk
 ·refine wpAny_storeName_local hk hn (fun h' hn' hs => ?_) hcls
  obtain ⟨oL, _, _, hoL, _⟩ := id hn
  refine h _ ⟨I.ok, I.os, I.bare, ⟨fun b o e n hb hx => ?_, fun b o e n hb hx => ?_, I.base.free, fun b o e hx => ?_, I.base.tups, I.base.frzs, I.base.tbls⟩, ⟨_, hn', fun j y v' e1 e2 e3 => ?_⟩, fun y c e => ?_, I.free, I.freeC, fun p hp => ?_, tracked ⟨oL, hoL, I.free⟩ hs, by simpa using I.len⟩ ⟨_, hs, .inl rfl⟩
  ·exact (hs.2 b (Nat.ne_of_lt (Nat.lt_of_lt_of_le (Heap.lt_size e) I.ok.above))).trans (I.base.keep b o e n hb hx)
  ·obtain ⟨sl, e1⟩ := I.base.slot b o e n hb hx
   exact ⟨sl, (hs.2 b (Nat.ne_of_lt (Nat.lt_of_lt_of_le (Heap.lt_size e) I.ok.above))).trans e1⟩
  ·obtain ⟨o', e1⟩ := I.base.there b o e hx
   exact ⟨o', (hs.2 b (Nat.ne_of_lt (Nat.lt_of_lt_of_le (Heap.lt_size e) I.ok.above))).trans e1⟩
  ·by_cases hj : j = i
   ·subst hj
    rw [hi] at e1; cases e1
    rw [List.getElem?_set_self hiσ] at e2
    cases e2
    exact ⟨u, r, .inl ⟨hk, by simp⟩⟩
   ·rw [List.getElem?_set_ne (Ne.symm hj)] at e2
    obtain ⟨u', r', q⟩ := hl j y v' e1 e2 e3
    refine ⟨u', r', ?_⟩
    rcases q with ⟨k, e⟩ | ⟨k, c, e, z⟩
    ·refine .inl ⟨k, ?_⟩
     have : y ≠ x := fun e => hj (Z354 hN e1 (e ▸ hi))
     simp [this, e]
    ·exact .inr ⟨k, c, e, z.sameBut hs (cne y c e)⟩
  ·obtain ⟨w', z⟩ := I.cell y c e
   exact ⟨w', z.sameBut hs (cne y c e)⟩
  ·obtain ⟨e, n, ne, nf, d⟩ := I.pin p hp
   exact ⟨(hs.2 p.1 ne).trans e, n, ne, nf, d⟩
 ·have hfn : X.fn x = true := by
   rcases hf with z | z
   ·exact z
   ·rw [z] at hk; cases hk
  obtain ⟨c, hc⟩ := I.ok.has x (.inl hk)
  obtain ⟨w', z⟩ := I.cell x c hc
  refine wpAny_storeName_cell I.ok.kind hk hc z (fun h' hc' hs => ?_)
  obtain ⟨oc, hoc, hocd⟩ := id z
  refine h { s with heap := h' } ⟨I.ok, I.os, I.bare, ⟨fun b o e n hb hx => ?_, fun b o e n hb hx => ?_, I.base.free, fun b o e hx => ?_, I.base.tups, I.base.frzs, I.base.tbls⟩, ⟨m, hn.sameBut hs (Ne.symm (cne x c hc)), fun j y v' e1 e2 e3 => ?_⟩, fun y c' e => ?_, I.free, I.freeC, fun p hp => ?_, tracked ⟨oc, hoc, I.freeC x c hc⟩ hs, by simpa using I.len⟩ ⟨c, hs, .inr hc⟩
  ·exact (hs.2 b (Nat.ne_of_lt (Nat.lt_of_lt_of_le (Heap.lt_size e) (I.ok.cab x c hfn hc)))).trans (I.base.keep b o e n hb hx)
  ·obtain ⟨sl, e1⟩ := I.base.slot b o e n hb hx
   exact ⟨sl, (hs.2 b (Nat.ne_of_lt (Nat.lt_of_lt_of_le (Heap.lt_size e) (I.ok.cab x c hfn hc)))).trans e1⟩
  ·obtain ⟨o', e1⟩ := I.base.there b o e hx
   exact ⟨o', (hs.2 b (Nat.ne_of_lt (Nat.lt_of_lt_of_le (Heap.lt_size e) (I.ok.cab x c hfn hc)))).trans e1⟩
  ·by_cases hj : j = i
   ·subst hj
    rw [hi] at e1; cases e1
    rw [List.getElem?_set_self hiσ] at e2
    cases e2
    exact ⟨u, r, .inr ⟨.inl hk, c, hc, hc'⟩⟩
   ·rw [List.getElem?_set_ne (Ne.symm hj)] at e2
    obtain ⟨u', r', q⟩ := hl j y v' e1 e2 e3
    refine ⟨u', r', ?_⟩
    rcases q with q | ⟨k, c', e, z'⟩
    ·exact .inl q
    ·refine .inr ⟨k, c', e, z'.sameBut hs ?_⟩
     rintro rfl
     exact hj (Z354 hN e1 (I.ok.inj _ _ _ e hc ▸ hi))
  ·by_cases hcc : c' = c
   ·subst hcc; exact ⟨_, hc'⟩
   ·obtain ⟨w2, z2⟩ := I.cell y c' e
    exact ⟨w2, z2.sameBut hs hcc⟩
  ·obtain ⟨e, n, ne, nf, d⟩ := I.pin p hp
   refine ⟨(hs.2 p.1 ?_).trans e, n, ne, nf, d⟩
   intro q
   rw [q, hoc] at e
   have q' : oc = p.2 := Option.some.inj e
   exact d w' (by rw [← q']; exact hocd)
theorem Z565 {M : Model} {A : Around} {E : Value → Shared → Prop} {i : Nat} {x : Str} {v : V} {u : Value} {Q : Unit → Shared → Prop} (I : Inv X pins σ H s) (hN : X.N.Nodup) (hi : X.N[i]? = some x) (hx : Loc X.env.scope x) (r : RelV v u)
  (h : ∀ s', Inv X pins (σ.set i (some v)) H s' → Q () s') (hf : X.fn x = true ∨ X.env.scope.names.lookup x = some .local := by first | exact .inl rfl | exact .inr rfl | assumption) : wpAny M A (storeName X.env x u) Q E s :=
 Z566 I hN hi hx r (fun s' I' _ => h s' I') hf
theorem Inv.call' {s' : Shared} {ch : List Addr} (I : Inv X pins σ H s) (ho : s'.os = s.os) (u : Un (frs X.stack) ch H H' s.heap s'.heap) (hok : HOk X.prog X.w H' s'.heap) (hg : AllBare s'.gens)
  (hch : ∀ b ∈ ch, (b ∈ X.ex ∨ X.s₀.heap.objs.size ≤ b) ∧ b ≠ X.env.locals ∧ (∀ x c, X.env.cells.lookup x = some c → c ≠ b) ∧ ∀ p ∈ X.pn ++ pins, p.1 ≠ b) : Inv X pins σ H' s' := by
 obtain ⟨h', g', d', t', o'⟩ := s'
 have e : o' = s.os := ho
 subst e
 exact I.call (g' := g') (t' := t') (d' := d') u hok hg hch
end

noncomputable abbrev XK := Value → Option Addr → Hp → Prop
noncomputable abbrev St := List (Option V)
noncomputable abbrev VK := V → Hp → Prop
noncomputable abbrev TE := St → Hp → VK → Prop
noncomputable abbrev TT := St → Hp → (Bool → Hp → Prop) → Prop
noncomputable abbrev TA := St → Hp → (List V → Hp → Prop) → Prop
structure Ends where
 nx : St → Hp → Prop
 rt : VK
 bk : St → Hp → Prop := fun _ _ => False
 ct : St → Hp → Prop := fun _ _ => False
noncomputable abbrev TS := Ends → St → Hp → Prop
noncomputable def EP (X : Cx) (pins : List (Addr × Obj)) (σ : St) (Q : VK) (u : Value) (s' : Shared) : Prop := ∃ v H', Inv X pins σ H' s' ∧ RelV v u ∧ Q v H'
noncomputable def TP (X : Cx) (pins : List (Addr × Obj)) (σ : St) (Q : Bool → Hp → Prop) (b : Bool) (s' : Shared) : Prop := ∃ H', Inv X pins σ H' s' ∧ Q b H'
noncomputable def AP (X : Cx) (pins : List (Addr × Obj)) (σ : St) (Q : List V → Hp → Prop) (us : List Value) (s' : Shared) : Prop := ∃ vs H', Inv X pins σ H' s' ∧ Vals vs us ∧ Q vs H'
noncomputable def SP (X : Cx) (pins : List (Addr × Obj)) (D : Ends) (f : Flow) (s' : Shared) : Prop :=
 match f with
 | .next => ∃ σ' H', Inv X pins σ' H' s' ∧ D.nx σ' H'
 | .brk => ∃ σ' H', Inv X pins σ' H' s' ∧ D.bk σ' H'
 | .cont => ∃ σ' H', Inv X pins σ' H' s' ∧ D.ct σ' H'
 | .ret u => ∃ v σ' H', Inv X pins σ' H' s' ∧ RelV v u ∧ D.rt v H'
noncomputable def PE (X : Cx) (e : Expr) (t : TE) : Prop :=
 ∀ (pins : List (Addr × Obj)) (s : Shared) (σ : St) (H : Hp) (Q : VK), Inv X pins σ H s → t σ H Q → wpAny (model X.prog X.w) X.A (eval e X.env) (EP X pins σ Q) X.xe s
noncomputable def PT (X : Cx) (e : Expr) (t : TT) : Prop :=
 ∀ (pins : List (Addr × Obj)) (s : Shared) (σ : St) (H : Hp) (Q : Bool → Hp → Prop), Inv X pins σ H s → t σ H Q → wpAny (model X.prog X.w) X.A (isTrue e X.env (eval e X.env)) (TP X pins σ Q) X.xe s
noncomputable def PW (X : Cx) (e : Expr) (t : TT) : Prop :=
 ∀ (whole : Sem Value) (pins : List (Addr × Obj)) (s : Shared) (σ : St) (H : Hp) (Q : Bool → Hp → Prop), Inv X pins σ H s → t σ H Q → wpAny (model X.prog X.w) X.A (isTrue e X.env whole) (TP X pins σ Q) X.xe s
theorem PW.pt {X : Cx} {e : Expr} {t : TT} (h : PW X e t) : PT X e t := h _
noncomputable def PA (X : Cx) (es : List Expr) (t : TA) : Prop :=
 ∀ (pos : Pos) (pins : List (Addr × Obj)) (s : Shared) (σ : St) (H : Hp) (Q : List V → Hp → Prop), Inv X pins σ H s → t σ H Q → wpAny (model X.prog X.w) X.A (spliced (backTo pos (starEach es X.env))) (AP X pins σ Q) X.xe s
noncomputable def PS (X : Cx) (st : Stmt) (t : TS) : Prop :=
 ∀ (pins : List (Addr × Obj)) (s : Shared) (σ : St) (H : Hp) (D : Ends), Inv X pins σ H s → t D σ H → wpAny (model X.prog X.w) X.A (exec st X.env) (SP X pins D) X.xe s
noncomputable def PSs (X : Cx) (st : List Stmt) (t : TS) : Prop :=
 ∀ (pins : List (Addr × Obj)) (s : Shared) (σ : St) (H : Hp) (D : Ends), Inv X pins σ H s → t D σ H → wpAny (model X.prog X.w) X.A (execs st X.env) (SP X pins D) X.xe s
theorem thn {α : Type} {t : Sem α} {Q Q' : α → Shared → Prop} {M : Model} {A : Around} {E : Value → Shared → Prop} {s : Shared} (h : wpAny M A t Q E s) (hQ : ∀ a s, Q a s → Q' a s) : wpAny M A t Q' E s := wpAny_mono h hQ fun _ _ x => x
end L2
namespace L2
open PySem PySem.Spec PyProof.Rows
section
variable {X : Cx}

noncomputable def tVar (i : Nat) : TE := fun σ H Q => ∃ v, σ[i]? = some (some v) ∧ Q v H
noncomputable def tC (v : V) : TE := fun _ H Q => Q v H
theorem Z421 {i : Nat} {x : Str} {pos : Pos} (hN : X.N[i]? = some x) (hv : Vis X.env.scope x) (hd : (x == ("__debug__" : Str)) = false := by decide) (hcd : (x == ("__classdict__" : Str)) = false := by decide) : PE X (.Name x pos) (tVar i) := by
 intro pins s σ H Q I h
 obtain ⟨v, e, h⟩ := h
 obtain ⟨m, hn, hl⟩ := I.loc
 obtain ⟨u, r, l⟩ := hl i x v hN e hv
 have fin : EP X pins σ Q u s := ⟨v, H, I, r, h⟩
 rcases l with ⟨hk, hm⟩ | ⟨hk, c, hc, hcell⟩
 ·exact wpAny_Name (wpAny_loadName_local I.ok.kind hk hn hm fin) hd
 ·rcases hk with hk | hk
  ·exact wpAny_Name (wpAny_loadName_cell I.ok.kind hk hc hcell fin) hd
  ·exact wpAny_Name (wpAny_loadName_free I.ok.kind hk hc hcell fin hcd) hd
theorem Z411 {i j pos} : PE X (.Constant (.int i) j pos) (tC (.int i)) := fun _ _ _ H _ I h => wpAny_Constant_int ⟨.int i, H, I.tok _, ⟨_, rfl⟩, h⟩
theorem pe_bl {b j pos} : PE X (.Constant (.bool b) j pos) (tC (.bl b)) := fun _ _ _ H _ I h => Constant_bool ⟨.bl b, H, I, rfl, h⟩
theorem Z415 {j pos} : PE X (.Constant .none j pos) (tC .non) := fun _ _ _ H _ I h => Constant_none ⟨.non, H, I, rfl, h⟩
theorem Z418 {x j pos} : PE X (.Constant (.str x) j pos) (tC (.str x)) := fun _ _ _ H _ I h => Calls.Constant_str ⟨.str x, H, I.tok _, ⟨_, rfl⟩, h⟩
noncomputable def Gl (X : Cx) (x : Str) : Prop := X.env.kindOf x = some .globalImplicit
theorem Z299 {E : Value → Shared → Prop} {pins : List (Addr × Obj)} {s : Shared} {σ : St} {H : Hp} {x : Str} {u : Value} {pos : Pos} {Q : Value → Shared → Prop} (I : Inv X pins σ H s) (hg : Gl X x) (hm : X.mg x = some u) (h : Q u s)
  (hd : (x == ("__debug__" : Str)) = false := by decide) : wpAny (model X.prog X.w) X.A (eval (.Name x pos) X.env) Q E s :=
 Calls.Name_function_global I.ok.kind hg (Calls.loadGlobal_global (by rw [I.ok.glob]; exact I.mod.glob.keeps I.bk) hm h) hd
theorem Z298 {E : Value → Shared → Prop} {pins : List (Addr × Obj)} {s : Shared} {σ : St} {H : Hp} {x : Str} {u : Value} {pos : Pos} {Q : Value → Shared → Prop} (I : Inv X pins σ H s) (hg : Gl X x) (hm : X.mg x = none) (hv : bootBuiltins x = some u) (h : Q u s)
  (hn : x ≠ "__name__" := by decide) (hd : (x == ("__debug__" : Str)) = false := by decide) : wpAny (model X.prog X.w) X.A (eval (.Name x pos) X.env) Q E s := by
 obtain ⟨mb, h1, h2⟩ := I.mod.blt
 exact Calls.Name_function_global I.ok.kind hg (Calls.loadGlobal_builtin (by rw [I.ok.glob]; exact I.mod.glob.keeps I.bk) hm (by rw [I.ok.blt]; exact h1.keeps I.bk) ((h2 x hn).trans hv) h) hd
theorem Z410 {x : Str} {v : V} {u : Value} {pos : Pos} (hg : Gl X x) (hm : X.mg x = some u) (r : RelV v u) (hd : (x == ("__debug__" : Str)) = false := by decide) : PE X (.Name x pos) (tC v) :=
 fun _ _ _ H _ I h => Z299 I hg hm ⟨v, H, I, r, h⟩ hd
theorem Z398 {x : Str} {v : V} {u : Value} {pos : Pos} (hg : Gl X x) (hm : X.mg x = none) (hv : bootBuiltins x = some u) (r : RelV v u) (hn : x ≠ "__name__" := by decide) (hd : (x == ("__debug__" : Str)) = false := by decide) : PE X (.Name x pos) (tC v) :=
 fun _ _ _ H _ I h => Z298 I hg hm hv ⟨v, H, I, r, h⟩ hn hd

variable {a b : Expr} {ta tb : TE} {pos : Pos}

noncomputable def PC (X : Cx) (op : CmpOp) (a b : Expr) (t : TE) : Prop :=
 ∀ (pins : List (Addr × Obj)) (s : Shared) (σ : St) (H : Hp) (Q : VK), Inv X pins σ H s → t σ H Q →
  wpAny (model X.prog X.w) X.A (eval a X.env) (fun v s₁ => wpAny (model X.prog X.w) X.A (eval b X.env) (fun u s₂ => wpAny (model X.prog X.w) X.A (compareOp op v u) (EP X pins σ Q) X.xe s₂) X.xe s₁) X.xe s
theorem nobehind (b : Expr) {op : CmpOp} (h : op ≠ .In) (h2 : op ≠ .NotIn) : behindInMarks op b = false := by
 have e1 : (op == CmpOp.In) = false := by cases op <;> first | rfl | exact absurd rfl h
 have e2 : (op == CmpOp.NotIn) = false := by cases op <;> first | rfl | exact absurd rfl h2
 cases b <;> simp [behindInMarks, e1, e2]
noncomputable def tB (t : TE) : TT := fun σ H Q => t σ H fun x H1 => ∃ c, x = .bl c ∧ Q c H1
theorem Z401 {op : CmpOp} {t : TE} (h : PC X op a b t) (h1 : behindInMarks op b = false := by first | exact nobehind _ (by decide) (by decide) | rfl) : PE X (.Compare a [op] [b] pos) t := fun pins s σ H Q I hw => wpAny_Compare1 (h pins s σ H Q I hw) h1
theorem Z451 {e : Expr} {t : TE} (h : PE X e t) (he : ∀ whole, isTrue e X.env whole = (do let v ← whole; standAt e.pos; holding [v] (truthy v)) := by intro _; rfl) : PT X e (tB t) := by
 intro pins s σ H Q I hw
 refine isTrue_plain (thn (h pins s σ H _ I hw) fun v s1 ⟨x, H1, I1, r1, q1⟩ => ?_) (he _)
 obtain ⟨d, rfl, q⟩ := q1
 cases r1
 exact wpAny_truthy_bool ⟨H1, I1, q⟩

variable {tA tB' : TT} {rest : List Expr}
noncomputable def tAnd (t u : TT) : TT := fun σ H Q => t σ H fun c H1 => if c = true then u σ H1 Q else Q false H1
noncomputable def tOr (t u : TT) : TT := fun σ H Q => t σ H fun c H1 => if c = true then Q true H1 else u σ H1 Q
noncomputable def tNot (t : TT) : TT := fun σ H Q => t σ H fun c H1 => Q (!c) H1
theorem Z456 (ha : PT X a tA) : PW X (.BoolOp .Or [a] pos) tA := by
 intro wh pins s σ H Q I h
 refine isTrue_or (thn (ha pins s σ H Q I h) fun c s1 e => ?_)
 cases c with
 | false => exact isTrue_or_nil e
 | true => exact e
theorem pw_or (ha : PT X a tA) (hb : PW X (.BoolOp .Or (b :: rest) pos) tB') : PW X (.BoolOp .Or (a :: b :: rest) pos) (tOr tA tB') := by
 intro wh pins s σ H Q I h
 refine isTrue_or (thn (ha pins s σ H _ I h) fun c s1 ⟨H1, I1, q1⟩ => ?_)
 cases c with
 | true => exact ⟨H1, I1, q1⟩
 | false => exact hb wh pins s1 σ H1 Q I1 q1
theorem Z450 (ha : PT X a tA) : PT X (.UnaryOp .Not a pos) (tNot tA) := by
 intro pins s σ H Q I h
 exact isTrue_not (ha pins s σ H (fun c H1 => Q (!c) H1) I h)
noncomputable def tAndV (ta tb : TE) : TE := fun σ H Q => ta σ H fun x H1 => ∃ c, x = .bl c ∧ if c = true then tb σ H1 Q else Q (.bl false) H1
noncomputable def tOrV (ta tb : TE) : TE := fun σ H Q => ta σ H fun x H1 => ∃ c, x = .bl c ∧ if c = true then Q (.bl true) H1 else tb σ H1 Q
noncomputable def tNotV (ta : TE) : TE := fun σ H Q => ta σ H fun x H1 => ∃ c, x = .bl c ∧ Q (.bl (!c)) H1
theorem Z416 {op} {t : TE} (h : PE X a t) : PE X (.BoolOp op [a] pos) t := fun pins s σ H Q I hw => BoolOp_one (h pins s σ H Q I hw)
theorem Z397 (ha : PE X a ta) (hb : PE X (.BoolOp .And (b :: rest) pos) tb) : PE X (.BoolOp .And (a :: b :: rest) pos) (tAndV ta tb) := by
 intro pins s σ H Q I h
 refine BoolOp_and (thn (ha pins s σ H _ I h) fun v s1 ⟨x, H1, I1, r1, q1⟩ => ?_)
 obtain ⟨c, rfl, q1⟩ := q1
 cases r1
 refine wpAny_truthy_bool ?_
 cases c with
 | true => exact hb pins s1 σ H1 Q I1 q1
 | false => exact ⟨.bl false, H1, I1, rfl, q1⟩
noncomputable def tIf (t : TT) (ta tb : TE) : TE := fun σ H Q => t σ H fun c H1 => if c = true then ta σ H1 Q else tb σ H1 Q
end
end L2
namespace L2
open PySem PySem.Spec PyProof.Rows

noncomputable def SqL (K : PySem.W.Frag) (H : Hp) (a : Addr) (xs : List V) : Prop :=
 Rd H a (.lst xs) ∨
  ∃ (o : Obj) (its : Array Value) (n : Nat), K.lookup a = some o ∧ o.cls = .type "list" ∧ o.dict = none ∧ o.data = .seq its n ∧ its.size ≤ sizeLine ∧ Vals xs its.toList
noncomputable def SqT (K : PySem.W.Frag) (H : Hp) (a : Addr) (xs : List V) : Prop :=
 Rd H a (.tup xs) ∨
  ∃ (o : Obj) (its : Array Value) (n : Nat), K.lookup a = some o ∧ o.cls = .type "tuple" ∧ o.data = .seq its n ∧ its.size ≤ sizeLine ∧ Vals xs its.toList
noncomputable def absV : Value → Option V
 | .none => some .non
 | .bool b => some (.bl b)
 | .int i _ => some (.int i)
 | .str x _ => some (.str x)
 | .bytes b _ => some (.byt b)
 | .float b _ => some (.flt b)
 | .ref a => some (.ref a)
 | .type n => some (.ty n)
 | _ => none
theorem RelV.abs {x : V} {u : Value} (r : RelV x u) : absV u = some x := by
 cases x with
 | non => cases r; rfl
 | bl _ => cases r; rfl
 | int _ => obtain ⟨t, rfl⟩ := r; rfl
 | str _ => obtain ⟨t, rfl⟩ := r; rfl
 | byt _ => obtain ⟨t, rfl⟩ := r; rfl
 | flt _ => obtain ⟨t, rfl⟩ := r; rfl
 | ref _ => cases r; rfl
 | ty _ => cases r; rfl
theorem RelV.inj {x y : V} {u : Value} (r : RelV x u) (q : RelV y u) : x = y := Option.some.inj (r.abs.symm.trans q.abs)
theorem Vals.inj : ∀ {xs ys : List V} {us : List Value}, Vals xs us → Vals ys us → xs = ys
 | _, _, _, .nil, .nil => rfl
 | _, _, _, .cons r t, .cons r' t' => by rw [r.inj r', Vals.inj t t']
section
variable {X : Cx} {pins : List (Addr × Obj)} {σ : St} {H : Hp} {s : Shared} {a : Addr} {xs ys : List V}
theorem SqL.of {K : PySem.W.Frag} (h : H a = some (.lst xs)) : SqL K H a xs := .inl (.inl h)
theorem SqT.of {K : PySem.W.Frag} (h : H a = some (.tup xs)) : SqT K H a xs := .inl (.inl h)
theorem Inv.list (I : Inv X pins σ H s) (h : SqL X.K H a xs) : ∃ its : List Value, Vals xs its ∧ PlainL s.heap a its.toArray ∧ xs.length ≤ sizeLine := by
 rcases h with h | ⟨o, its, n, hk, hc, hd, hs, hz, r⟩
 ·obtain ⟨z, its, n, r, e⟩ := h.ok I.hok
  exact ⟨its, r, ⟨_, n, e, rfl, rfl, rfl⟩, z⟩
 ·refine ⟨its.toList, r, ⟨o, n, I.kIn a o hk, hc, hd, by simpa using hs⟩, ?_⟩
  have e := r.length
  simp only [Array.length_toList] at e
  omega
theorem Inv.tuple (I : Inv X pins σ H s) (h : SqT X.K H a xs) : ∃ its : List Value, Vals xs its ∧ IsTup s.heap a its.toArray ∧ xs.length ≤ sizeLine := by
 rcases h with h | ⟨o, its, n, hk, hc, hs, hz, r⟩
 ·obtain ⟨z, its, r, p⟩ := h.ok I.hok
  exact ⟨its, r, p, z⟩
 ·refine ⟨its.toList, r, ⟨o, I.kIn a o hk, hc, n, by simpa using hs⟩, ?_⟩
  have e := r.length
  simp only [Array.length_toList] at e
  omega
theorem Inv.list_inj (I : Inv X pins σ H s) (h : SqL X.K H a xs) (h' : SqL X.K H a ys) : xs = ys := by
 obtain ⟨its, r, ⟨o, n, e, _, _, d⟩, _⟩ := I.list h
 obtain ⟨its', r', ⟨o', n', e', _, _, d'⟩, _⟩ := I.list h'
 rw [e] at e'; cases e'
 rw [d] at d'
 injection d' with d1 _
 have : its = its' := by simpa using congrArg Array.toList d1
 subst this
 exact r.inj r'
theorem Inv.tuple_inj (I : Inv X pins σ H s) (h : SqT X.K H a xs) (h' : SqT X.K H a ys) : xs = ys := by
 obtain ⟨its, r, ⟨o, e, _, n, d⟩, _⟩ := I.tuple h
 obtain ⟨its', r', ⟨o', e', _, n', d'⟩, _⟩ := I.tuple h'
 rw [e] at e'; cases e'
 rw [d] at d'
 injection d' with d1 _
 have : its = its' := by simpa using congrArg Array.toList d1
 subst this
 exact r.inj r'
end

section
variable {X : Cx} {pins : List (Addr × Obj)} {σ : St} {H : Hp} {s : Shared} {E : Value → Shared → Prop}
end

section
variable {X : Cx} {st : Stmt} {rest : List Stmt} {t u : TS} {e : Expr} {te : TE} {pos : Pos}
noncomputable def tNext : TS := fun D σ H => D.nx σ H
noncomputable def tSeq (t u : TS) : TS := fun D σ H => t { D with nx := u D } σ H
theorem Z447 : PSs X [] tNext := fun _ _ σ H _ I h => wpAny_execs_nil ⟨σ, H, I, h⟩
theorem Z446 (h1 : PS X st t) (h2 : PSs X rest u) : PSs X (st :: rest) (tSeq t u) := by
 intro pins s σ H D I h
 refine wpAny_execs_cons (thn (h1 pins s σ H { D with nx := u D } I h) fun f s1 q => ?_)
 cases f with
 | next =>
  obtain ⟨σ', H', I', q⟩ := q
  exact h2 pins s1 σ' H' D I' q
 | ret v => exact q
 | brk => exact q
 | cont => exact q
theorem Z448 (h1 : PS X st t) : PSs X [st] t := by
 intro pins s σ H D I h
 refine wpAny_execs_cons (thn (h1 pins s σ H D I h) fun f s1 q => ?_)
 cases f with
 | next => exact wpAny_execs_nil q
 | ret v => exact q
 | brk => exact q
 | cont => exact q
noncomputable def tBreak : TS := fun D σ H => D.bk σ H
noncomputable def tCont : TS := fun D σ H => D.ct σ H
theorem Inv.quiet {pins : List (Addr × Obj)} {σ : St} {H : Hp} {s : Shared} (I : Inv X pins σ H s) : interactive X.env = false := by simp [interactive, I.ok.kind]
noncomputable def tDrop (te : TE) : TS := fun D σ H => te σ H fun _ H1 => D.nx σ H1
theorem Z439 (he : PE X e te) (hs : swapsWith e none pos.line X.env = pure false := by rfl) : PS X (.Expr e pos) (tDrop te) := by
 intro pins s σ H D I h
 exact wpAny_Expr_any (thn (he pins s σ H _ I h) fun v s1 ⟨x, H1, I1, r1, q1⟩ => ⟨σ, H1, I1, q1⟩) I.quiet hs
noncomputable def tRet (te : TE) : TS := fun D σ H => te σ H D.rt
theorem Z443 (he : PE X e te) : PS X (.Return (some e) pos) (tRet te) := by
 intro pins s σ H D I h
 exact wpAny_Return_some (thn (he pins s σ H _ I h) fun v s1 ⟨x, H1, I1, r1, q1⟩ => ⟨x, σ, H1, I1, r1, q1⟩)
noncomputable def tRetN : TS := fun D _ H => D.rt .non H
noncomputable def tIfS (c : TT) (t u : TS) : TS := fun D σ H => c σ H fun b H1 => if b = true then t D σ H1 else u D σ H1
theorem ps_if {c : Expr} {a b : List Stmt} {tc : TT} (hc : PT X c tc) (ha : PSs X a t) (hb : PSs X b u) : PS X (.If c a b pos) (tIfS tc t u) := by
 intro pins s σ H D I h
 refine wpAny_If (thn (hc pins s σ H _ I h) fun d s1 ⟨H1, I1, q1⟩ => ?_)
 cases d with
 | true => exact ha pins s1 σ H1 D I1 q1
 | false => exact hb pins s1 σ H1 D I1 q1
end

noncomputable abbrev TG := V → St → Hp → (St → Hp → Prop) → Prop
noncomputable abbrev TGs := List V → St → Hp → (St → Hp → Prop) → Prop
noncomputable def PG (X : Cx) (target : Expr) (t : TG) : Prop :=
 ∀ (pins : List (Addr × Obj)) (s : Shared) (σ : St) (H : Hp) (v : V) (u : Value) (Q : St → Hp → Prop), Inv X pins σ H s → RelV v u → t v σ H Q →
  wpAny (model X.prog X.w) X.A (assign target X.env u) (fun _ s' => ∃ σ' H', Inv X pins σ' H' s' ∧ Q σ' H') X.xe s
noncomputable def PGs (X : Cx) (ts : List Expr) (t : TGs) : Prop :=
 ∀ (pins : List (Addr × Obj)) (s : Shared) (σ : St) (H : Hp) (vs : List V) (us : List Value) (Q : St → Hp → Prop), Inv X pins σ H s → Vals vs us → t vs σ H Q →
  wpAny (model X.prog X.w) X.A (assignInOrder ((assignEach ts X.env).map (·.2)) us) (fun _ s' => ∃ σ' H', Inv X pins σ' H' s' ∧ Q σ' H') X.xe s
section
variable {X : Cx} {pos : Pos}
noncomputable def gName (i : Nat) : TG := fun v σ H Q => Q (σ.set i (some v)) H
theorem Z423 {i : Nat} {x : Str} (hN : X.N.Nodup) (hi : X.N[i]? = some x) (hx : Loc X.env.scope x) (hf : X.fn x = true ∨ X.env.scope.names.lookup x = some .local := by first | exact .inl rfl | exact .inr rfl | assumption) : PG X (.Name x pos) (gName i) := by
 intro pins s σ H v u Q I r h
 exact wpAny_assign_Name (Z565 I hN hi hx r (fun s' I' => ⟨_, H, I', h⟩) hf)
noncomputable def gNil : TGs := fun vs σ H Q => vs = [] ∧ Q σ H
noncomputable def gCons (t : TG) (u : TGs) : TGs := fun vs σ H Q => ∃ v r, vs = v :: r ∧ t v σ H fun σ' H' => u r σ' H' Q
theorem Z426 : PGs X [] gNil := by
 intro pins s σ H vs us Q I r h
 obtain ⟨e, h⟩ := h
 subst e
 cases r
 exact assignInOrder_nil ⟨σ, H, I, h⟩
theorem Z425 {e : Expr} {es : List Expr} {t : TG} {u : TGs} (h1 : PG X e t) (h2 : PGs X es u)
  (hs : (assignEach (e :: es) X.env).map (·.2) = assign e X.env :: (assignEach es X.env).map (·.2) := by rfl) : PGs X (e :: es) (gCons t u) := by
 intro pins s σ H vs us Q I r h
 obtain ⟨v, vr, e1, h⟩ := h
 subst e1
 cases r with
 | cons r rr =>
  rw [hs]
  refine assignInOrder_cons (thn (h1 pins s σ H _ _ _ I r h) fun _ s1 ⟨σ1, H1, I1, q1⟩ => ?_)
  exact h2 pins s1 σ1 H1 _ _ Q I1 rr q1
noncomputable def gTup (K : PySem.W.Frag) (n : Nat) (t : TGs) : TG := fun v σ H Q => ∃ a xs, v = .ref a ∧ SqT K H a xs ∧ xs.length = n ∧ t xs σ H Q
theorem Z424 {es : List Expr} {k : Nat} {t : TGs} {n : Nat} (hc : X.calm = true) (h : PGs X es t)
  (hn : (assignEach es X.env).length = n := by rfl) (hst : (assignEach es X.env).findIdx? (·.1) = none := by rfl) : PG X (.Tuple es k pos) (gTup X.K n t) := by
 intro pins s σ H v u Q I r hw
 obtain ⟨a, xs, e1, hq, hl, hw⟩ := hw
 subst e1
 cases r
 obtain ⟨its, rv, ht, hz⟩ := I.tuple hq
 refine assign_Tuple_tuple (I.ok.hd hc) ht (by simp [hn, ← hl, rv.length]) hst fun h' hx => ?_
 have I1 : Inv X pins σ H { s with heap := h' } := I.kept (t' := s.toks) fun b o e => hx b o (Nat.ne_of_lt (Heap.lt_size e)) e
 exact h pins _ σ H xs _ Q I1 (by simpa using rv) hw
noncomputable def tAsg (te : TE) (g : TG) : TS := fun D σ H => te σ H fun x H1 => g x σ H1 D.nx
theorem Z437 {tg e : Expr} {te : TE} {g : TG} (he : PE X e te) (hg : PG X tg g) (hs : swapsWithSole [tg] e pos.line X.env = pure false := by rfl) (hw : swappedStores [tg] e X.env = pure none := by rfl)
  (h1 : (assignEach [tg] X.env).map (·.2) = [assign tg X.env] := by rfl) : PS X (.Assign [tg] e pos) (tAsg te g) := by
 intro pins s σ H D I h
 refine wpAny_Assign_stores (thn (he pins s σ H _ I h) fun v s1 ⟨x, H1, I1, r1, q1⟩ => ?_) hs hw
 rw [h1]
 exact thn (hg pins s1 σ H1 x v _ I1 r1 q1) fun _ s2 q => q
end

section
variable {X : Cx} {pos : Pos}
end

structure It where
 go : Nat → Hp → Prop
 yld : Nat → Hp → V → Hp → Prop
 stop : Nat → Hp → Prop
noncomputable def FpOk (X : Cx) (pins : List (Addr × Obj)) (H : Hp) (b : Addr) : Prop :=
 H b = none ∧ b ≠ X.env.locals ∧ b ∉ X.fs ∧ (b ∈ X.ex ∨ X.s₀.heap.objs.size ≤ b) ∧ (∀ x c, X.env.cells.lookup x = some c → c ≠ b) ∧ ∀ p ∈ X.pn ++ pins, p.1 ≠ b
theorem Inv.fpOk {X : Cx} {pins : List (Addr × Obj)} {σ : St} {H H' : Hp} {s : Shared} {b : Addr} (I : Inv X pins σ H s) (hb : s.heap.objs.size ≤ b) (hn : H' b = none) : FpOk X pins H' b := by
 refine ⟨hn, Nat.ne_of_gt (Nat.lt_of_lt_of_le I.lt hb), I.nofs hb, .inr (Nat.le_trans I.sz hb), fun x c e z => ?_, fun p hp z => ?_⟩
 ·obtain ⟨v, q⟩ := I.cell x c e
  exact absurd (Nat.lt_of_lt_of_le q.lt (by rw [z]; exact hb)) (Nat.lt_irrefl _)
 ·exact absurd (Nat.lt_of_lt_of_le (Heap.lt_size (I.pin p hp).1) (by rw [z]; exact hb)) (Nat.lt_irrefl _)
structure Turn (P : Program) (w : World) (K : PySem.W.Frag) (tg : Expr) (J : It) (fp : List Addr) (it : Addr) (tn : Nat → Heap → Prop) : Prop where
 mem : it ∈ fp
 obj : ∀ i h, tn i h → ∀ b ∈ fp, ∃ o, h.get? b = some o ∧ ∀ v, o.data ≠ .cell v
 keep : ∀ i h h', tn i h → (∀ b ∈ fp, ∀ o, h.get? b = some o → h'.get? b = some o) → tn i h'
 item : ∀ (X : Cx), X.prog = P → X.w = w → X.K = K → X.calm = true → ∀ (i : Nat) (pins : List (Addr × Obj)) (s : Shared) (σ : St) (H : Hp) (E : Value → Shared → Prop), Inv X pins σ H s → (∀ b ∈ fp, FpOk X pins H b) → tn i s.heap → J.go i H →
  wpAny (model P w) X.A (pyNext (.ref it)) (fun r s1 => ∃ u, r = some u ∧
   wpAny (model P w) X.A (letOwnedTupleGo tg (.ref it) u) (fun _ s2 => ∃ x H', Inv X pins σ H' s2 ∧ RelV x u ∧ J.yld i H x H' ∧ tn (i + 1) s2.heap ∧ ∀ b ∈ fp, H' b = none) E s1) E s
 done : ∀ (X : Cx), X.prog = P → X.w = w → X.K = K → X.calm = true → ∀ (i : Nat) (pins : List (Addr × Obj)) (s : Shared) (σ : St) (H : Hp) (E : Value → Shared → Prop), Inv X pins σ H s → (∀ b ∈ fp, FpOk X pins H b) → tn i s.heap → J.stop i H →
  wpAny (model P w) X.A (pyNext (.ref it)) (fun r s1 => r = none ∧ Inv X pins σ H s1) E s
 self : ∀ (A : Around) (i : Nat) (s : Shared) (Q : Value → Shared → Prop) (E : Value → Shared → Prop), tn i s.heap → Q (.ref it) s → wpAny (model P w) A (pyIter (.ref it)) Q E s
noncomputable abbrev TI := St → Hp → (It → Hp → Prop) → Prop
noncomputable def PIE (X : Cx) (pins : List (Addr × Obj)) (σ : St) (tg : Expr) (R : It → Hp → Prop) (itv : Value) (s2 : Shared) : Prop :=
 ∃ (it : Addr) (fp : List Addr) (tn : Nat → Heap → Prop) (J : It) (H' : Hp), itv = .ref it ∧ Inv X pins σ H' s2 ∧ Turn X.prog X.w X.K tg J fp it tn ∧ tn 0 s2.heap ∧ (∀ b ∈ fp, FpOk X pins H' b) ∧ R J H'
noncomputable def PI (X : Cx) (tg iter : Expr) (wi : TI) : Prop :=
 ∀ (pins : List (Addr × Obj)) (s : Shared) (σ : St) (H : Hp) (R : It → Hp → Prop), Inv X pins σ H s → wi σ H R →
  wpAny (model X.prog X.w) X.A (eval iter X.env) (fun v s1 => wpAny (model X.prog X.w) X.A (pyIter v) (PIE X pins σ tg R) X.xe s1) X.xe s
theorem go_of {M : Model} {A : Around} {E : Value → Shared → Prop} {s : Shared} {tg : Expr} {it : Addr} {u : Value} {o : Obj} {n : String} {vs : Array Value} {Q : Unit → Shared → Prop} (ho : s.heap.get? it = some o) (hc : o.cls = .type n) (hd : o.data = .fields vs)
    (hn : ["enumerate", "zip", "dict_itemiterator", "dict_reverseitemiterator", "odict_iterator", "itertools.zip_longest", "itertools.pairwise"].contains n = false) (hQ : Q () s) : wpAny M A (letOwnedTupleGo tg (.ref it) u) Q E s := by
  unfold letOwnedTupleGo
  cases tg <;> first
    | exact wpAny_pure hQ
    | (cases u <;> first
        | exact wpAny_pure hQ
        | (refine wpAny_bind (wpAny_load ho ?_)
           rw [hc, hd]
           show wpAny M A (if (["enumerate", "zip", "dict_itemiterator", "dict_reverseitemiterator", "odict_iterator", "itertools.zip_longest", "itertools.pairwise"].contains n && vs[0]? == some (rawInt _)) = true then _ else _) Q E s
           rw [if_neg (by intro h; rw [hn, Bool.false_and] at h; cases h)]
           exact wpAny_pure hQ))
noncomputable def Itl (K : PySem.W.Frag) (a : Addr) : It :=
 ⟨fun i H => ∃ xs x, SqL K H a xs ∧ xs[i]? = some x, fun i H x H' => H' = H ∧ ∀ xs, SqL K H a xs → xs[i]? = some x, fun i H => ∃ xs, SqL K H a xs ∧ xs.length ≤ i⟩
noncomputable def Itt (K : PySem.W.Frag) (a : Addr) : It :=
 ⟨fun i H => ∃ xs x, SqT K H a xs ∧ xs[i]? = some x, fun i H x H' => H' = H ∧ ∀ xs, SqT K H a xs → xs[i]? = some x, fun i H => ∃ xs, SqT K H a xs ∧ xs.length ≤ i⟩
noncomputable def Itr (lo : Int) (n : Nat) : It := ⟨fun i _ => i < n, fun i H x H' => H' = H ∧ x = .int (lo + i), fun i _ => n ≤ i⟩
theorem Z591 {P : Program} {w : World} {K : PySem.W.Frag} {tg : Expr} (a it : Addr) : Turn P w K tg (Itl K a) [it] it (fun i h => h.IsListIter it a i) where
 mem := by simp
 obj := fun i h st b hb => by
  have e : b = it := by simpa using hb
  subst e
  obtain ⟨o, e, c, d⟩ := st
  exact ⟨o, e, fun v z => by rw [d] at z; cases z⟩
 keep := fun i h h' st k => st.at fun o e => k it (by simp) o e
 item := by
  intro X hP hw hK hc i pins s σ H E I hf st hg
  subst hP hw hK
  obtain ⟨xs, x, hq, hx⟩ := hg
  obtain ⟨its, rv, p, hz⟩ := I.list hq
  obtain ⟨u, hu, ru⟩ := rv.get hx
  obtain ⟨f0, f1, f2, f3, f4, f5⟩ := hf it (by simp)
  refine wpAny_pyNext_list_item st p.isList (x := u) (by simpa using hu) fun h' st' sb => ?_
  have I1 : Inv X pins σ H { s with heap := h' } := I.turned (t' := s.toks) (fun b o hb e => (sb.2 b hb).trans e) f0 f1 f3 f4 f5
  obtain ⟨o, e, c, d⟩ := id st'
  exact ⟨u, rfl, go_of (s := { s with heap := h' }) e c d (by decide) ⟨x, H, I1, ru, ⟨rfl, fun ys hy => by rw [I.list_inj hy hq]; exact hx⟩, st', fun b hb => (hf b hb).1⟩⟩
 done := by
  intro X hP hw hK hc i pins s σ H E I hf st hg
  subst hP hw hK
  obtain ⟨xs, hq, hx⟩ := hg
  obtain ⟨its, rv, p, hz⟩ := I.list hq
  obtain ⟨f0, f1, f2, f3, f4, f5⟩ := hf it (by simp)
  have hl := rv.length
  exact wpAny_pyNext_list_end (I.ok.hd hc) st p.isList (by simp; omega) fun h' eb => ⟨rfl, I.turned (t' := s.toks) (fun b o hb e => eb b o hb e) f0 f1 f3 f4 f5⟩
 self := fun _ _ _ _ _ st h => wpAny_pyIter_listiter st h
theorem Z593 {P : Program} {w : World} {K : PySem.W.Frag} {tg : Expr} (a it : Addr) : Turn P w K tg (Itt K a) [it] it (fun i h => h.IsTupleIter it a i) where
 mem := by simp
 obj := fun i h st b hb => by
  have e : b = it := by simpa using hb
  subst e
  obtain ⟨o, e, c, d⟩ := st
  exact ⟨o, e, fun v z => by rw [d] at z; cases z⟩
 keep := fun i h h' st k => st.at fun o e => k it (by simp) o e
 item := by
  intro X hP hw hK hc i pins s σ H E I hf st hg
  subst hP hw hK
  obtain ⟨xs, x, hq, hx⟩ := hg
  obtain ⟨its, rv, p, hz⟩ := I.tuple hq
  obtain ⟨u, hu, ru⟩ := rv.get hx
  obtain ⟨f0, f1, f2, f3, f4, f5⟩ := hf it (by simp)
  refine wpAny_pyNext_tuple_item st (show s.heap.IsTuple a its.toArray from p) (x := u) (by simpa using hu) fun h' st' sb => ?_
  have I1 : Inv X pins σ H { s with heap := h' } := I.turned (t' := s.toks) (fun b o hb e => (sb.2 b hb).trans e) f0 f1 f3 f4 f5
  obtain ⟨o, e, c, d⟩ := id st'
  exact ⟨u, rfl, go_of (s := { s with heap := h' }) e c d (by decide) ⟨x, H, I1, ru, ⟨rfl, fun ys hy => by rw [I.tuple_inj hy hq]; exact hx⟩, st', fun b hb => (hf b hb).1⟩⟩
 done := by
  intro X hP hw hK hc i pins s σ H E I hf st hg
  subst hP hw hK
  obtain ⟨xs, hq, hx⟩ := hg
  obtain ⟨its, rv, p, hz⟩ := I.tuple hq
  obtain ⟨f0, f1, f2, f3, f4, f5⟩ := hf it (by simp)
  have hl := rv.length
  exact wpAny_pyNext_tuple_end (I.ok.hd hc) st (show s.heap.IsTuple a its.toArray from p) (by simp; omega) fun h' eb => ⟨rfl, I.turned (t' := s.toks) (fun b o hb e => eb b o hb e) f0 f1 f3 f4 f5⟩
 self := fun _ _ _ _ _ st h => wpAny_pyIter_tupleiter st h
theorem Z592 {P : Program} {w : World} {K : PySem.W.Frag} {tg : Expr} (it : Addr) (lo : Int) (n : Nat) : Turn P w K tg (Itr lo n) [it] it (fun i h => IsRangeIter h it (lo + (i : Nat) * 1) ((n : Int) - (i : Nat)) 1) where
 mem := by simp
 obj := fun i h st b hb => by
  have e : b = it := by simpa using hb
  subst e
  exact ⟨_, st, fun v z => by
   have z' : Data.fields _ = Data.cell v := z
   cases z'⟩
 keep := fun i h h' st k => k it (by simp) _ st
 item := by
  intro X hP hw hK hc i pins s σ H E I hf st hg
  subst hP hw hK
  obtain ⟨f0, f1, f2, f3, f4, f5⟩ := hf it (by simp)
  have W := Walks.range (prog := X.prog) (w := X.w) (I.ok.hd hc) it lo 1 n
  refine W.item i s _ _ hg st fun v h' tk hv st' kk => ?_
  obtain ⟨t, rfl⟩ := hv
  have I1 : Inv X pins σ H { s with heap := h', toks := tk } := I.turned (fun b o hb e => kk b o (by simpa using hb) e) f0 f1 f3 f4 f5
  refine ⟨_, rfl, go_of (s := { s with heap := h', toks := tk }) (n := "range_iterator") st' rfl rfl (by decide) ⟨.int (lo + i), H, I1, ⟨t, ?_⟩, ⟨rfl, rfl⟩, st', fun b hb => (hf b hb).1⟩⟩
  rw [Int.mul_one]
 done := by
  intro X hP hw hK hc i pins s σ H E I hf st hg
  subst hP hw hK
  obtain ⟨f0, f1, f2, f3, f4, f5⟩ := hf it (by simp)
  exact wpAny_pyNext_range_end (I.ok.hd hc) st (by have : n ≤ i := hg; omega) fun h' eb => ⟨rfl, I.turned (t' := s.toks) (fun b o hb e => eb b o hb e) f0 f1 f3 f4 f5⟩
 self := fun _ _ _ _ _ st h => wpAny_pyIter_rangeiter st h
end L2
namespace L2
open PySem PySem.Spec PyProof.Rows
section
variable {X : Cx} {tg : Expr}
theorem Z460 {pins : List (Addr × Obj)} {σ : St} {H : Hp} {s : Shared} {R : It → Hp → Prop} {E : Value → Shared → Prop} {lo hi : Int} {t u v : Tok} {tk : Nat} (I : Inv X pins σ H s) (h1 : -(2 ^ 62) ≤ lo) (h2 : lo < 2 ^ 62) (h3 : -(2 ^ 62) ≤ hi) (h4 : hi < 2 ^ 62)
  (q : R (Itr lo (hi - lo).toNat) H) : wpAny (model X.prog X.w) X.A (pyIter (.ref s.heap.objs.size)) (PIE X pins σ tg R) E { s with heap := s.heap.push { cls := .type "range", data := .fields #[.int lo t, .int hi u, .int 1 v] }, toks := tk } := by
 refine wpAny_pyIter_range (IsRange.new ..) (small_one h1 h2 h3 h4) ?_
 have I1 : Inv X pins σ H { s with heap := s.heap.push { cls := .type "range", data := .fields #[.int lo t, .int hi u, .int 1 v] }, toks := tk } := I.kept fun b o e => Heap.get?_push_of_some _ e
 refine ⟨(s.heap.push { cls := .type "range", data := .fields #[.int lo t, .int hi u, .int 1 v] }).objs.size, [(s.heap.push { cls := .type "range", data := .fields #[.int lo t, .int hi u, .int 1 v] }).objs.size], _, _, H, rfl,
  I1.kept (t' := tk) fun b o e => Heap.get?_push_of_some _ e, Z592 _ lo (hi - lo).toNat, ?_, fun b hb => ?_, q⟩
 ·have e1 : lo + ((0 : Nat) : Int) * 1 = lo := by simp
  have e2 : (((hi - lo).toNat : Nat) : Int) - ((0 : Nat) : Int) = Builtin.Range.rangeSize lo hi 1 := by rw [rangeSize_one]; split <;> omega
  show IsRangeIter _ _ (lo + ((0 : Nat) : Int) * 1) ((((hi - lo).toNat : Nat) : Int) - ((0 : Nat) : Int)) 1
  rw [e1, e2]
  exact Heap.get?_push_size _ rfl
 ·have e : b = (s.heap.push { cls := .type "range", data := .fields #[.int lo t, .int hi u, .int 1 v] }).objs.size := by simpa using hb
  subst e
  exact I1.fpOk (Nat.le_refl _) (I1.hok.fresh (Nat.le_refl _))
noncomputable def iRng1 (ta : TA) : TI := fun σ H R => ta σ H fun vs H1 => ∃ j : Int, vs = [.int j] ∧ -(2 ^ 62) ≤ j ∧ j < 2 ^ 62 ∧ R (Itr 0 j.toNat) H1
noncomputable def iRng2 (ta : TA) : TI := fun σ H R => ta σ H fun vs H1 => ∃ i j : Int, vs = [.int i, .int j] ∧ (-(2 ^ 62) ≤ i ∧ i < 2 ^ 62 ∧ -(2 ^ 62) ≤ j ∧ j < 2 ^ 62) ∧ R (Itr i (j - i).toNat) H1
theorem Z430 {a : Expr} {ta : TA} {p pos : Pos} (hg : Gl X "range") (hm : X.mg "range" = none) (ha : PA X [a] ta) (hs : starEach [a] X.env = [(false, eval a X.env)] := by rfl) : PI X tg (.Call (.Name "range" p) [a] [] pos) (iRng1 ta) := by
 intro pins s σ H R I h
 refine Call_ (Z298 I hg hm boot_range (PyProof.Rows.callWith_type1 (thn (ha pos pins s σ H _ I h) fun us s1 ⟨vs, H1, I1, r1, q1⟩ => ?_) hs rfl))
 obtain ⟨j, e, q1, q2, q⟩ := q1
 subst e
 cases r1 with
 | cons r rr =>
  cases rr
  obtain ⟨t, rfl⟩ := r
  exact call_range_1 (Z460 I1 (by omega) (by omega) q1 q2 (by simpa using q))
theorem Z431 {a b : Expr} {ta : TA} {p pos : Pos} (hg : Gl X "range") (hm : X.mg "range" = none) (ha : PA X [a, b] ta) (hs : starEach [a, b] X.env = [(false, eval a X.env), (false, eval b X.env)] := by rfl) (hs2 : starEach [b] X.env = [(false, eval b X.env)] := by rfl) :
  PI X tg (.Call (.Name "range" p) [a, b] [] pos) (iRng2 ta) := by
 intro pins s σ H R I h
 refine Call_ (Z298 I hg hm boot_range (PyProof.Rows.callWith_type1 (thn (ha pos pins s σ H _ I h) fun us s1 ⟨vs, H1, I1, r1, q1⟩ => ?_) (by rw [hs, hs2]) (by rw [hs2]; rfl)))
 obtain ⟨i, j, e, ⟨q1, q2, q3, q4⟩, q⟩ := q1
 subst e
 cases r1 with
 | cons r rr =>
  cases rr with
  | cons r' rr =>
   cases rr
   obtain ⟨t, rfl⟩ := r
   obtain ⟨t', rfl⟩ := r'
   exact call_range_2 (Z460 I1 q1 q2 q3 q4 q)

noncomputable def tFor (wi : TI) (g : TG) (tb : TS) : TS := fun D σ H => wi σ H fun J H1 => ∃ W : Nat → Nat → St → Hp → Prop, (∃ m, W 0 m σ H1) ∧ ∀ i m σ H, W i m σ H →
 (J.stop i H ∧ D.nx σ H) ∨ (J.go i H ∧ ∃ N : St → Hp → Prop, (∀ σ' H', N σ' H' → ∃ m', m' < m ∧ W (i + 1) m' σ' H') ∧ ∀ x H', J.yld i H x H' → g x σ H' fun σ2 H2 => tb { D with nx := N, ct := N, bk := D.nx } σ2 H2)
noncomputable def pinsAt (fp : List Addr) (h : Heap) : List (Addr × Obj) := fp.filterMap fun b => (h.get? b).map fun o => (b, o)
theorem Z325 {fp : List Addr} {h : Heap} {b : Addr} {o : Obj} (hb : b ∈ fp) (e : h.get? b = some o) : (b, o) ∈ pinsAt fp h := List.mem_filterMap.mpr ⟨b, hb, by rw [e]; rfl⟩
theorem Z358 {fp : List Addr} {h : Heap} {p : Addr × Obj} (hp : p ∈ pinsAt fp h) : p.1 ∈ fp ∧ h.get? p.1 = some p.2 := by
 obtain ⟨b, hb, e⟩ := List.mem_filterMap.mp hp
 cases q : h.get? b with
 | none => rw [q] at e; cases e
 | some o =>
  rw [q] at e
  have e' : (b, o) = p := Option.some.inj e
  subst e'
  exact ⟨hb, q⟩
theorem Inv.pinned {pins : List (Addr × Obj)} {σ : St} {H : Hp} {s : Shared} {fp : List Addr} (I : Inv X pins σ H s) (hf : ∀ b ∈ fp, FpOk X pins H b) (ho : ∀ b ∈ fp, ∃ o, s.heap.get? b = some o ∧ ∀ v, o.data ≠ .cell v) : Inv X (pins ++ pinsAt fp s.heap) σ H s :=
 I.pins_of fun p hp => (List.mem_append.mp hp).elim (fun z => I.pin p (List.mem_append_right _ z)) fun z => by
  obtain ⟨hb, e⟩ := Z358 z
  obtain ⟨f0, f1, f2, _⟩ := hf p.1 hb
  obtain ⟨o, e', d⟩ := ho p.1 hb
  rw [e] at e'; cases e'
  exact ⟨e, f0, f1, f2, d⟩
theorem Inv.unpinned {pins pl : List (Addr × Obj)} {σ : St} {H : Hp} {s : Shared} (I : Inv X (pins ++ pl) σ H s) : Inv X pins σ H s := I.pins_of fun p hp => I.pin p (List.mem_append_right _ (List.mem_append_left _ hp))
theorem Z441 {iter : Expr} {body : List Stmt} {wi : TI} {g : TG} {tb : TS} {pos : Pos} (hp : PassesOwn (model X.prog X.w) X.A X.env X.xe) (hc : X.calm = true) (hi : PI X tg iter wi) (hg : PG X tg g) (hb : PSs X body tb)
  (hs : ∀ x, foldedSetIterable iter X.env x = pure x := by intro _; rfl) : PS X (.For tg iter body [] pos) (tFor wi g tb) := by
 intro pins s σ H D I h
 refine wpAny_For (thn (hi pins s σ H _ I h) fun v s1 h1 => thn h1 fun itv s2 h2 => ?_) hs
 obtain ⟨it, fp, tn, J, H2, e, I2, T, st2, f2, W, ⟨m0, w0⟩, turn⟩ := h2
 subst e
 have stat : ∀ {H' : Hp}, (∀ b ∈ fp, H' b = none) → ∀ b ∈ fp, FpOk X pins H' b := fun hn b hb => ⟨hn b hb, (f2 b hb).2⟩
 refine codeAny_forLoop_any (fun n s' => ∃ i σ' H', Inv X pins σ' H' s' ∧ tn i s'.heap ∧ (∀ b ∈ fp, H' b = none) ∧ W i n σ' H') ?_ m0 ⟨0, σ, H2, I2, st2, fun b hb => (f2 b hb).1, w0⟩
 rintro n s3 ⟨i, σ3, H3, I3, st3, fr3, w3⟩
 rcases turn i n σ3 H3 w3 with ⟨stop, qn⟩ | ⟨go, N, hN, step⟩
 ·refine wpAny_passesOwn hp (thn (T.done X rfl rfl rfl hc i pins s3 σ3 H3 X.xe I3 (stat fr3) st3 stop) fun r s4 ⟨hr, I4⟩ => ?_)
  subst hr
  exact wpAny_execs_nil ⟨σ3, H3, I4, qn⟩
 ·refine wpAny_passesOwn hp (thn (T.item X rfl rfl rfl hc i pins s3 σ3 H3 X.xe I3 (stat fr3) st3 go) fun r s4 ⟨u, hr, h4⟩ => ?_)
  subst hr
  refine wpAny_passesOwn hp (thn h4 fun _ s5 ⟨x, H5, I5, r5, y5, st5, fr5⟩ => ?_)
  have I5' := I5.pinned (stat fr5) (T.obj _ _ st5)
  refine wpAny_passesOwn hp (thn (hg _ s5 σ3 H5 x u _ I5' r5 (step x H5 y5)) fun _ s6 ⟨σ6, H6, I6, q6⟩ => ?_)
  refine wpAny_passesOwn hp (thn (hb _ s6 σ6 H6 _ I6 q6) fun f s7 q7 => ?_)
  have again : ∀ {σ7 : St} {H7 : Hp}, Inv X (pins ++ pinsAt fp s5.heap) σ7 H7 s7 → N σ7 H7 → ∃ m, m < n ∧ ∃ i σ' H', Inv X pins σ' H' s7 ∧ tn i s7.heap ∧ (∀ b ∈ fp, H' b = none) ∧ W i m σ' H' := fun {σ7 H7} I7 n7 => by
   obtain ⟨m', hm, w7⟩ := hN σ7 H7 n7
   refine ⟨m', hm, i + 1, σ7, H7, I7.unpinned, T.keep _ _ _ st5 fun b hb o e => (I7.pin (b, o) (List.mem_append_right _ (List.mem_append_right _ (Z325 hb e)))).1, fun b hb => ?_, w7⟩
   obtain ⟨o, e, d⟩ := T.obj _ _ st5 b hb
   exact (I7.pin (b, o) (List.mem_append_right _ (List.mem_append_right _ (Z325 hb e)))).2.1
  cases f with
  | next => obtain ⟨σ7, H7, I7, n7⟩ := q7; exact again I7 n7
  | cont => obtain ⟨σ7, H7, I7, n7⟩ := q7; exact again I7 n7
  | brk => obtain ⟨σ7, H7, I7, q7⟩ := q7; exact ⟨σ7, H7, I7.unpinned, q7⟩
  | ret v => obtain ⟨x7, σ7, H7, I7, r7, q7⟩ := q7; exact ⟨x7, σ7, H7, I7.unpinned, r7, q7⟩
end

end L2
namespace L2
open PySem PySem.Spec PyProof.Rows
noncomputable abbrev R2 := V → V → Hp → VK → Prop
noncomputable def OpR (X : Cx) (f : Value → Value → Sem Value) (r : R2) : Prop :=
 ∀ (pins : List (Addr × Obj)) (s : Shared) (σ : St) (H : Hp) (x y : V) (v u : Value) (Q : VK), Inv X pins σ H s → RelV x v → RelV y u → r x y H Q →
  wpAny (model X.prog X.w) X.A (f v u) (EP X pins σ Q) X.xe s
noncomputable def UnR (X : Cx) (f : Value → Sem Value) (r : V → Hp → VK → Prop) : Prop :=
 ∀ (pins : List (Addr × Obj)) (s : Shared) (σ : St) (H : Hp) (x : V) (v : Value) (Q : VK), Inv X pins σ H s → RelV x v → r x H Q →
  wpAny (model X.prog X.w) X.A (f v) (EP X pins σ Q) X.xe s
noncomputable def CallR (X : Cx) (f : Value) (r : List V → Hp → VK → Prop) : Prop :=
 ∀ (pins : List (Addr × Obj)) (s : Shared) (σ : St) (H : Hp) (xs : List V) (us : List Value) (Q : VK), Inv X pins σ H s → Vals xs us → r xs H Q →
  wpAny (model X.prog X.w) X.A (call f us) (EP X pins σ Q) X.xe s
noncomputable def tOp (r : R2) (ta tb : TE) : TE := fun σ H Q => ta σ H fun x H1 => tb σ H1 fun y H2 => r x y H2 Q
noncomputable def tUn (r : V → Hp → VK → Prop) (ta : TE) : TE := fun σ H Q => ta σ H fun x H1 => r x H1 Q
noncomputable def rI (C : Int → Int → Prop) (g : Int → Int → V) : R2 := fun x y H Q => ∃ i j, x = .int i ∧ y = .int j ∧ C i j ∧ Q (g i j) H
noncomputable def rI0 (g : Int → Int → V) : R2 := fun x y H Q => ∃ i j, x = .int i ∧ y = .int j ∧ Q (g i j) H
noncomputable def rU (g : Int → V) : V → Hp → VK → Prop := fun x H Q => ∃ i, x = .int i ∧ Q (g i) H
section
variable {X : Cx} {a b c : Expr} {ta tb tc : TE} {pos : Pos}
theorem binT (ha : PE X a ta) (hb : PE X b tb) {pins : List (Addr × Obj)} {s : Shared} {σ : St} {H : Hp} {R : V → V → Hp → Prop} (I : Inv X pins σ H s)
  (h : ta σ H fun x H1 => tb σ H1 fun y H2 => R x y H2) {Q : Value → Shared → Prop} {f : Value → Value → Sem Value}
  (hf : ∀ v u s2 x y H2, Inv X pins σ H2 s2 → RelV x v → RelV y u → R x y H2 → wpAny (model X.prog X.w) X.A (f v u) Q X.xe s2) :
  wpAny (model X.prog X.w) X.A (eval a X.env) (fun v s₁ => wpAny (model X.prog X.w) X.A (eval b X.env) (fun u s₂ => wpAny (model X.prog X.w) X.A (f v u) Q X.xe s₂) X.xe s₁) X.xe s := by
 refine thn (ha pins s σ H _ I h) fun v s1 ⟨x, H1, I1, r1, q1⟩ => ?_
 refine thn (hb pins s1 σ H1 _ I1 q1) fun u s2 ⟨y, H2, I2, r2, q2⟩ => ?_
 exact hf v u s2 x y H2 I2 r1 r2 q2
theorem pe_op {op : Operator} {r : R2} (ho : OpR X (binaryOp op) r) (ha : PE X a ta) (hb : PE X b tb) : PE X (.BinOp a op b pos) (tOp r ta tb) := by
 intro pins s σ H Q I h
 exact wpAny_BinOp (binT ha hb I h fun v u s2 x y H2 I2 rx ry q => ho pins s2 σ H2 x y v u Q I2 rx ry q)
theorem pe_un {op : UnaryOp} {r : V → Hp → VK → Prop} (ho : UnR X (unaryOp op) r) (ha : PE X a ta) : PE X (.UnaryOp op a pos) (tUn r ta) := by
 intro pins s σ H Q I h
 exact UnaryOp_ (thn (ha pins s σ H _ I h) fun v s1 ⟨x, H1, I1, r1, q1⟩ => ho pins s1 σ H1 x v Q I1 r1 q1)

theorem opI {f : Value → Value → Sem Value} {C : Int → Int → Prop} {g : Int → Int → Int}
  (rule : ∀ (i j : Int) (t u : Tok) (s : Shared) (Q : Value → Shared → Prop) (E : Value → Shared → Prop), C i j → Q (.int (g i j) s.toks) { s with toks := s.toks + 1 } → wpAny (model X.prog X.w) X.A (f (.int i t) (.int j u)) Q E s) :
  OpR X f (rI C fun i j => .int (g i j)) := by
 intro pins s σ H x y v u Q I rx ry h
 obtain ⟨i, j, rfl, rfl, hc, q⟩ := h
 obtain ⟨t, rfl⟩ := rx
 obtain ⟨t', rfl⟩ := ry
 exact rule i j t t' s _ _ hc ⟨.int (g i j), H, I.tok _, ⟨_, rfl⟩, q⟩
theorem opI0 {f : Value → Value → Sem Value} {g : Int → Int → Int}
  (rule : ∀ (i j : Int) (t u : Tok) (s : Shared) (Q : Value → Shared → Prop) (E : Value → Shared → Prop), Q (.int (g i j) s.toks) { s with toks := s.toks + 1 } → wpAny (model X.prog X.w) X.A (f (.int i t) (.int j u)) Q E s) :
  OpR X f (rI0 fun i j => .int (g i j)) := by
 intro pins s σ H x y v u Q I rx ry h
 obtain ⟨i, j, rfl, rfl, q⟩ := h
 obtain ⟨t, rfl⟩ := rx
 obtain ⟨t', rfl⟩ := ry
 exact rule i j t t' s _ _ ⟨.int (g i j), H, I.tok _, ⟨_, rfl⟩, q⟩
theorem opB0 {f : Value → Value → Sem Value} {g : Int → Int → Bool}
  (rule : ∀ (i j : Int) (t u : Tok) (s : Shared) (Q : Value → Shared → Prop) (E : Value → Shared → Prop), Q (.bool (g i j)) s → wpAny (model X.prog X.w) X.A (f (.int i t) (.int j u)) Q E s) :
  OpR X f (rI0 fun i j => .bl (g i j)) := by
 intro pins s σ H x y v u Q I rx ry h
 obtain ⟨i, j, rfl, rfl, q⟩ := h
 obtain ⟨t, rfl⟩ := rx
 obtain ⟨t', rfl⟩ := ry
 exact rule i j t t' s _ _ ⟨.bl (g i j), H, I, rfl, q⟩
noncomputable def CDiv (i j : Int) : Prop := 0 < j ∧ j < 1073741824
noncomputable def CMul (i j : Int) : Prop := (-(2 ^ 64) < i ∧ i < 2 ^ 64) ∨ (-(2 ^ 64) < j ∧ j < 2 ^ 64)
theorem CMul.ok {i j : Int} (h : CMul i j) : IntMulOk i j := by
 rcases h with ⟨h1, h2⟩ | ⟨h1, h2⟩
 ·exact .of_left (intBits_le_64 h1 h2)
 ·exact .of_right (intBits_le_64 h1 h2)
theorem Z382 : OpR X (binaryOp .Add) (rI0 fun i j => .int (i + j)) := opI0 fun _ _ _ _ _ _ _ q => add_int q
theorem Z388 : OpR X (binaryOp .Sub) (rI0 fun i j => .int (i - j)) := opI0 fun _ _ _ _ _ _ _ q => sub_int q
theorem Z387 : OpR X (binaryOp .Mult) (rI CMul fun i j => .int (i * j)) := opI fun _ _ _ _ _ _ _ hc q => mul_int q hc.ok
theorem Z384 : OpR X (binaryOp .FloorDiv) (rI CDiv fun i j => .int (i / j)) := opI fun i j _ _ _ _ _ hc q => by
 have h1 : (0 : Int) < j := hc.1
 have h2 : j < 1073741824 := hc.2
 exact floordiv_int (by omega) (by rw [Int.fdiv_eq_ediv_of_nonneg i (by omega)]; exact q) (.inl (PyProof.noPylong_small (by omega)))
theorem Z386 : OpR X (binaryOp .Mod) (rI (fun _ j => 0 < j) fun i j => .int (i % j)) := opI fun i j _ _ _ _ _ hc q => by
 have h1 : (0 : Int) < j := hc
 exact mod_int' (by omega) (by rw [Int.fmod_eq_emod_of_nonneg i (by omega)]; exact q)
theorem unI {f : Value → Sem Value} {g : Int → Int}
  (rule : ∀ (i : Int) (t : Tok) (s : Shared) (Q : Value → Shared → Prop) (E : Value → Shared → Prop), Q (.int (g i) s.toks) { s with toks := s.toks + 1 } → wpAny (model X.prog X.w) X.A (f (.int i t)) Q E s) :
  UnR X f (rU fun i => .int (g i)) := by
 intro pins s σ H x v Q I rx h
 obtain ⟨i, rfl, q⟩ := h
 obtain ⟨t, rfl⟩ := rx
 exact rule i t s _ _ ⟨.int (g i), H, I.tok _, ⟨_, rfl⟩, q⟩
theorem Z598 : UnR X (unaryOp .USub) (rU fun i => .int (-i)) := unI fun _ _ _ _ _ q => neg_int q

end

noncomputable def scal : V → V → Bool
 | .non, .non => true | .non, .int _ => true | .int _, .non => true | .non, .bl _ => true | .bl _, .non => true | .non, .str _ => true | .str _, .non => true
 | .int _, .int _ => true | .bl _, .bl _ => true | .str _, .str _ => true | .byt _, .byt _ => true
 | .int _, .str _ => true | .str _, .int _ => true | .bl _, .str _ => true | .str _, .bl _ => true
 | _, _ => false
noncomputable def rEq : R2 := fun x y H Q => scal x y = true ∧ Q (.bl (decide (x = y))) H
noncomputable def rNe : R2 := fun x y H Q => scal x y = true ∧ Q (.bl (!decide (x = y))) H
theorem Z67 {i j : Int} : decide (V.int i = V.int j) = (i == j) := by
 rw [Bool.eq_iff_iff]
 simp
theorem Z65 {i j : Bool} : decide (V.bl i = V.bl j) = (i == j) := by
 rw [Bool.eq_iff_iff]
 simp
theorem Z68 {i j : Str} : decide (V.str i = V.str j) = (i == j) := by
 rw [Bool.eq_iff_iff]
 simp
theorem Z66 {i j : Array UInt8} : decide (V.byt i = V.byt j) = (i.toList == j.toList) := by
 rw [Bool.eq_iff_iff]
 cases i
 cases j
 simp
section
variable {X : Cx} {a b c : Expr} {ta tb tc : TE} {pos : Pos}
theorem Z155 {pins : List (Addr × Obj)} {σ : St} {H : Hp} {s : Shared} {Q : VK} {k k' : Bool} (I : Inv X pins σ H s) (q : Q (.bl k) H) (e : k = k') : EP X pins σ Q (.bool k') s := by
 subst e
 exact ⟨.bl k, H, I, rfl, q⟩
theorem op_eq : OpR X (compareOp .Eq) rEq := by
 intro pins s σ H x y v u Q I rx ry h
 obtain ⟨hs, q⟩ := h
 cases x with
 | non =>
  cases rx
  cases y with
  | non => cases ry; exact PySem.EqNone.eq_none_none (Z155 I q (by simp))
  | bl j => cases ry; exact PySem.EqNone.eq_none_bool (Z155 I q (by simp))
  | int j => obtain ⟨t', rfl⟩ := ry; exact PySem.EqNone.eq_none_int (Z155 I q (by simp))
  | str j => obtain ⟨t', rfl⟩ := ry; exact PySem.EqNone.eq_none_str (Z155 I q (by simp))
  | _ => exact absurd (show false = true from hs) Bool.false_ne_true
 | bl i =>
  cases rx
  cases y with
  | non => cases ry; exact PySem.EqNone.eq_bool_none (Z155 I q (by simp))
  | bl j => cases ry; exact eq_bool (Z155 I q Z65)
  | str j => obtain ⟨t', rfl⟩ := ry; exact PySem.EqMixed.eq_bool_str (Z155 I q (by simp))
  | _ => exact absurd (show false = true from hs) Bool.false_ne_true
 | int i =>
  obtain ⟨t, rfl⟩ := rx
  cases y with
  | non => cases ry; exact PySem.EqNone.eq_int_none (Z155 I q (by simp))
  | int j => obtain ⟨t', rfl⟩ := ry; exact eq_int (Z155 I q Z67)
  | str j => obtain ⟨t', rfl⟩ := ry; exact PySem.EqMixed.eq_int_str (Z155 I q (by simp))
  | _ => exact absurd (show false = true from hs) Bool.false_ne_true
 | str i =>
  obtain ⟨t, rfl⟩ := rx
  cases y with
  | non => cases ry; exact PySem.EqNone.eq_str_none (Z155 I q (by simp))
  | bl j => cases ry; exact PySem.EqMixed.eq_str_bool (Z155 I q (by simp))
  | int j => obtain ⟨t', rfl⟩ := ry; exact PySem.EqMixed.eq_str_int (Z155 I q (by simp))
  | str j => obtain ⟨t', rfl⟩ := ry; exact eq_str (Z155 I q Z68)
  | _ => exact absurd (show false = true from hs) Bool.false_ne_true
 | byt i =>
  obtain ⟨t, rfl⟩ := rx
  cases y with
  | byt j => obtain ⟨t', rfl⟩ := ry; exact PySem.W.eq_bytes (Z155 I q Z66)
  | _ => exact absurd (show false = true from hs) Bool.false_ne_true
 | _ => cases y <;> exact absurd (show false = true from hs) Bool.false_ne_true
theorem op_ne : OpR X (compareOp .NotEq) rNe := by
 intro pins s σ H x y v u Q I rx ry h
 obtain ⟨hs, q⟩ := h
 cases x with
 | non =>
  cases rx
  cases y with
  | non => cases ry; exact PySem.EqNone.ne_none_none (Z155 I q (by simp))
  | bl j => cases ry; exact PySem.EqNone.ne_none_bool (Z155 I q (by simp))
  | int j => obtain ⟨t', rfl⟩ := ry; exact PySem.EqNone.ne_none_int (Z155 I q (by simp))
  | str j => obtain ⟨t', rfl⟩ := ry; exact PySem.EqNone.ne_none_str (Z155 I q (by simp))
  | _ => exact absurd (show false = true from hs) Bool.false_ne_true
 | bl i =>
  cases rx
  cases y with
  | non => cases ry; exact PySem.EqNone.ne_bool_none (Z155 I q (by simp))
  | bl j => cases ry; exact ne_bool (Z155 I q (congrArg not Z65))
  | str j => obtain ⟨t', rfl⟩ := ry; exact PySem.EqMixed.ne_bool_str (Z155 I q (by simp))
  | _ => exact absurd (show false = true from hs) Bool.false_ne_true
 | int i =>
  obtain ⟨t, rfl⟩ := rx
  cases y with
  | non => cases ry; exact PySem.EqNone.ne_int_none (Z155 I q (by simp))
  | int j => obtain ⟨t', rfl⟩ := ry; exact ne_int (Z155 I q (congrArg not Z67))
  | str j => obtain ⟨t', rfl⟩ := ry; exact PySem.EqMixed.ne_int_str (Z155 I q (by simp))
  | _ => exact absurd (show false = true from hs) Bool.false_ne_true
 | str i =>
  obtain ⟨t, rfl⟩ := rx
  cases y with
  | non => cases ry; exact PySem.EqNone.ne_str_none (Z155 I q (by simp))
  | bl j => cases ry; exact PySem.EqMixed.ne_str_bool (Z155 I q (by simp))
  | int j => obtain ⟨t', rfl⟩ := ry; exact PySem.EqMixed.ne_str_int (Z155 I q (by simp))
  | str j => obtain ⟨t', rfl⟩ := ry; exact ne_str (Z155 I q (congrArg not Z68))
  | _ => exact absurd (show false = true from hs) Bool.false_ne_true
 | byt i =>
  obtain ⟨t, rfl⟩ := rx
  cases y with
  | byt j => obtain ⟨t', rfl⟩ := ry; exact PySem.W.ne_bytes (Z155 I q (congrArg not Z66))
  | _ => exact absurd (show false = true from hs) Bool.false_ne_true
 | _ => cases y <;> exact absurd (show false = true from hs) Bool.false_ne_true
theorem op_lt : OpR X (compareOp .Lt) (rI0 fun i j => .bl (decide (i < j))) := opB0 fun _ _ _ _ _ _ _ q => lt_int q
theorem op_gt : OpR X (compareOp .Gt) (rI0 fun i j => .bl (decide (j < i))) := opB0 fun _ _ _ _ _ _ _ q => gt_int q
theorem Z385 : OpR X (compareOp .Is) (fun x y H Q => y = .non ∧ Q (.bl (decide (x = .non))) H) := by
 intro pins s σ H x y v u Q I rx ry h
 obtain ⟨rfl, q⟩ := h
 cases ry
 refine is_none_gen (Z155 I q ?_)
 cases x <;> first
  | (cases rx; rfl)
  | (obtain ⟨t, rfl⟩ := rx; rfl)
theorem nomark (b : Expr) {op : CmpOp} (h : op ≠ .In := by decide) (h2 : op ≠ .NotIn := by decide) : behindInMarks op b = false := by
 have e1 : (op == CmpOp.In) = false := by cases op <;> first | rfl | exact absurd rfl h
 have e2 : (op == CmpOp.NotIn) = false := by cases op <;> first | rfl | exact absurd rfl h2
 cases b <;> simp [behindInMarks, e1, e2]
theorem Z402 {op : CmpOp} {r : R2} (ho : OpR X (compareOp op) r) (ha : PE X a ta) (hb : PE X b tb) (hm : behindInMarks op b = false) : PE X (.Compare a [op] [b] pos) (tOp r ta tb) := by
 intro pins s σ H Q I h
 exact wpAny_Compare1 (binT ha hb I h fun v u s2 x y H2 I2 rx ry q => ho pins s2 σ H2 x y v u Q I2 rx ry q) hm
noncomputable def tTest (t : TE) : TT := fun σ H Q => t σ H fun x H' => ∃ k, x = .bl k ∧ Q k H'
theorem Z449 {op : CmpOp} {r : R2} (ho : OpR X (compareOp op) r) (ha : PE X a ta) (hb : PE X b tb) (hm : behindInMarks op b = false) : PT X (.Compare a [op] [b] pos) (tTest (tOp r ta tb)) := by
 intro pins s σ H Q I h
 refine wpAny_isTrue_Compare1 (thn (ha pins s σ H _ I h) fun v s1 ⟨x, H1, I1, r1, q1⟩ => thn (hb pins s1 σ H1 _ I1 q1) fun u s2 ⟨y, H2, I2, r2, q2⟩ =>
  thn (ho pins s2 σ H2 x y v u _ I2 r1 r2 q2) fun c s3 ⟨z, H3, I3, r3, k, e, q3⟩ => ?_) hm
 subst e
 cases r3
 exact wpAny_truthy_bool ⟨H3, I3, q3⟩

theorem line63 : (sizeLine : Nat) < 2 ^ 63 := by rw [sizeLine_eq]; decide


theorem vals1 {x : V} {us : List Value} (r : Vals [x] us) : ∃ u, us = [u] ∧ RelV x u := by
 cases r with
 | cons r1 r2 => cases r2; exact ⟨_, rfl, r1⟩
theorem vals2 {x y : V} {us : List Value} (r : Vals [x, y] us) : ∃ u w', us = [u, w'] ∧ RelV x u ∧ RelV y w' := by
 cases r with
 | cons r1 r2 =>
  cases r2 with
  | cons r3 r4 => cases r4; exact ⟨_, _, rfl, r1, r3⟩
noncomputable def LenV (K : PySem.W.Frag) (x : V) (H : Hp) (n : Nat) : Prop :=
 match x with
 | .str y => y.length ≤ sizeLine ∧ n = y.length
 | .byt y => y.size ≤ sizeLine ∧ n = y.size
 | .ref p => (∃ xs, SqL K H p xs ∧ n = xs.length) ∨ ∃ xs, SqT K H p xs ∧ n = xs.length
 | _ => False
theorem call_len : CallR X (.builtin "len") (fun xs H Q => ∃ x n, xs = [x] ∧ LenV X.K x H n ∧ Q (.int n) H) := by
 intro pins s σ H xs us Q I r h
 obtain ⟨x, n, rfl, e, q⟩ := h
 obtain ⟨u, rfl, rx⟩ := vals1 r
 have hl := line63
 have hs : sizeLine = 16777216 := sizeLine_eq
 cases x with
 | str y =>
  obtain ⟨t, rfl⟩ := rx
  obtain ⟨hy, e'⟩ : y.length ≤ sizeLine ∧ n = y.length := e
  subst e'
  exact len_str (by omega) ⟨.int _, H, I.tok _, ⟨_, rfl⟩, q⟩
 | byt y =>
  obtain ⟨t, rfl⟩ := rx
  obtain ⟨hy, e'⟩ : y.size ≤ sizeLine ∧ n = y.size := e
  subst e'
  exact PySem.W.len_bytes (by omega) ⟨.int _, H, I.tok _, ⟨_, rfl⟩, q⟩
 | ref p =>
  cases rx
  have e' : (∃ xs, SqL X.K H p xs ∧ n = xs.length) ∨ ∃ xs, SqT X.K H p xs ∧ n = xs.length := e
  rcases e' with ⟨xs, hx, e'⟩ | ⟨xs, hx, e'⟩
  ·subst e'
   obtain ⟨its, r', pl, hz⟩ := I.list hx
   have hlen := r'.length
   exact Calls.call_len_list pl.isList (by simp only [List.size_toArray]; omega) ⟨.int xs.length, H, I.tok _, ⟨_, by simp only [List.size_toArray]; rw [hlen]⟩, q⟩
  ·subst e'
   obtain ⟨its, r', pl, hz⟩ := I.tuple hx
   have hlen := r'.length
   exact len_tuple pl (by simp only [List.size_toArray]; omega) ⟨.int xs.length, H, I.tok _, ⟨_, by simp only [List.size_toArray]; rw [hlen]⟩, q⟩
 | _ => exact (show False from e).elim
end
end L2
namespace L2
open PySem PySem.Spec PyProof.Rows

structure ObjM (h : Heap) (x dx C : Addr) (mA : Str → Option Value) : Prop where
 obj : h.get? x = some (PySem.W.instObj C dx)
 ns : h.Ns1 dx mA
 ne : dx ≠ x
theorem Z305 {h : Heap} {dx : Addr} {mA : Str → Option Value} (n : h.Ns1 dx mA) : ∃ od, h.get? dx = some od ∧ ∀ name, PySem.W.lookIn name od = some (mA name) := by
 obtain ⟨o, es, ep, ho, hd, hk, _, hm⟩ := n
 refine ⟨o, ho, fun name => ?_⟩
 have e := hm name
 unfold nsFind findBy at e
 rw [← Array.find?_toList] at e
 unfold PySem.W.lookIn
 rw [hd]
 dsimp only
 split
 ·rename_i y q
  rw [q] at e
  exact congrArg some e
 ·rename_i q
  rw [q] at e
  have a : es.toList.any (·.refKey) = false := by
   rw [List.any_eq_false]
   intro y hy
   obtain ⟨z, t, hkey⟩ := hk y (Array.mem_toList_iff.mp hy)
   simp [DictEntry.refKey, hkey]
  have a' : ¬ es.toList.any (·.refKey) = true := by rw [a]; exact Bool.false_ne_true
  rw [if_neg a']
  exact congrArg some e
theorem ObjM.look {h : Heap} {x dx C : Addr} {mA : Str → Option Value} (I : ObjM h x dx C mA) : ∃ od, PySem.W.InstAt h x (PySem.W.instObj C dx) C (some od) ∧ ∀ name, PySem.W.lookIn name od = some (mA name) :=
 let ⟨od, ho, hl⟩ := Z305 I.ns
 ⟨od, ⟨I.obj, rfl, rfl, ho⟩, hl⟩
section
variable {prog : Program} {w : World} {A : Around} {E : Value → Shared → Prop} {s : Shared} {K : PySem.W.Frag} {x dx C f : Addr} {mA : Str → Option Value} {name : Str} {v : Value}
theorem Z164 {expr : Bool} {Q : Value → Shared → Prop} (X : K.In s.heap) (I : ObjM s.heap x dx C mA) (hg : PySem.W.plainGet K C name = true) (hh : PySem.W.hasDictIn K C = true)
  (ha : PySem.W.findIn K (.ref C) name = some none) (hv : mA name = some v) (hv' : PySem.W.handedIn v = true) (h : Q v { s with toks := s.toks + 1 }) :
  wpAny (model prog w) A (getAttr (.ref x) name expr) Q E s := by
 obtain ⟨od, J, hl⟩ := I.look
 exact PySem.W.get_value X J (PySem.W.plainGet_of hg).1 (PySem.W.findObj_own hh ha rfl (by rw [hl, hv])) hv' h
theorem Z165 {pl : Sem Bool} {Q : Value × List Value → Shared → Prop} (X : K.In s.heap) (I : ObjM s.heap x dx C mA) (hg : PySem.W.plainGet K C name = true)
  (hf : PySem.W.findIn K (.ref C) name = some (some (.ref f))) (ht : PySem.W.isFn K (.ref f) = true) (hv : mA name = none) (h : Q (.ref f, [.ref x]) s) :
  wpAny (model prog w) A (getMethod (.ref x) name pl) Q E s := by
 obtain ⟨od, J, hl⟩ := I.look
 exact PySem.W.method_fn X J (PySem.W.plainGet_of hg).1 (PySem.W.plainGet_of hg).2 hf (beq_iff_eq.mp ht) (by show (PySem.W.lookIn name od).map (·.isSome) = some false; rw [hl, hv]; rfl) h
theorem Z555 {ns : List Str} {Q : Unit → Shared → Prop} (X : K.In s.heap) (I : ObjM s.heap x dx C mA)
  (hs : PySem.W.findIn K (.ref C) "__setattr__" = some (some (.builtin "object.__setattr__"))) (hp : PySem.W.plainOver K C = true) (ht : PySem.W.takerIn K C name = some none) (hh : PySem.W.hasDictIn K C = true)
  (hw : PySem.Within mA ns) (hsz : ns.length ≤ sizeLine)
  (h : ∀ h', ObjM h' x dx C (fun y => if y = name then some v else mA y) → Heap.SameBut dx s.heap h' → Q () { s with heap := h', toks := s.toks + 2 }) :
  wpAny (model prog w) A (setAttr (.ref x) name v) Q E s := by
 obtain ⟨od, J, hl⟩ := I.look
 refine PySem.W.set_plain X J hs (PySem.W.osa_open (s := { s with toks := s.toks + 1 }) (r := none) X J hp ht fun b => ?_)
 obtain ⟨cd, hc, hd'⟩ := PySem.W.any_some hh
 have hx : s.heap.get? x = some ⟨.ref C, some dx, .plain, #[]⟩ := I.obj
 refine wpAny_bind (wpAny_pure (wpAny_bind (wpAny_bind (wpAny_loadPart hx (wpAny_bind (PySem.W.Looks.here (s := { s with toks := s.toks + 1 }) (PySem.W.looks_clsIn X hc) ?_))))))
 rw [hd']
 refine wpAny_pure (a := some dx) (wpAny_bind (wpAny_pure (wpAny_bind ?_)))
 refine wpAny_nsSet1 (s := { s with toks := s.toks + 1 }) I.ns fun h' hn2 hs2 => ?_
 obtain ⟨oD, esD, epD, hoD, hdD, hcD⟩ := hn2.count (PySem.Within.cons name v hw)
 refine wpAny_bind (wpAny_lookBehind hoD (by rw [hdD]; exact pastItsLine_dict (Nat.le_trans hcD (by rw [List.length_cons]; omega))) ?_)
 exact wpAny_pure (h _ ⟨(hs2.2 _ (Ne.symm I.ne)).trans I.obj, hn2, I.ne⟩ hs2)
theorem Z319 {R : Result → Shared → Prop} {vs : List Value} {kw : List (Str × Value)} (X : K.In s.heap) (hm : PySem.W.makesIn K C = true)
  (hi : PySem.W.findIn K (.ref C) "__init__" = some (some (.ref f))) (hf : PySem.W.typeIn K (.ref f) = some (.type "function"))
  (h : codeAny (model prog w) (A.under (.builtin "type.__call__" ⟨.ref C :: vs, kw⟩)) (.call (.ref f) ⟨.ref (s.heap.objs.size + 1) :: vs, kw⟩) (PySem.W.InitBack (s.heap.objs.size + 1) R)
   { s with heap := (s.heap.push PySem.W.emptyDict).push (PySem.W.instObj C s.heap.objs.size) }) :
  codeAny (model prog w) A (.call (.ref C) ⟨vs, kw⟩) R s := by
 obtain ⟨hh, g, d, t, os⟩ := s
 exact PySem.W.make_core (PySem.W.makes_of X hm) (PySem.W.looks_findIn X hi) (fun self => PySem.W.bind_fn X self hf) (.inl rfl) h
end

noncomputable def putF (f : Str) (v : V) : List (Str × V) → List (Str × V)
 | [] => [(f, v)]
 | (g, x) :: r => if g = f then (g, v) :: r else (g, x) :: putF f v r
theorem Z307 (f g : Str) (v : V) : ∀ fs : List (Str × V), (putF f v fs).lookup g = if g = f then some v else fs.lookup g
 | [] => by
  show List.lookup g [(f, v)] = _
  by_cases h : g = f
  ·have hb : (g == f) = true := beq_iff_eq.mpr h
   simp only [List.lookup, hb, if_pos h]
  ·have hb : (g == f) = false := beq_eq_false_iff_ne.mpr h
   simp only [List.lookup, hb, if_neg h]
 | (k, x) :: r => by
  have ih := Z307 f g v r
  rw [show putF f v ((k, x) :: r) = (if k = f then (k, v) :: r else (k, x) :: putF f v r) from rfl]
  by_cases hk : k = f
  ·rw [if_pos hk]
   by_cases h : g = k
   ·have hb : (g == k) = true := beq_iff_eq.mpr h
    simp only [List.lookup, hb, if_pos (h.trans hk)]
   ·have hb : (g == k) = false := beq_eq_false_iff_ne.mpr h
    simp only [List.lookup, hb, if_neg (fun e : g = f => h (e.trans hk.symm))]
  ·rw [if_neg hk]
   by_cases h : g = k
   ·have hb : (g == k) = true := beq_iff_eq.mpr h
    simp only [List.lookup, hb, if_neg (fun e : g = f => hk (h.symm.trans e))]
   ·have hb : (g == k) = false := beq_eq_false_iff_ne.mpr h
    simp only [List.lookup, hb]
    exact ih
theorem Z252 (f : Str) (v : V) : ∀ fs : List (Str × V), f ∈ (putF f v fs).map (·.1) ∧ ∀ g, g ∈ fs.map (·.1) → g ∈ (putF f v fs).map (·.1)
 | [] => ⟨by simp [putF], fun g h => by simp at h⟩
 | (k, x) :: r => by
  obtain ⟨i1, i2⟩ := Z252 f v r
  rw [show putF f v ((k, x) :: r) = (if k = f then (k, v) :: r else (k, x) :: putF f v r) from rfl]
  by_cases hk : k = f
  ·rw [if_pos hk]
   subst hk
   exact ⟨by simp, fun g h => by simpa using h⟩
  ·rw [if_neg hk]
   refine ⟨?_, fun g h => ?_⟩
   ·rw [List.map_cons]
    exact List.mem_cons_of_mem _ i1
   ·rw [List.map_cons] at h ⊢
    rcases List.mem_cons.mp h with e | e
    ·exact List.mem_cons.mpr (.inl e)
    ·exact List.mem_cons_of_mem _ (i2 g e)
theorem Z303 (f : Str) (v : V) : ∀ fs : List (Str × V), (putF f v fs).length ≤ fs.length + 1
 | [] => by simp [putF]
 | (k, x) :: r => by
  have ih := Z303 f v r
  rw [show putF f v ((k, x) :: r) = (if k = f then (k, v) :: r else (k, x) :: putF f v r) from rfl]
  by_cases hk : k = f
  ·rw [if_pos hk, List.length_cons, List.length_cons]; omega
  ·rw [if_neg hk, List.length_cons, List.length_cons]; omega
theorem RelO.some_of {v : V} {o : Option Value} (r : RelO (some v) o) : ∃ u, o = some u ∧ RelV v u := by
 cases o with
 | none => exact (show False from r).elim
 | some u => exact ⟨u, rfl, r⟩
theorem RelO.none_of {o : Option Value} (r : RelO none o) : o = none := by
 cases o with
 | none => rfl
 | some u => exact (show False from r).elim
theorem Z186 {v : V} {u : Value} (r : RelV v u) : PySem.W.handedIn u = true := by
 cases v with
 | non => cases (show u = Value.none from r); rfl
 | bl b => cases (show u = Value.bool b from r); rfl
 | int i => obtain ⟨t, e⟩ := (show ∃ t, u = Value.int i t from r); cases e; rfl
 | str x => obtain ⟨t, e⟩ := (show ∃ t, u = Value.str x t from r); cases e; rfl
 | byt b => obtain ⟨t, e⟩ := (show ∃ t, u = Value.bytes b t from r); cases e; rfl
 | flt b => obtain ⟨t, e⟩ := (show ∃ t, u = Value.float b t from r); cases e; rfl
 | ref a => cases (show u = Value.ref a from r); rfl
 | ty n => cases (show u = Value.type n from r); rfl
section
variable {P : Program} {w : World} {H H' : Hp} {h h' : Heap} {a C dx : Addr} {fs fs' : List (Str × V)}
theorem Z212 (hok : HOk P w H h) (e : H a = some (.ins C dx fs)) : ∃ mA, ObjM h a dx C mA ∧ (∀ f, RelO (fs.lookup f) (mA f)) ∧ PySem.Within mA (fs.map (·.1)) ∧ fs.length ≤ 1000 ∧ H dx = some (.own a) := by
 obtain ⟨d, z, ne, ob, mA, n, r, q⟩ := (show ObjOk P w H h a (.ins C dx fs) from hok a _ e)
 exact ⟨mA, ⟨ob, n, ne⟩, r, q, z, d⟩
end

structure Cls (K : PySem.W.Frag) (C : Addr) : Prop where
 pg : PySem.W.plainGet K C Str.empty = true
 hd : PySem.W.hasDictIn K C = true
 po : PySem.W.plainOver K C = true
 sa : PySem.W.findIn K (.ref C) "__setattr__" = some (some (.builtin "object.__setattr__"))
theorem Cls.get {K : PySem.W.Frag} {C : Addr} (c : Cls K C) (f : Str) : PySem.W.plainGet K C f = true := c.pg
noncomputable def NoAttr (K : PySem.W.Frag) (C : Addr) (f : Str) : Prop := PySem.W.findIn K (.ref C) f = some none
theorem NoAttr.taker {K : PySem.W.Frag} {C : Addr} {f : Str} (n : NoAttr K C f) : PySem.W.takerIn K C f = some none := by
 unfold PySem.W.takerIn
 rw [show PySem.W.findIn K (.ref C) f = some none from n]
 rfl
structure Con (K : PySem.W.Frag) (C : Addr) (f : Str) (v : V) (u : Value) : Prop where
 at_ : PySem.W.findIn K (.ref C) f = some (some u)
 rel : RelV v u
 get : PySem.W.specialIn K u "__get__" = some none
 cp : PySem.W.copiedNames.contains f = false
structure Meth (K : PySem.W.Frag) (C : Addr) (m : Str) (f : Addr) : Prop where
 at_ : PySem.W.findIn K (.ref C) m = some (some (.ref f))
 fn : PySem.W.isFn K (.ref f) = true
 kp : PySem.W.keepIn K (.ref f) = true
section
variable {X : Cx} {pins : List (Addr × Obj)} {σ : St} {H : Hp} {s : Shared} {a C dx : Addr} {fs : List (Str × V)} {f : Str} {v : V} {A : Around} {E : Value → Shared → Prop}
theorem Z167 {b : Bool} {Q : Value → Shared → Prop} (I : Inv X pins σ H s) (e : H a = some (.ins C dx fs)) (c : Cls X.K C) (n : NoAttr X.K C f) (l : fs.lookup f = some v)
  (h : ∀ u s', Inv X pins σ H s' → RelV v u → Q u s') : wpAny (model X.prog X.w) A (getAttr (.ref a) f b) Q E s := by
 obtain ⟨mA, O, r, _, _, _⟩ := Z212 I.hok e
 obtain ⟨u, hu, ru⟩ := RelO.some_of (v := v) (o := mA f) (by rw [← l]; exact r f)
 exact Z164 I.kIn O (c.get f) c.hd n hu (Z186 ru) (h u _ (I.tok _) ru)
theorem Z168 {m : Str} {g : Addr} {pl : Sem Bool} {Q : Value × List Value → Shared → Prop} (I : Inv X pins σ H s) (e : H a = some (.ins C dx fs)) (c : Cls X.K C) (k : Meth X.K C m g) (l : fs.lookup m = none)
  (h : Q (.ref g, [.ref a]) s) : wpAny (model X.prog X.w) A (getMethod (.ref a) m pl) Q E s := by
 obtain ⟨mA, O, r, _, _, _⟩ := Z212 I.hok e
 have hn : mA m = none := RelO.none_of (by rw [← l]; exact r m)
 exact Z165 I.kIn O (c.get m) k.at_ k.fn hn h
theorem Z556 {y : V} {u : Value} {Q : Unit → Shared → Prop} (I : Inv X pins σ H s) (e : H a = some (.ins C dx fs)) (c : Cls X.K C) (n : NoAttr X.K C f) (hl : fs.length < 1000) (ry : RelV y u)
  (h : ∀ s', Inv X pins σ (upd H a (.ins C dx (putF f y fs))) s' → Q () s') : wpAny (model X.prog X.w) A (setAttr (.ref a) f u) Q E s := by
 obtain ⟨mA, O, r, wi, _, ho⟩ := Z212 I.hok e
 have hz : (fs.map (·.1)).length ≤ sizeLine := by rw [List.length_map, sizeLine_eq]; omega
 refine Z555 I.kIn O c.sa c.po n.taker c.hd wi hz fun h' O' sb => h _ ?_
 have hd : ∃ o, h'.get? dx = some o := let ⟨o, _, _, e', _⟩ := O'.ns; ⟨o, e'⟩
 refine I.write (x := a) (e := dx) (by rw [e]; exact True.intro) (.inr ho) (fun b q hb z => (sb.2 b hb).trans z) hd ?_
 refine ⟨by rw [Z604 O.ne]; exact ho, ?_, O.ne, O'.obj, _, O'.ns, fun g => ?_, fun g hg => ?_⟩
 ·have := Z303 f y fs; omega
 ·show RelO ((putF f y fs).lookup g) (if g = f then some u else mA g)
  rw [Z307]
  by_cases q : g = f
  ·rw [if_pos q, if_pos q]; exact ry
  ·rw [if_neg q, if_neg q]; exact r g
 ·by_cases q : g = f
  ·rw [q]; exact (Z252 f y fs).1
  ·refine (Z252 f y fs).2 g (wi g fun z => hg ?_)
   show (if g = f then some u else mA g) = none
   rw [if_neg q]; exact z
theorem Inv.made (I : Inv X pins σ H s) : Inv X pins σ (upd (upd H s.heap.objs.size (.own (s.heap.objs.size + 1))) (s.heap.objs.size + 1) (.ins C s.heap.objs.size []))
  { s with heap := (s.heap.push PySem.W.emptyDict).push (PySem.W.instObj C s.heap.objs.size) } := by
 have e1 : (s.heap.push PySem.W.emptyDict).get? s.heap.objs.size = some PySem.W.emptyDict := Heap.get?_push_size s.heap rfl
 have e2 : ((s.heap.push PySem.W.emptyDict).push (PySem.W.instObj C s.heap.objs.size)).get? (s.heap.objs.size + 1) = some (PySem.W.instObj C s.heap.objs.size) := by
  have := Heap.get?_push_size (s.heap.push PySem.W.emptyDict) (o := PySem.W.instObj C s.heap.objs.size) rfl
  rwa [Heap.size_push] at this
 have e3 : (s.heap.push PySem.W.emptyDict).Ns s.heap.objs.size (fun _ => none) := ⟨PySem.W.emptyDict, #[], _, e1, rfl, (fun e he => absurd he (by simp)), fun _ => rfl⟩
 have I1 := I.laid (a := s.heap.objs.size) (o := .own (s.heap.objs.size + 1)) (h' := s.heap.push PySem.W.emptyDict) (t' := s.toks) (fun b u q => Heap.get?_push_of_some _ q) (Nat.le_refl _) ⟨_, e1⟩
 refine I1.laid (a := s.heap.objs.size + 1) (o := .ins C s.heap.objs.size []) (t' := s.toks) (fun b u q => Heap.get?_push_of_some _ q) (Nat.le_of_eq (Heap.size_push _ _)) ?_
 have ne : s.heap.objs.size ≠ s.heap.objs.size + 1 := Nat.ne_of_lt (Nat.lt_succ_self _)
 refine ⟨by rw [Z604 ne, Z605], Nat.zero_le _, ne, e2, fun _ => none, (Heap.Ns1.of_empty e3).at fun o q => Heap.get?_push_of_some _ q, fun _ => True.intro, fun y hy => absurd rfl hy⟩
theorem Z9 {prog : Program} {w : World} {env : Env} {e : Expr} {f : Str} {pos : Pos} {s : Shared} {Q : Value → Shared → Prop} (hb : attributeBase e f env (eval e env) = eval e env)
  (h : wpAny (model prog w) A (eval e env) (fun o s₁ => wpAny (model prog w) A (getAttr o f true) Q E s₁) E s) : wpAny (model prog w) A (eval (.Attribute e f pos) env) Q E s :=
 Attribute_any_ h (by rw [arm_eval_Attribute, hb])
end

section
variable {X : Cx} {o e value : Expr} {f : Str} {pos pos' tpos : Pos} {ta tv : TE}
end

section
variable {X : Cx} {pins : List (Addr × Obj)} {σ : St} {H : Hp} {s : Shared} {A : Around} {E : Value → Shared → Prop} {Q : Value → Shared → Prop} {c : Value} {b : Bool}
inductive TyOf (K : PySem.W.Frag) (H : Hp) : V → Value → Prop where
 | non : TyOf K H .non (.type "NoneType")
 | bl (x : Bool) : TyOf K H (.bl x) (.type "bool")
 | int (i : Int) : TyOf K H (.int i) (.type "int")
 | str (x : Str) : TyOf K H (.str x) (.type "str")
 | flt (x : UInt64) : TyOf K H (.flt x) (.type "float")
 | lst {a : Addr} {xs : List V} (e : H a = some (.lst xs)) : TyOf K H (.ref a) (.type "list")
 | frz {a : Addr} {o : Obj} {xs : List V} (e : H a = some (.frz o (.lst xs))) : TyOf K H (.ref a) (.type "list")
 | tup {a : Addr} {xs : List V} (e : H a = some (.tup xs)) : TyOf K H (.ref a) (.type "tuple")
 | dK {a : Addr} {kvs : List (Key × V)} (e : H a = some (.dK kvs)) : TyOf K H (.ref a) (.type "dict")
 | dT {a : Addr} {kvs : List (List Key × V)} (e : H a = some (.dT kvs)) : TyOf K H (.ref a) (.type "dict")
 | ins {a C dx : Addr} {fs : List (Str × V)} (e : H a = some (.ins C dx fs)) (cl : Cls K C) (ha : PySem.W.findIn K (.ref C) "__class__" = some (some (.builtin "object.__class__")))
   (hn : PySem.W.specialIn K (.builtin "object.__class__") "__get__" = some (some (.builtin "getset_descriptor.__get__"))) (htk : PySem.W.takesIn K (.builtin "object.__class__") = some true)
   (hm : PySem.W.mroIn K C (.type "object") = some true) : TyOf K H (.ref a) (.ref C)
end
end L2
namespace L2
open PySem PySem.Spec PyProof.Rows

structure Room (k : Nat) (A : Around) : Prop where
 hd : A.handled = none
 dp : A.depth + 3 * k + 5 < recursionLimit
 un : A.units + 16 * k + 200 < cLine
 gd : A.guards = some []
theorem Room.mono {j k : Nat} {A : Around} (r : Room k A) (h : j ≤ k) : Room j A := ⟨r.hd, by have := r.dp; omega, by have := r.un; omega, r.gd⟩
theorem Room.deeper {k : Nat} {A : Around} (r : Room (k + 1) A) (env : Env) : Room k (A.deeper env) :=
 ⟨r.hd, by have := r.dp; show A.depth + 1 + 3 * k + 5 < _; omega, by have := r.un; show A.units + 3 + 16 * k + 200 < _; omega, r.gd⟩
theorem Z318 {A : Around} {C : Addr} {us : List Value} {kw : List (Str × Value)} : (A.under (.builtin "type.__call__" ⟨.ref C :: us, kw⟩)).depth = A.depth + 1 := by
 first | rfl | simp [Around.under, Code.weight, Code.isCreation, Code.isGuard, Code.isCaller, Code.frames, Code.isFrame, guardIds]
theorem Z320 {A : Around} {C : Addr} {us : List Value} {kw : List (Str × Value)} : (A.under (.builtin "type.__call__" ⟨.ref C :: us, kw⟩)).units = A.units + 1 := by
 first | rfl | simp [Around.under, Code.cUnits, Code.frames, Code.isFrame]
theorem Room.make {k : Nat} {A : Around} (r : Room (k + 1) A) (C : Addr) (us : List Value) (kw : List (Str × Value)) : Room k (A.under (.builtin "type.__call__" ⟨.ref C :: us, kw⟩)) :=
 ⟨r.hd, by have := r.dp; rw [Z318]; omega, by have := r.un; rw [Z320]; omega, by show pushGuards [] A.guards = _; rw [r.gd]; rfl⟩
theorem Room.depth {k : Nat} {A : Around} (r : Room k A) : A.depth < recursionLimit := by have := r.dp; omega
theorem Room.units {k : Nat} {A : Around} (r : Room k A) : A.units + 64 < cLine := by have := r.un; omega

noncomputable def tNil : TA := fun _ H Q => Q [] H
noncomputable def tCons (ta : TE) (tr : TA) : TA := fun σ H Q => ta σ H fun x H1 => tr σ H1 fun xs H2 => Q (x :: xs) H2
section
variable {X : Cx} {e : Expr} {es : List Expr} {te : TE} {t : TA} {pos : Pos}
theorem Z394 : PA X [] tNil := fun _ _ _ _ H Q I h => Calls.spliced_nil ⟨[], H, I, .nil, h⟩
theorem Z393 (ha : PE X e te) (hr : PA X es t) (hs : starEach (e :: es) X.env = (false, eval e X.env) :: starEach es X.env := by rfl) : PA X (e :: es) (tCons te t) := by
 intro pos pins s σ H Q I h
 rw [hs]
 show wpAny _ _ (spliced ((false, eval e X.env) :: backTo pos (starEach es X.env))) _ _ s
 refine Calls.spliced_cons (thn (ha pins s σ H _ I h) fun u s1 ⟨x, H1, I1, r1, q1⟩ => ?_)
 exact thn (hr pos pins s1 σ H1 _ I1 q1) fun us s2 ⟨xs, H2, I2, r2, q2⟩ => ⟨x :: xs, H2, I2, .cons r1 r2, q2⟩
noncomputable def tTup (t : TA) : TE := fun σ H Q => t σ H fun xs H1 => xs.length ≤ sizeLine ∧ ∀ p, H1 p = none → Q (.ref p) (upd H1 p (.tup xs))
noncomputable def tLst (t : TA) : TE := fun σ H Q => t σ H fun xs H1 => xs.length ≤ sizeLine ∧ ∀ p, H1 p = none → Q (.ref p) (upd H1 p (.lst xs))
theorem Z420 {x1} (h : PA X es t) : PE X (.Tuple es x1 pos) (tTup t) := by
 intro pins s σ H Q I hq
 refine wpAny_Tuple_spliced (thn (h pos pins s σ H _ I hq) fun us s1 ⟨xs, H1, I1, r, z, q⟩ => ⟨by rw [← r.length]; exact z, ?_⟩)
 have hf : H1 s1.heap.objs.size = none := I1.hok.fresh (Nat.le_refl _)
 refine ⟨.ref s1.heap.objs.size, upd H1 s1.heap.objs.size (.tup xs), I1.laid (t' := s1.toks) (fun b u e => Heap.get?_push_of_some _ e) (Nat.le_refl _) ?_, rfl, q _ hf⟩
 exact ⟨z, us, r, ⟨_, Heap.get?_push_size _ rfl, rfl, _, rfl⟩⟩
theorem Z412 (h : PA X es t) : PE X (.List es pos) (tLst t) := by
 intro pins s σ H Q I hq
 refine wpAny_List_spliced (thn (h pos pins s σ H _ I hq) fun us s1 ⟨xs, H1, I1, r, z, q⟩ => ⟨by rw [← r.length]; exact z, ?_⟩)
 have hf : H1 s1.heap.objs.size = none := I1.hok.fresh (Nat.le_refl _)
 refine ⟨.ref s1.heap.objs.size, upd H1 s1.heap.objs.size (.lst xs), I1.laid (t' := s1.toks) (fun b u e => Heap.get?_push_of_some _ e) (Nat.le_refl _) ?_, rfl, q _ hf⟩
 exact ⟨z, us, 0, r, Heap.get?_push_size _ rfl⟩
end

noncomputable abbrev Sp := List V → Hp → VK → XK → Prop
noncomputable abbrev CXT := List Env → Hp → Shared → XK → Value → Shared → Prop
structure Env0 (P : Program) (w : World) (K : PySem.W.Frag) (mg : Str → Option Value) (base : Heap) (A : Around) (outer : List Env) (s : Shared) (H : Hp) : Prop where
 frames : A.frames = some outer
 mod : Mod K mg base
 bs : ∀ b o, base.get? b = some o → s.heap.get? b = some o ∧ H b = none
 bsz : base.objs.size ≤ s.heap.objs.size
 funs : s.heap.FunFrames base outer
 frf : ∀ b ∈ frs outer, H b = none
 hok : HOk P w H s.heap
 bare : AllBare s.gens
noncomputable def CE (outer : List Env) (P : Program) (w : World) (H : Hp) (s : Shared) (Q : VK) (u : Value) (s' : Shared) : Prop :=
 ∃ v H', s'.os = s.os ∧ AllBare s'.gens ∧ Un (frs outer) [] H H' s.heap s'.heap ∧ HOk P w H' s'.heap ∧ RelV v u ∧ Q v H'
noncomputable def CR (CX : CXT) (outer : List Env) (P : Program) (w : World) (H : Hp) (s : Shared) (Q : VK) (E : XK) (r : Result) (s' : Shared) : Prop :=
 match r with
 | .ok (.ret u) => CE outer P w H s Q u s'
 | .ok _ => False
 | .error e => CX outer H s E e s'
structure FnOk (P : Program) (w : World) (K : PySem.W.Frag) (mg : Str → Option Value) (base : Heap) (CX : CXT) (k : Nat) (f : Addr) (fd : FuncData) (ps : List Str) (sp : Sp) : Prop where
 len : ∀ vs H Q E, sp vs H Q E → vs.length = ps.length
 run : ∀ (A : Around) (outer : List Env) (s : Shared) (H : Hp) (args : Args) (us : List Value) (vs : List V) (Q : VK) (E : XK), Room k A → Env0 P w K mg base A outer s H → BindsTo s fd args (ps.zip us) → Vals vs us → sp vs H Q E →
  codeAny (model P w) A (.call (.ref f) args) (CR CX outer P w H s Q E) s
theorem FnOk.imp {P : Program} {w : World} {K : PySem.W.Frag} {mg : Str → Option Value} {base : Heap} {CX : CXT} {k : Nat} {f : Addr} {fd : FuncData} {ps : List Str} {sp sp' : Sp} (F : FnOk P w K mg base CX k f fd ps sp)
  (h : ∀ vs H Q E, sp' vs H Q E → sp vs H Q E) : FnOk P w K mg base CX k f fd ps sp' :=
 ⟨fun vs H Q E q => F.len vs H Q E (h _ _ _ _ q), fun A outer s H args us vs Q E hr he hb hv hs => F.run A outer s H args us vs Q E hr he hb hv (h _ _ _ _ hs)⟩
theorem Env0.make {P : Program} {w : World} {K : PySem.W.Frag} {mg : Str → Option Value} {base : Heap} {A : Around} {outer : List Env} {s : Shared} {H : Hp} (e : Env0 P w K mg base A outer s H) (C : Addr) (us : List Value) (kw : List (Str × Value)) :
  Env0 P w K mg base (A.under (.builtin "type.__call__" ⟨.ref C :: us, kw⟩)) outer s H := ⟨by first | exact e.frames | (simpa [Around.under, Code.envs, Code.isFrame, pushEnvs] using e.frames), e.mod, e.bs, e.bsz, e.funs, e.frf, e.hok, e.bare⟩
section
variable {X : Cx} {pins : List (Addr × Obj)} {σ : St} {H : Hp} {s s' : Shared}
theorem Inv.env0 (I : Inv X pins σ H s) : Env0 X.prog X.w X.K X.mg X.base X.A X.stack s H :=
 ⟨I.ok.frames, I.ok.mod, I.bs, Nat.le_trans I.ok.bsz I.sz, I.stack, I.stkFree, I.hok, I.bare⟩
theorem Inv.after {Q : VK} {u : Value} (I : Inv X pins σ H s) (h : CE X.stack X.prog X.w H s Q u s') : EP X pins σ Q u s' := by
 obtain ⟨v, H', os, bare, un, hok, r, q⟩ := h
 obtain ⟨hh, g, d, t, os'⟩ := s'
 obtain rfl : os' = s.os := os
 exact ⟨v, H', I.call (h' := hh) (g' := g) (d' := d) (t' := t) (ch := []) un hok bare (fun b z => absurd z (by simp)), r, q⟩
end

noncomputable def tCall (sp : Sp) (dvs : List V) (E : XK) (t : TA) : TE := fun σ H Q => t σ H fun vs H1 => sp (vs ++ dvs) H1 Q E
noncomputable def Binds (K : PySem.W.Frag) (fd : FuncData) (ps : List Str) (ds : List Value) : Prop :=
 ∀ (s : Shared) (us : List Value), K.In s.heap → (us ++ ds).length = ps.length → BindsTo s fd ⟨us, []⟩ (ps.zip (us ++ ds))
theorem Binds.all {K : PySem.W.Frag} {fd : FuncData} {ps : List Str} (h : ∀ us : List Value, us.length = ps.length → bindArgs fd ⟨us, []⟩ = pure (ps.zip us)) : Binds K fd ps [] := fun s us _ hl => by
 rw [List.append_nil] at hl ⊢
 exact .of_eq (h us hl)
noncomputable def Passes (CX : CXT) (X : Cx) (E : XK) : Prop := ∀ (pins : List (Addr × Obj)) (σ : St) (H : Hp) (s : Shared) (e : Value) (s' : Shared), Inv X pins σ H s → CX X.stack H s E e s' → X.xe e s'
section
variable {X : Cx} {CX : CXT} {k : Nat} {f C : Addr} {fd : FuncData} {ps : List Str} {sp : Sp} {dvs : List V} {ds : List Value} {E : XK} {x m : Str} {p pos apos : Pos} {e o : Expr} {es : List Expr} {ta : TE} {t : TA}
structure Mk (K : PySem.W.Frag) (C f : Addr) : Prop where
 makes : PySem.W.makesIn K C = true
 init : PySem.W.findIn K (.ref C) "__init__" = some (some (.ref f))
 fn : PySem.W.isFn K (.ref f) = true
 kp : PySem.W.keepIn K (.ref C) = true
theorem Z518 {pins : List (Addr × Obj)} {σ : St} {H : Hp} {s : Shared} {Q : VK} {us : List Value} {vs : List V} (M : Mk X.K C f) (F : FnOk X.prog X.w X.K X.mg X.base CX k f fd ps sp) (hr : Room (k + 1) X.A) (hb : Binds X.K fd ps ds) (hd : Vals dvs ds)
  (hx : Passes CX X E) (I : Inv X pins σ H s) (r : Vals vs us)
  (h : ∀ x dx, H x = none → H dx = none → dx ≠ x → sp (.ref x :: (vs ++ dvs)) (upd (upd H dx (.own x)) x (.ins C dx [])) (fun v H2 => v = .non ∧ Q (.ref x) H2) E) :
  wpAny (model X.prog X.w) X.A (call (.ref C) us) (EP X pins σ Q) X.xe s := by
 have hq := h (s.heap.objs.size + 1) s.heap.objs.size (I.hok.fresh (Nat.le_succ _)) (I.hok.fresh (Nat.le_refl _)) (Nat.ne_of_lt (Nat.lt_succ_self _))
 have I2 := Inv.made (C := C) I
 have r2 : Vals (V.ref (s.heap.objs.size + 1) :: (vs ++ dvs)) (Value.ref (s.heap.objs.size + 1) :: (us ++ ds)) := .cons rfl (r.append hd)
 have hl : (Value.ref (s.heap.objs.size + 1) :: us ++ ds).length = ps.length := by
  have e := r2.length
  rw [F.len _ _ _ _ hq] at e
  exact e.symm
 refine wpAny_call (Z319 (f := f) I.kIn M.makes M.init (beq_iff_eq.mp M.fn) (codeAny_mono (F.run _ X.stack _ _ ⟨Value.ref (s.heap.objs.size + 1) :: us, []⟩ (Value.ref (s.heap.objs.size + 1) :: (us ++ ds)) _ _ E (hr.make C us [])
  (I2.env0.make C us []) (hb _ (Value.ref (s.heap.objs.size + 1) :: us) I2.kIn hl) r2 hq) fun r s' hq' => ?_))
 cases r with
 | error e => exact hx pins σ _ _ e s' I2 hq'
 | ok fl =>
  cases fl with
  | ret u =>
   obtain ⟨v, H', I3, rv, ev, q3⟩ := I2.after hq'
   subst ev
   exact ⟨rv, ⟨V.ref (s.heap.objs.size + 1), H', I3, rfl, q3⟩⟩
  | next => exact False.elim hq'
  | brk => exact False.elim hq'
  | cont => exact False.elim hq'
end

section
variable {X : Cx} {CX : CXT} {k : Nat} {f C : Addr} {fd : FuncData} {ps ks : List Str} {sp : Sp} {E : XK} {x m : Str} {p pos apos kpos : Pos} {e o : Expr} {es : List Expr} {kws : List Keyword} {te ta : TE} {t tk : TA} {nm : Option Str}
structure KBinds (K : PySem.W.Frag) (fd : FuncData) (ps ks : List Str) (g : List Value → List Value → List Value) (gV : List V → List V → List V) : Prop where
 to : ∀ (s : Shared) (us ws : List Value), K.In s.heap → (g us ws).length = ps.length → BindsTo s fd ⟨us, ks.zip ws⟩ (ps.zip (g us ws))
 rel : ∀ {vs : List V} {us : List Value} {zs : List V} {ws : List Value}, Vals vs us → Vals zs ws → Vals (gV vs zs) (g us ws)
variable {g : List Value → List Value → List Value} {gV : List V → List V → List V}
end

structure FnScope (N P : List Str) (sc : Scope) : Prop where
 kind : sc.kind = .function
 co : sc.isCoroutine = false
 gen : sc.isGenerator = false
 nd : N.Nodup
 pre : N.take P.length = P
 par : ∀ x ∈ P, sc.names.lookup x = some .local ∨ sc.names.lookup x = some .cell
 nofree : ∀ y ∈ sc.names, y.2 ≠ .free
theorem Z27 {kindOf : Str → Option NameKind} {x : Str} : ∀ {binds : List (Str × Value)} {m : Str → Option Value}, (∀ v, (x, v) ∉ binds) → bindL kindOf binds m x = m x
 | [], _, _ => rfl
 | (n, v) :: r, m, h => by
  unfold bindL
  rw [Z27 fun w hw => h w (List.mem_cons_of_mem _ hw)]
  split
  ·have : x ≠ n := by rintro rfl; exact h v List.mem_cons_self
   simp [this]
  ·rfl
theorem Z25 {kindOf : Str → Option NameKind} {x : Str} : ∀ {binds : List (Str × Value)} {m : Str → Option Value}, (∀ v, (x, v) ∉ binds) → bindC kindOf binds m x = m x
 | [], _, _ => rfl
 | (n, v) :: r, m, h => by
  unfold bindC
  rw [Z25 fun w hw => h w (List.mem_cons_of_mem _ hw)]
  split
  ·rfl
  ·have : x ≠ n := by rintro rfl; exact h v List.mem_cons_self
   simp [this]
theorem Z26 {kindOf : Str → Option NameKind} {x : Str} {v : Value} : ∀ {P : List Str} {vs : List Value} {i : Nat} {m : Str → Option Value}, P.Nodup → P[i]? = some x → vs[i]? = some v → kindOf x = some .local →
  bindL kindOf (P.zip vs) m x = some v
 | [], _, _, _, _, h, _, _ => by simp at h
 | _ :: _, [], _, _, _, _, h, _ => by simp at h
 | p :: P, w :: vs, 0, m, nd, h1, h2, hk => by
  simp at h1 h2; subst h1; subst h2
  show bindL kindOf ((p, w) :: P.zip vs) m p = _
  unfold bindL
  rw [Z27 fun v hv => (List.nodup_cons.mp nd).1 (List.of_mem_zip hv).1, if_pos hk]
  simp
 | p :: P, w :: vs, i + 1, m, nd, h1, h2, hk => by
  show bindL kindOf ((p, w) :: P.zip vs) m x = _
  unfold bindL
  exact Z26 (i := i) (List.nodup_cons.mp nd).2 (by simpa using h1) (by simpa using h2) hk
theorem Z24 {kindOf : Str → Option NameKind} {x : Str} {v : Value} : ∀ {P : List Str} {vs : List Value} {i : Nat} {m : Str → Option Value}, P.Nodup → P[i]? = some x → vs[i]? = some v → kindOf x ≠ some .local →
  bindC kindOf (P.zip vs) m x = some v
 | [], _, _, _, _, h, _, _ => by simp at h
 | _ :: _, [], _, _, _, _, h, _ => by simp at h
 | p :: P, w :: vs, 0, m, nd, h1, h2, hk => by
  simp at h1 h2; subst h1; subst h2
  show bindC kindOf ((p, w) :: P.zip vs) m p = _
  unfold bindC
  rw [Z25 fun v hv => (List.nodup_cons.mp nd).1 (List.of_mem_zip hv).1, if_neg hk]
  simp
 | p :: P, w :: vs, i + 1, m, nd, h1, h2, hk => by
  show bindC kindOf ((p, w) :: P.zip vs) m x = _
  unfold bindC
  exact Z24 (i := i) (List.nodup_cons.mp nd).2 (by simpa using h1) (by simpa using h2) hk
noncomputable def start (N : List Str) (vs : List V) : St := vs.map some ++ List.replicate (N.length - vs.length) none
noncomputable def cxOf (CX : CXT) (P : Program) (w : World) (K : PySem.W.Frag) (mg : Str → Option Value) (base : Heap) (N : List Str) (qual : Str) (scope : Scope) (f : Addr) (cd : Value) (A : Around) (outer : List Env) (s : Shared) (H : Hp) (E : XK) : Cx where
 prog := P
 w := w
 K := K
 mg := mg
 base := base
 A := A.deeper (envOfC qual scope s.heap.objs.size f cd)
 N := N
 s₀ := s
 H₀ := H
 env := envOfC qual scope s.heap.objs.size f cd
 outer := outer
 stack := envOfC qual scope s.heap.objs.size f cd :: outer
 ex := []
 calm := true
 fn := fun _ => true
 pn := []
 xe := fun e s' => wpAny (model P w) (A.deeper (envOfC qual scope s.heap.objs.size f cd)) (leaving (envOfC qual scope s.heap.objs.size f cd) e) (fun _ s'' => CX outer H s E e s'') (fun e' s'' => CX outer H s E e' s'') s'
theorem Z38 {sc : Scope} {n : Nat} {x : Str} (h : sc.names.lookup x = some .cell) : ∃ c, (cellsFrom n sc.names []).lookup x = some c := by
 have q := PySem.W.cellsFrom_some sc.names n [] (.inl h)
 exact Option.isSome_iff_exists.mp q
theorem Z216 {CX : CXT} {P : Program} {w : World} {K : PySem.W.Frag} {mg : Str → Option Value} {base : Heap} {N ps : List Str} {qual : Str} {scope : Scope} {f : Addr} {cd : Value} {A : Around} {outer : List Env} {s s1 : Shared} {H : Hp} {E : XK} {us : List Value} {vs : List V}
  (S : FnScope N ps scope) (hd : A.handled = none) (e0 : Env0 P w K mg base A outer s H) (hl : vs.length = ps.length) (r : Vals vs us)
  (x : InCallC s s.heap.objs.size (bindL (envOfC qual scope s.heap.objs.size f cd).kindOf (ps.zip us) fun _ => none) (cellsFrom (s.heap.objs.size + 1) scope.names []) (bindC (envOfC qual scope s.heap.objs.size f cd).kindOf (ps.zip us) fun _ => none) s1) :
  Inv (cxOf CX P w K mg base N qual scope f cd A outer s H E) [] (start N vs) H s1 := by
 have hpl : ps.length ≤ N.length := by have := congrArg List.length S.pre; rw [List.length_take] at this; omega
 obtain ⟨h1, tk, rfl, hk⟩ := x.done
 have noA : ∀ b : Addr, b ∉ (cxOf CX P w K mg base N qual scope f cd A outer s H E).ex := fun b z => absurd (show b ∈ ([] : List Addr) from z) (by simp)
 refine ⟨⟨e0.mod, S.kind, rfl, rfl, Nat.le_refl _, fun y z c h1 h2 => ?_, fun y hy => ?_, fun y c _ h => ?_, fun _ => hd, Around.frames_deeper e0.frames, .inr ⟨rfl, rfl⟩, fun b z => absurd z (noA b), e0.bs, e0.bsz, fun b _ _ => noA b, fun b z => absurd z (noA b), e0.funs, e0.frf⟩,
  rfl, e0.bare, Un.kept hk, ⟨_, x.toInCall.ns, fun i y v h1 h2 h3 => ?_⟩, fun y c h => ⟨_, x.cell y c h⟩, e0.hok.fresh (Nat.le_refl _), fun y c h => ?_, fun p hp => absurd (show p ∈ ([] : List (Addr × Obj)) from hp) (by simp), e0.hok.kept hk, ?_⟩
 ·exact name_of_addr x.apart (PySem.mem_of_lookup h1) (PySem.mem_of_lookup h2)
 ·have hy : scope.names.lookup y = some .cell ∨ scope.names.lookup y = some .free := hy
  rcases hy with hy | hy
  ·exact Z38 hy
  ·exact absurd rfl (S.nofree _ (PySem.mem_of_lookup hy))
 ·exact Nat.le_of_lt (x.above y c (PySem.mem_of_lookup h))
 ·have hi : i < vs.length := by
   unfold start at h2
   by_cases hi : i < vs.length
   ·exact hi
   ·rw [List.getElem?_append_right (by simpa using hi)] at h2
    rw [List.getElem?_replicate] at h2
    split at h2 <;> cases h2
  have ha : vs[i]? = some v := by
   unfold start at h2
   rw [List.getElem?_append_left (by simpa using hi), List.getElem?_map] at h2
   cases e : vs[i]? with
   | none => rw [e] at h2; cases h2
   | some a => rw [e] at h2; cases h2; rfl
  obtain ⟨u, hu, rv⟩ := r.get ha
  have hp : ps[i]? = some y := by
   rw [← S.pre, List.getElem?_take_of_lt (by omega)]; exact h1
  have ndP : ps.Nodup := by rw [← S.pre]; exact S.nd.sublist (List.take_sublist _ _)
  refine ⟨u, rv, ?_⟩
  rcases S.par y (List.mem_of_getElem? hp) with k | k
  ·exact .inl ⟨k, Z26 ndP hp hu k⟩
  ·obtain ⟨c, e⟩ := Z38 (n := s.heap.objs.size + 1) k
   refine .inr ⟨.inl k, c, e, ?_⟩
   have q := x.cell y c e
   rw [Z24 ndP hp hu (by show scope.names.lookup y ≠ _; rw [k]; decide)] at q
   exact q
 ·exact e0.hok.fresh (Nat.le_of_lt (x.above y c (PySem.mem_of_lookup h)))
 ·unfold start
  show _ = N.length
  rw [List.length_append, List.length_map, List.length_replicate]
  omega
theorem fn_of {CX : CXT} {P : Program} {w : World} {K : PySem.W.Frag} {mg : Str → Option Value} {base : Heap} {k : Nat} {f : Addr} {name qual : Str} {params : Arguments} {body : List Stmt} {scope : Scope} {dV kV doc pm cdv ct oc : Value} {an od : Option Addr}
  {osl : Array (Option Value)} {N ps : List Str} {sp : Sp} (lk : K.lookup f = some ⟨oc, od, .func (PySem.W.fnOf name qual params body scope dV kV doc pm an cdv ct), osl⟩) (hcd : PySem.W.codeIn K cdv qual = true) (S : FnScope N ps scope)
  (len : ∀ vs H Q E, sp vs H Q E → vs.length = ps.length)
  (hbody : ∀ (A : Around) (outer : List Env) (s : Shared) (H : Hp) (vs : List V) (Q : VK) (E : XK), Room k (A.deeper (envOfC qual scope s.heap.objs.size f cdv)) → sp vs H Q E →
   ∃ t, PSs (cxOf CX P w K mg base N qual scope f cdv A outer s H E) body t ∧ t { nx := fun _ H' => Q .non H', rt := Q } (start N vs) H) :
  FnOk P w K mg base CX (k + 1) f (PySem.W.fnOf name qual params body scope dV kV doc pm an cdv ct) ps sp := by
 refine ⟨len, fun A outer s H args us vs Q E hr e0 hb r hsp => ?_⟩
 have hl := len _ _ _ _ hsp
 have KX : K.In s.heap := e0.mod.kin.keeps fun b o e => (e0.bs b o e).1
 have lim : s.heap.NoLimit := e0.mod.nolimit.keeps fun b o e => (e0.bs b o e).1
 have hkind : ∀ y ∈ ps.zip us, scope.names.lookup y.1 = some .local ∨ (scope.names.lookup y.1 = some .cell ∧ ((cellsFrom (s.heap.objs.size + 1) scope.names []).lookup y.1).isSome = true) := fun ⟨n, v⟩ hy => by
  rcases S.par n (List.of_mem_zip hy).1 with q | q
  ·exact .inl q
  ·exact .inr ⟨q, PySem.W.cellsFrom_some _ _ _ (.inl q)⟩
 refine codeAny_call_function hr.depth (KX _ _ lk) rfl S.co S.gen rfl (PySem.W.codeRec_of KX hcd) (hb _ _ _ _ ?_)
 refine wpAny_newFunctionEnv_cells S.kind hkind fun env he s1 x => ?_
 subst he
 refine ⟨lim.keeps x.toInCall.keep, codeAny_func ?_⟩
 obtain ⟨t, ht, hq⟩ := hbody A outer s H vs Q E (hr.deeper _) hsp
 have I : Inv (cxOf CX P w K mg base N qual scope f cdv A outer s H E) [] (start N vs) H s1 := Z216 S hr.hd e0 hl r x
 refine wpAny_mono (ht [] s1 (start N vs) H _ I hq) (fun fl s' hs => ?_) fun e s' hs => hs
 have fin : ∀ {σ' : St} {H' : Hp} {v : V} {u : Value}, Inv (cxOf CX P w K mg base N qual scope f cdv A outer s H E) [] σ' H' s' → RelV v u → Q v H' → CE outer P w H s Q u s' :=
  fun {σ' H' v u} J rv q => ⟨v, H', J.os, J.bare, J.base, J.hok, rv, q⟩
 cases fl with
 | ret u =>
  obtain ⟨v, σ', H', J, rv, q⟩ := hs
  exact fin J rv q
 | next =>
  obtain ⟨σ', H', J, q⟩ := hs
  exact fin (v := V.non) (u := Value.none) J rfl q
 | brk =>
  obtain ⟨_, _, _, q⟩ := hs
  exact False.elim q
 | cont =>
  obtain ⟨_, _, _, q⟩ := hs
  exact False.elim q
end L2
namespace L2
open PySem PySem.Spec PyProof.Rows
section
variable {X : Cx} {x : Str} {p pos : Pos} {e : Expr} {es : List Expr} {t : TA} {id T : String} {r : List V → Hp → VK → Prop}
noncomputable def tCB (r : List V → Hp → VK → Prop) (t : TA) : TE := fun σ H Q => t σ H fun vs H1 => r vs H1 Q
theorem Z399 (hc : CallR X (.builtin id) r) (hg : Gl X x) (hm : X.mg x = none) (hv : bootBuiltins x = some (.builtin id)) (ha : PA X (e :: es) t) (hn : x ≠ "__name__" := by decide) (hdb : (x == ("__debug__" : Str)) = false := by decide)
  (he : starEach (e :: es) X.env = (false, eval e X.env) :: starEach es X.env := by rfl) (hpl : (backTo pos (starEach es X.env)).any (·.1) = false := by rfl) : PE X (.Call (.Name x p) (e :: es) [] pos) (tCB r t) := by
 intro pins s σ H Q I h
 refine wpAny_Call_Name_kw (Z298 I hg hm hv ?_ hn hdb)
 exact PyProof.Rows.callWith_builtin1 (thn (ha pos pins s σ H _ I h) fun us s1 ⟨vs, H1, I1, r1, q1⟩ => hc pins s1 σ H1 vs us Q I1 r1 q1) he hpl
theorem Z400 (hc : CallR X (.type T) r) (hg : Gl X x) (hm : X.mg x = none) (hv : bootBuiltins x = some (.type T)) (ha : PA X (e :: es) t) (hn : x ≠ "__name__" := by decide) (hdb : (x == ("__debug__" : Str)) = false := by decide)
  (he : starEach (e :: es) X.env = (false, eval e X.env) :: starEach es X.env := by rfl) (hpl : (backTo pos (starEach es X.env)).any (·.1) = false := by rfl) : PE X (.Call (.Name x p) (e :: es) [] pos) (tCB r t) := by
 intro pins s σ H Q I h
 refine wpAny_Call_Name_kw (Z298 I hg hm hv ?_ hn hdb)
 exact PyProof.Rows.callWith_type1 (thn (ha pos pins s σ H _ I h) fun us s1 ⟨vs, H1, I1, r1, q1⟩ => hc pins s1 σ H1 vs us Q I1 r1 q1) he hpl
end
end L2
namespace HT
open PySem PyProof.Rows
section
open PySem.SeqAt
open PySem.AutoSeq1 (wpAny_loadPart')
open PySem.MeetsSeq PySem.MeetsSeq2 PySem.MeetsSeq3
end
section
variable {prog : Program} {w : World} {A : Around} {E : Value → Shared → Prop} {s : Shared}

noncomputable def sIx (n d : Nat) : Option Int → Nat
 | none => d
 | some v => if v < 0 then (v + (n : Int)).toNat else min v.toNat n
end
end HT
namespace L2
open PySem PySem.Spec PyProof.Rows

noncomputable abbrev TO := St → Hp → (Option Int → Hp → Prop) → Prop
noncomputable def PO (X : Cx) (e : Option Expr) (t : TO) : Prop :=
 ∀ (pins : List (Addr × Obj)) (s : Shared) (σ : St) (H : Hp) (Q : Option Int → Hp → Prop), Inv X pins σ H s → t σ H Q →
  wpAny (model X.prog X.w) X.A (evalPart e X.env) (fun u s' => ∃ o H', Inv X pins σ H' s' ∧ IsPart u o ∧ Q o H') X.xe s
noncomputable def tNoPart : TO := fun _ H Q => Q none H
noncomputable def tPart (t : TE) : TO := fun σ H Q => t σ H fun x H1 => ∃ i, x = .int i ∧ Q (some i) H1
section
variable {X : Cx} {e : Expr} {te : TE} {lo hi : Option Expr} {tl th : TO} {pos p2 : Pos}
theorem Z433 : PO X none tNoPart := by
 intro pins s σ H Q I h
 rw [evalPart_none]
 exact wpAny_pure ⟨none, H, I, .none, h⟩
theorem Z434 (h : PE X e te) : PO X (some e) (tPart te) := by
 intro pins s σ H Q I hw
 rw [evalPart_some]
 refine thn (h pins s σ H _ I hw) fun u s1 ⟨x, H1, I1, r1, q1⟩ => ?_
 obtain ⟨i, rfl, q⟩ := q1
 obtain ⟨t, rfl⟩ := r1
 exact ⟨some i, H1, I1, .int i t, q⟩
noncomputable def SlR (X : Cx) (r : V → Option Int → Option Int → Hp → VK → Prop) : Prop :=
 ∀ (pins : List (Addr × Obj)) (s : Shared) (σ : St) (H : Hp) (x : V) (v vl vu : Value) (lo hi : Option Int) (sl : Addr) (Q : VK), Inv X pins σ H s → RelV x v → s.heap.IsSliceOf sl vl vu .none → IsPart vl lo → IsPart vu hi → r x lo hi H Q →
  ∃ T id, typeLookup (.type T) "__getitem__" = pure (some (.builtin id)) ∧ s.TypeIs v T ∧ wpAny (model X.prog X.w) X.A (getItem v (.ref sl)) (EP X pins σ Q) X.xe s
noncomputable def tSl (r : V → Option Int → Option Int → Hp → VK → Prop) (te : TE) (tl th : TO) : TE := fun σ H Q => te σ H fun x H1 => tl σ H1 fun l H2 => th σ H2 fun u H3 => r x l u H3 Q
theorem Z417 {r : V → Option Int → Option Int → Hp → VK → Prop} (hr : SlR X r) (he : PE X e te) (hl : PO X lo tl) (hu : PO X hi th) : PE X (.Subscript e (.Slice lo hi none p2) pos) (tSl r te tl th) := by
 intro pins s σ H Q I h
 refine Subscript_ (thn (he pins s σ H _ I h) fun v s1 ⟨x, H1, I1, r1, q1⟩ => ?_)
 refine wpAny_Slice (thn (hl pins s1 σ H1 _ I1 q1) fun vl s2 ⟨l, H2, I2, pl, q2⟩ => thn (hu pins s2 σ H2 _ I2 q2) fun vu s3 ⟨u, H3, I3, pu, q3⟩ => ?_)
 rw [evalPart_none]
 refine wpAny_pure ?_
 have I4 : Inv X pins σ H3 { s3 with heap := s3.heap.push { cls := .type "slice", data := .fields #[vl, vu, .none] } } := I3.kept (t' := s3.toks) fun b ob q => Heap.get?_push_of_some _ q
 obtain ⟨T, id, hT, ht, hg⟩ := hr pins { s3 with heap := s3.heap.push { cls := .type "slice", data := .fields #[vl, vu, .none] } } σ H3 x v vl vu l u s3.heap.objs.size Q I4 r1 (Heap.IsSliceOf.new ..) pl pu q3
 show wpAny (model X.prog X.w) X.A (subscriptTail e (.Slice lo hi none p2) v (.ref s3.heap.objs.size)) (EP X pins σ Q) X.xe { s3 with heap := s3.heap.push { cls := .type "slice", data := .fields #[vl, vu, .none] } }
 exact tail_any (ops := [.ref s3.heap.objs.size, v]) ht hT hg (by with_unfolding_all rfl)
noncomputable def cutV (xs : List V) (lo hi : Option Int) : List V := (xs.drop (HT.sIx xs.length 0 lo)).take (HT.sIx xs.length xs.length hi - HT.sIx xs.length 0 lo)
theorem Z57 (xs : List V) (lo hi : Option Int) : (cutV xs lo hi).length ≤ xs.length := by
 unfold cutV
 rw [List.length_take, List.length_drop]
 omega

end
end L2
namespace L2
open PySem PySem.Spec PyProof.Rows

noncomputable def ixN (n : Nat) (i : Int) : Option Nat := if 0 ≤ i then (if i < n then some i.toNat else none) else if -(n : Int) ≤ i then some (i + n).toNat else none
noncomputable def atI {α : Type} (xs : List α) (i : Int) : Option α := (ixN xs.length i).bind fun j => xs[j]?
theorem Z227 {n : Nat} {i : Int} {j : Nat} (h : ixN n i = some j) : seqIndex? i n = some j ∧ j < n ∧ -(n : Int) ≤ i ∧ i < n := by
 unfold ixN at h
 by_cases h0 : 0 ≤ i
 ·rw [if_pos h0] at h
  by_cases h1 : i < n
  ·rw [if_pos h1] at h
   have e : i.toNat = j := Option.some.inj h
   exact ⟨by rw [seqIndex_of h0 h1, e], by omega, by omega, h1⟩
  ·rw [if_neg h1] at h; cases h
 ·rw [if_neg h0] at h
  by_cases h1 : -(n : Int) ≤ i
  ·rw [if_pos h1] at h
   have e : (i + n).toNat = j := Option.some.inj h
   exact ⟨by rw [seqIndex_neg (by omega) h1, e], by omega, h1, by omega⟩
  ·rw [if_neg h1] at h; cases h
theorem Z6 {α : Type} {xs : List α} {i : Int} {v : α} (h : atI xs i = some v) : ∃ j, seqIndex? i xs.length = some j ∧ xs[j]? = some v ∧ j < xs.length ∧ -(xs.length : Int) ≤ i ∧ i < xs.length := by
 unfold atI at h
 cases e : ixN xs.length i with
 | none => rw [e] at h; cases h
 | some j =>
  rw [e] at h
  obtain ⟨h1, h2, h3, h4⟩ := Z227 e
  exact ⟨j, h1, h, h2, h3, h4⟩
theorem Z7 {α : Type} {xs : List α} {j : Nat} {v : α} (h : xs[j]? = some v) : atI xs (j : Int) = some v := by
 have hj : j < xs.length := (List.getElem?_eq_some_iff.mp h).1
 have e : ixN xs.length (j : Int) = some j := by
  unfold ixN
  rw [if_pos (by omega), if_pos (by omega)]; simp
 unfold atI; rw [e]; exact h

noncomputable def PlainIx (b : Expr) : Prop := ∀ o i, subscripted b false o i = operate [o, i] (getItem o i)
noncomputable def IxR (X : Cx) (r : R2) : Prop :=
 ∀ (value slice : Expr) (pins : List (Addr × Obj)) (s : Shared) (σ : St) (H : Hp) (x y : V) (v u : Value) (Q : VK), Inv X pins σ H s → RelV x v → RelV y u → r x y H Q →
  subscripted slice false v u = operate [v, u] (getItem v u) → wpAny (model X.prog X.w) X.A (subscriptTail value slice v u) (EP X pins σ Q) X.xe s
noncomputable def MtR (X : Cx) (id : String) (r : V → List V → Hp → VK → Prop) : Prop :=
 ∀ (pins : List (Addr × Obj)) (s : Shared) (σ : St) (H : Hp) (x : V) (xs : List V) (v : Value) (us : List Value) (Q : VK), Inv X pins σ H s → RelV x v → Vals xs us → r x xs H Q →
  wpAny (model X.prog X.w) X.A (call (.builtin id) (v :: us)) (EP X pins σ Q) X.xe s
section
variable {X : Cx} {a b : Expr} {ta tb : TE} {pos : Pos}
theorem IxR.or {r r' : R2} (h : IxR X r) (h' : IxR X r') : IxR X (fun x y H Q => r x y H Q ∨ r' x y H Q) := by
 intro value slice pins s σ H x y v u Q I rx ry q hs
 rcases q with q | q
 ·exact h value slice pins s σ H x y v u Q I rx ry q hs
 ·exact h' value slice pins s σ H x y v u Q I rx ry q hs
theorem pe_ix {r : R2} (hr : IxR X r) (ha : PE X a ta) (hb : PE X b tb) (hs : PlainIx b) : PE X (.Subscript a b pos) (tOp r ta tb) := by
 intro pins s σ H Q I h
 exact Subscript_ (binT ha hb I h fun v u s2 x y H2 I2 rx ry q => hr a b pins s2 σ H2 x y v u Q I2 rx ry q (hs _ _))
noncomputable def rIxL (K : PySem.W.Frag) : R2 := fun x y H Q => ∃ p xs i v, x = .ref p ∧ y = .int i ∧ SqL K H p xs ∧ atI xs i = some v ∧ Q v H
noncomputable def rIxT (K : PySem.W.Frag) : R2 := fun x y H Q => ∃ p xs i v, x = .ref p ∧ y = .int i ∧ SqT K H p xs ∧ atI xs i = some v ∧ Q v H
noncomputable def rIxS : R2 := fun x y H Q => ∃ z i c, x = .str z ∧ y = .int i ∧ z.length ≤ sizeLine ∧ atI z.cps.toList i = some c ∧ Q (.str ⟨#[c]⟩) H
theorem Z232 : IxR X (rIxL X.K) := by
 intro value slice pins s σ H x y v u Q I rx ry h hs
 obtain ⟨p, xs, i, z, rfl, rfl, hq, he, q⟩ := h
 cases rx
 obtain ⟨t, rfl⟩ := ry
 obtain ⟨its, r, pl, hz⟩ := I.list hq
 obtain ⟨j, h1, h2, h3, h4, h5⟩ := Z6 he
 obtain ⟨w, ew, rw'⟩ := r.get h2
 have hl := r.length
 have hn := line63
 have fin : EP X pins σ Q w s := ⟨z, H, I, rw', q⟩
 by_cases h0 : 0 ≤ i
 ·have hj : i.toNat = j := by
   rw [seqIndex_of h0 h5] at h1
   exact Option.some.inj h1
  exact item_listR pl.isList h0 (by omega) (by rw [hj]; simpa using ew) fin hs
 ·have hj : (i + (its.toArray.size : Int)).toNat = j := by
   rw [seqIndex_neg (by omega) h4] at h1
   rw [List.size_toArray, ← hl]
   exact Option.some.inj h1
  exact subscriptTail_builtinR (x := w) pl.isList.typeIs slot_list_getitem.lookup
   (wpAny_getItem_list_neg (Q := fun r s' => r = w ∧ EP X pins σ Q r s') pl.isList (by omega) (by rw [List.size_toArray] <;> omega) (by omega) (by rw [hj]; simpa using ew) ⟨rfl, fin⟩) hs
theorem Z234 : IxR X (rIxT X.K) := by
 intro value slice pins s σ H x y v u Q I rx ry h hs
 obtain ⟨p, xs, i, z, rfl, rfl, hq, he, q⟩ := h
 cases rx
 obtain ⟨t, rfl⟩ := ry
 obtain ⟨its, r, pl, hz⟩ := I.tuple hq
 obtain ⟨j, h1, h2, h3, h4, h5⟩ := Z6 he
 obtain ⟨w, ew, rw'⟩ := r.get h2
 have hl := r.length
 have hn := line63
 have fin : EP X pins σ Q w s := ⟨z, H, I, rw', q⟩
 exact subscriptTail_builtinR (x := w) pl.typeIs slot_tuple_getitem.lookup
  (getItem_tuple (j := j) (Q := fun r s' => r = w ∧ EP X pins σ Q r s') pl (by omega) (by omega) (by rw [List.size_toArray, ← hl]; exact h1) (by simpa using ew) ⟨rfl, fin⟩) hs
theorem Z233 : IxR X rIxS := by
 intro value slice pins s σ H x y v u Q I rx ry h hs
 obtain ⟨z, i, c, rfl, rfl, hz, he, q⟩ := h
 obtain ⟨t, rfl⟩ := rx
 obtain ⟨t', rfl⟩ := ry
 obtain ⟨j, h1, h2, h3, h4, h5⟩ := Z6 he
 have hl : z.cps.toList.length = z.length := by simp [Str.length]
 rw [hl] at h1 h4 h5
 have hn := line63
 exact tail_any (typeIs_str s z t) slot_str_getitem.lookup (getItem_str (c := c) (by
  have e1 : decide (i < -(2 ^ 63 : Int)) = false := decide_eq_false (by omega)
  have e2 : decide (i ≥ 2 ^ 63) = false := decide_eq_false (by omega)
  rw [e1, e2, Bool.or_false]) (by rw [h1]; simpa using h2) ⟨.str ⟨#[c]⟩, H, I.tok _, ⟨_, rfl⟩, q⟩) hs
noncomputable def rIx (K : PySem.W.Frag) : R2 := fun x y H Q => rIxL K x y H Q ∨ rIxT K x y H Q ∨ rIxS x y H Q
theorem ix_seq : IxR X (rIx X.K) := Z232.or (Z234.or Z233)


theorem Z561 (lo hi : Option Int) (n : Nat) : (sliceBounds lo hi none n).1 = ((HT.sIx n 0 lo : Nat) : Int) ∧ (sliceBounds lo hi none n).2.1 = ((HT.sIx n n hi : Nat) : Int) ∧ (sliceBounds lo hi none n).2.2 = 1 := by
 refine ⟨?_, ?_, rfl⟩
 ·cases lo with
  | none => simp [sliceBounds, HT.sIx]
  | some i =>
   simp only [sliceBounds, HT.sIx, Option.getD_none, show (1 : Int) > 0 by decide, if_true]
   by_cases h : i < 0
   ·simp only [h, if_true] <;> omega
   ·simp only [h, if_false] <;> omega
 ·cases hi with
  | none => simp [sliceBounds, HT.sIx]
  | some i =>
   simp only [sliceBounds, HT.sIx, Option.getD_none, show (1 : Int) > 0 by decide, if_true]
   by_cases h : i < 0
   ·simp only [h, if_true] <;> omega
   ·simp only [h, if_false] <;> omega
theorem Z560 (its : List Value) (lo hi : Option Int) : slicePick its.toArray lo hi none = ((its.drop (HT.sIx its.length 0 lo)).take (HT.sIx its.length its.length hi - HT.sIx its.length 0 lo)).toArray := by
 obtain ⟨h1, h2, h3⟩ := Z561 lo hi its.toArray.size
 unfold slicePick
 rw [h1, h2, h3]
 simp only [sliceRange_one, pick_run, List.size_toArray] <;> rfl
noncomputable def rSlL (K : PySem.W.Frag) : V → Option Int → Option Int → Hp → VK → Prop := fun x lo hi H Q => ∃ a xs, x = .ref a ∧ SqL K H a xs ∧ ∀ p, H p = none → Q (.ref p) (upd H p (.lst (cutV xs lo hi)))
theorem Z559 : SlR X (rSlL X.K) := by
 intro pins s σ H x v vl vu lo hi sl Q I rx hs pl pu h
 obtain ⟨a, xs, rfl, hx, q⟩ := h
 cases rx
 obtain ⟨its, r, ht, hz⟩ := I.list hx
 have hlen := r.length
 refine ⟨"list", _, slot_list_getitem.lookup, ht.isList.typeIs, ?_⟩
 refine wpAny_getItem_list_slice ht.isList hs pl pu .none (by simp) ?_ (by rw [List.size_toArray] <;> omega)
 rw [Z560, ← hlen]
 refine ⟨.ref s.heap.objs.size, _, I.laid (t' := s.toks) (o := .lst (cutV xs lo hi)) (fun b ob q => Heap.get?_push_of_some _ q) (Nat.le_refl _) ?_, rfl, q _ (I.hok.fresh (Nat.le_refl _))⟩
 exact ⟨Nat.le_trans (Z57 xs lo hi) hz, _, 0, (r.drop (HT.sIx xs.length 0 lo)).take (HT.sIx xs.length xs.length hi - HT.sIx xs.length 0 lo), Heap.get?_push_size _ rfl⟩

noncomputable def flatV : V → Bool
 | .non => true
 | .bl _ => true
 | .int _ => true
 | .str _ => true
 | _ => false

theorem Z33 : CallR X (.type "list") (fun xs H Q => ∃ p ys, xs = [.ref p] ∧ (SqL X.K H p ys ∨ SqT X.K H p ys) ∧ ∀ l, H l = none → Q (.ref l) (upd H l (.lst ys))) := by
 intro pins s σ H xs us Q I r h
 obtain ⟨p, ys, rfl, hq, q⟩ := h
 obtain ⟨u, rfl, rx⟩ := vals1 r
 cases rx
 have fin : ∀ (its : List Value), Vals ys its → ys.length ≤ sizeLine → ∀ (h' : Heap) (c' : Nat), (∀ b o', s.heap.get? b = some o' → h'.get? b = some o') →
   h'.get? s.heap.objs.size = some { cls := .type "list", dict := none, data := .seq its.toArray c', slots := #[] } → EP X pins σ Q (.ref s.heap.objs.size) { s with heap := h' } := fun its r' hz h' c' kp e =>
  ⟨.ref s.heap.objs.size, _, I.laid (t' := s.toks) kp (Nat.le_refl _) (show ObjOk X.prog X.w _ h' _ (.lst ys) from ⟨hz, its, c', r', e⟩), rfl, q _ (I.hok.fresh (Nat.le_refl _))⟩
 rcases hq with hq | hq
 ·obtain ⟨its, r', pl, hz⟩ := I.list hq
  have hlen := r'.length
  obtain ⟨o, ho, hc, n, hd⟩ := pl.isList
  exact call_list_seq p (.inl rfl) ho hc hd (fun h' c' kp e => fin its r' hz h' c' kp e) (by simp only [List.size_toArray] <;> omega)
 ·obtain ⟨its, r', pl, hz⟩ := I.tuple hq
  have hlen := r'.length
  obtain ⟨o, ho, hc, n, hd⟩ := pl
  exact call_list_seq p (.inr rfl) ho hc hd (fun h' c' kp e => fin its r' hz h' c' kp e) (by simp only [List.size_toArray] <;> omega)

noncomputable def tyV (K : PySem.W.Frag) (T : String) (x : V) (H : Hp) : Prop := match x with
 | .str _ => T = "str"
 | .int _ => T = "int"
 | .ref p => (T = "list" ∧ ∃ xs, SqL K H p xs) ∨ (T = "tuple" ∧ ∃ o, K.lookup p = some o ∧ o.cls = .type "tuple" ∧ o.dict = none) ∨
   (T = "dict" ∧ ((∃ kvs, H p = some (.dK kvs)) ∨ ∃ kvs, H p = some (.dT kvs))) ∨ (T = "set" ∧ ∃ S n, H p = some (.set S n))
 | _ => False
theorem Z596 {pins : List (Addr × Obj)} {σ : St} {H : Hp} {s : Shared} {T : String} {x : V} {v : Value} (I : Inv X pins σ H s) (r : RelV x v) (ty : tyV X.K T x H) :
  s.TypeIs v T ∧ ∀ a, v = .ref a → ∃ ob, s.heap.get? a = some ob ∧ ob.dict = none := by
 cases x with
 | str z =>
  obtain ⟨t, rfl⟩ := r
  cases (show T = "str" from ty)
  exact ⟨typeIs_str s z t, fun _ e => nomatch e⟩
 | int i =>
  obtain ⟨t, rfl⟩ := r
  cases (show T = "int" from ty)
  exact ⟨typeIs_int s i t, fun _ e => nomatch e⟩
 | ref p =>
  cases r
  rcases ty with ⟨rfl, xs, hq⟩ | ⟨rfl, o, hk, hc, hd⟩ | ⟨rfl, hk⟩ | ⟨rfl, S, n, hk⟩
  ·obtain ⟨its, _, pl, _⟩ := I.list hq
   refine ⟨pl.isList.typeIs, fun a e => ?_⟩
   cases e
   obtain ⟨o, n, e, c, hd, _⟩ := pl
   exact ⟨o, e, hd⟩
  ·refine ⟨⟨o, I.kIn p o hk, hc⟩, fun a e => ?_⟩
   cases e
   exact ⟨o, I.kIn _ o hk, hd⟩
  ·have z : ∃ o, s.heap.get? p = some o ∧ o.ExactDict := by
    rcases hk with ⟨kvs, hk⟩ | ⟨kvs, hk⟩
    ·obtain ⟨_, _, _, _, o, _, _, e, ex, _⟩ := I.hok p _ hk
     exact ⟨o, e, ex⟩
    ·obtain ⟨_, _, _, _, o, _, _, e, ex, _⟩ := I.hok p _ hk
     exact ⟨o, e, ex⟩
   obtain ⟨o, e, ex⟩ := z
   refine ⟨⟨o, e, ex.1⟩, fun a e2 => ?_⟩
   cases e2
   exact ⟨o, e, ex.2.1⟩
  ·obtain ⟨o, _, _, _, e, ex, _⟩ := I.hok p _ hk
   refine ⟨⟨o, e, ex.1⟩, fun a e2 => ?_⟩
   cases e2
   exact ⟨o, e, ex.2.1⟩
 | _ => exact False.elim ty
noncomputable def tBM0 (K : PySem.W.Frag) (T : String) (r : V → List V → Hp → VK → Prop) (to : TE) : TE := fun σ H Q => to σ H fun x H1 => tyV K T x H1 ∧ r x [] H1 Q
noncomputable def tBM (K : PySem.W.Frag) (T : String) (r : V → List V → Hp → VK → Prop) (to : TE) (t : TA) : TE := fun σ H Q => to σ H fun x H1 => tyV K T x H1 ∧ t σ H1 fun xs H2 => r x xs H2 Q
variable {o e : Expr} {es : List Expr} {to : TE} {t : TA} {name : Str} {apos cpos : Pos} {T id : String} {r : V → List V → Hp → VK → Prop}
theorem pe_bm (pa : PlainAttrs T) (slot : Slot T name id) (hty : typeOf (.builtin id) = pure (.type "method_descriptor")) (hm : MtR X id r) (ho : PE X o to) (ha : PA X (e :: es) t)
  (hbase : attributeBase o name X.env (eval o X.env) = eval o X.env := by rfl)
  (hfew : ((backTo cpos (starEach (e :: es) X.env)).all (fun x => !x.1) && (backToKw cpos (keywordEach [] X.env)).all (fun x => x.1.isSome)
   && decide ((e :: es).length + ([] : List Keyword).length + (if ([] : List Keyword).isEmpty then 0 else 1) < 30)) = true := by rfl)
  (hline : (apos.endLine == cpos.line) = true := by rfl) (hs : starEach (e :: es) X.env = (false, eval e X.env) :: starEach es X.env := by rfl) (hplain : (backTo cpos (starEach es X.env)).any (·.1) = false := by rfl) :
  PE X (.Call (.Attribute o name apos) (e :: es) [] cpos) (tBM X.K T r to t) := by
 intro pins s σ H Q I h
 refine wpAny_Call_method_late hbase hfew hline rfl (thn (ho pins s σ H _ I h) fun v s1 ⟨x, H1, I1, r1, ty, q1⟩ => ?_)
 obtain ⟨h1, h2⟩ := Z596 I1 r1 ty
 refine ⟨T, id, pa, slot, hty, h1, h2, ?_⟩
 have hA := ha cpos pins s1 σ H1 _ I1 q1
 rw [hs] at hA ⊢
 refine Calls.callWith_builtin (by show (false || (backTo cpos (starEach es X.env)).any (·.1)) = false; rw [hplain] <;> rfl) (Calls.evalArgs_plain ?_)
 exact thn hA fun us s2 ⟨vs, H2, I2, r2, q2⟩ => hm pins s2 σ H2 x vs v us Q I2 r1 r2 q2

end
end L2
namespace L2
open PySem PySem.Spec PyProof.Rows
noncomputable def MtM (X : Cx) (id : String) (r : V → List V → Hp → VK → Prop) : Prop :=
 ∀ (pins : List (Addr × Obj)) (s : Shared) (σ : St) (H : Hp) (x : V) (xs : List V) (v : Value) (us : List Value) (Q : VK), Inv X pins σ H s → RelV x v → Vals xs us → r x xs H Q →
  wpAny (model X.prog X.w) X.A (call (.builtin id) (v :: us)) (EP X pins σ Q) X.xe s

theorem Vals.one : ∀ {x : V} {us : List Value}, Vals [x] us → ∃ u, us = [u] ∧ RelV x u
 | _, _, .cons r .nil => ⟨_, rfl, r⟩
section
variable {X : Cx} {pins : List (Addr × Obj)} {σ : St} {H : Hp} {s : Shared} {l b : Addr} {xs ys zs : List V}

theorem Inv.lset {its its' : List Value} {n : Nat} {f : Array Value → Array Value} {t' : Nat} (I : Inv X pins σ H s) (hH : H l = some (.lst xs))
  (e : s.heap.get? l = some { cls := .type "list", data := .seq its.toArray n }) (hf : f its.toArray = its'.toArray) (hv : Vals ys its') (hz : ys.length ≤ sizeLine) :
  Inv X pins σ (upd H l (.lst ys)) { s with heap := s.heap.update l (Obj.mapSeq f), toks := t' } := by
 have q := PySem.IsL.update e f
 rw [hf] at q
 refine I.write (x := l) (e := l) (by rw [hH]; exact trivial) (.inl rfl) (fun b' u hb hu => (Heap.get?_update_other s.heap (Obj.mapSeq f) (Ne.symm hb)).trans hu) ⟨_, q⟩ ?_
 exact ⟨hz, its', _, hv, q⟩
theorem Inv.lnew {its : List Value} {t' : Nat} (I : Inv X pins σ H s) (hv : Vals ys its) (hz : ys.length ≤ sizeLine) :
  Inv X pins σ (upd H s.heap.objs.size (.lst ys)) { s with heap := s.heap.push { cls := .type "list", data := .seq its.toArray }, toks := t' } :=
 I.laid (fun _ _ q => Heap.get?_push_of_some _ q) (Nat.le_refl _) ⟨hz, its, 0, hv, Heap.get?_push_size _ rfl⟩
theorem Inv.fresh (I : Inv X pins σ H s) : H s.heap.objs.size = none := I.hok.fresh (Nat.le_refl _)
theorem Inv.lstM (I : Inv X pins σ H s) (hH : H l = some (.lst xs)) : xs.length ≤ sizeLine ∧ ∃ (its : List Value) (n : Nat), Vals xs its ∧ xs.length = its.length ∧ s.heap.get? l = some { cls := .type "list", data := .seq its.toArray n } := by
 obtain ⟨z, its, n, r, e⟩ := I.hok l _ hH
 exact ⟨z, its, n, r, r.length, e⟩
theorem notLongL {n : Nat} (h : n ≤ sizeLine) : Builtin.List.listTooLong n = false := by
 unfold Builtin.List.listTooLong
 exact decide_eq_false (by omega)
end
section
variable {X : Cx}

noncomputable def rAppend : V → List V → Hp → VK → Prop := fun x vs H Q => ∃ l xs y, x = .ref l ∧ vs = [y] ∧ H l = some (.lst xs) ∧ xs.length < sizeLine ∧ Q .non (upd H l (.lst (xs ++ [y])))
theorem Z334 : MtM X "list.append" rAppend := by
 intro pins s σ H x vs v us Q I rx rv h
 obtain ⟨l, xs, y, rfl, rfl, hH, hz, q⟩ := h
 cases rx
 obtain ⟨u, rfl, ru⟩ := rv.one
 obtain ⟨z, its, n, r, hl, e⟩ := I.lstM hH
 refine call_meets F.slot_list_append ⟨_, e, rfl⟩ F.entry_list_append (F.args_list_append_2 _ _) (PySem.list_append l its.toArray n u (by rw [List.size_toArray]; omega)) ⟨e, ?_⟩
 refine ⟨.non, _, I.lset (its' := its ++ [u]) hH e (by simp) (r.append (.cons ru .nil)) ?_, rfl, q⟩
 rw [List.length_append, List.length_singleton]
 omega
noncomputable def rExtend : V → List V → Hp → VK → Prop := fun x vs H Q => ∃ l b xs zs, x = .ref l ∧ vs = [.ref b] ∧ H l = some (.lst xs) ∧ H b = some (.lst zs) ∧ xs.length + zs.length ≤ sizeLine ∧ Q .non (upd H l (.lst (xs ++ zs)))
theorem Z335 : MtM X "list.extend" rExtend := by
 intro pins s σ H x vs v us Q I rx rv h
 obtain ⟨l, b, xs, zs, rfl, rfl, hH, hB, hz, q⟩ := h
 cases rx
 obtain ⟨u, rfl, ru⟩ := rv.one
 cases ru
 obtain ⟨z, its, n, r, hl, e⟩ := I.lstM hH
 obtain ⟨z2, its2, n2, r2, hl2, e2⟩ := I.lstM hB
 have hsz : its.toArray.size + its2.toArray.size ≤ sizeLine := by rw [List.size_toArray, List.size_toArray]; omega
 have hlong : ¬ (!its.toArray.isEmpty && Builtin.List.listTooLong (its.toArray.size + its2.toArray.size)) = true := by
  rw [notLongL hsz, Bool.and_false]
  exact Bool.false_ne_true
 refine call_meets F.slot_list_extend ⟨_, e, rfl⟩ F.entry_list_extend (F.args_list_extend_2 _ _)
  (AutoSeq1.list_extend_list_list_0 l its.toArray n b its2.toArray n2 hlong (by rw [List.size_toArray]; omega) (by omega)) ⟨e, e2, ?_⟩
 refine ⟨.non, _, I.lset (its' := its ++ its2) hH e (by simp) (r.append r2) ?_, rfl, q⟩
 rw [List.length_append]
 omega

noncomputable def rCat : R2 := fun x y H Q => ∃ l b xs zs, x = .ref l ∧ y = .ref b ∧ H l = some (.lst xs) ∧ H b = some (.lst zs) ∧ xs.length + zs.length ≤ sizeLine ∧ ∀ p, H p = none → Q (.ref p) (upd H p (.lst (xs ++ zs)))
theorem Z383 : OpR X (binaryOp .Add) rCat := by
 intro pins s σ H x y v u Q I rx ry h
 obtain ⟨l, b, xs, zs, rfl, rfl, hH, hB, hz, q⟩ := h
 cases rx
 cases ry
 obtain ⟨z, its, n, r, hl, e⟩ := I.lstM hH
 obtain ⟨z2, its2, n2, r2, hl2, e2⟩ := I.lstM hB
 refine PySem.P.add_list e e2 ?_ (by rw [List.size_toArray, List.size_toArray]; omega)
 have ea : its.toArray ++ its2.toArray = (its ++ its2).toArray := by simp
 rw [ea]
 exact ⟨.ref _, _, I.lnew (t' := s.toks) (r.append r2) (by rw [List.length_append]; omega), rfl, q _ I.fresh⟩

end

section
variable {prog : Program} {w : World} {A : Around} {E : Value → Shared → Prop} {s : Shared}
end
section
variable {X : Cx}
end
end L2
namespace Att
open PySem PySem.W PySem.Calls PyProof.Rows

theorem Z215 {P : Params} {h : Heap} : ∀ (ns : List Int) (vs : List Value), WellAll P h vs (ns.map WData.int) → IntsAre vs ns := by
 intro ns
 induction ns with
 | nil =>
  intro vs w
  rw [List.map_nil] at w
  cases w
  exact .nil
 | cons n ns ih =>
  intro vs w
  rw [List.map_cons] at w
  cases w with
  | cons a b =>
   cases a
   exact .cons _ _ (ih _ b)
theorem Z553 {l : OpenLaw} {n : Nat} (hn : l.most = some n) {P : Params} {h : Heap} {args : List WData} {vals : List Value}
  (hpre : l.row.toRowW.claim.pre args = true) (hwl : WellAll P h vals args) :
  ∃ a vs ns, vals = [Value.ref a] ∧ args = [WData.list (ns.map WData.int)] ∧ h.get? a = some { cls := .type "list", data := .seq vs.toArray } ∧ IntsAre vs ns ∧ ns.length ≤ n := by
 have hsh : WShape.hasAll [] args [.list .int] = true := (pre_splitW hpre).1
 have hc : l.pre.holds [] { args := args } = true := (pre_splitW hpre).2
 obtain ⟨d, r, rfl, h1, h2⟩ := hasAllW_cons hsh
 obtain rfl := hasAllW_nil h2
 obtain ⟨xs, rfl, h3⟩ := hasW_list h1
 obtain ⟨ns, rfl⟩ := items_int h3
 have hlen : ns.length ≤ n := by
  unfold OpenLaw.pre at hc
  have h4 : (WTm.not (.lt (.lit (.int (n : Int))) (.len (.arg 0)))).holds [] { args := [.list (ns.map .int)] } = true := by
   have h4 := (holds_andW hc).1
   rw [hn] at h4
   exact h4
  have h5 := condW_of h4 (w_not (w_lt w_lit (w_len_list (w_arg rfl))))
  rw [List.length_map] at h5
  refine Nat.le_of_not_lt fun q => ?_
  have q' : (n : Int) < ((ns.length : Nat) : Int) := by omega
  first
   | (rw [decide_eq_true q'] at h5; exact absurd h5 (by decide))
   | (simp at h5; omega)
 cases hwl with
 | cons w1 w2 =>
  cases w2
  cases w1 with
  | list ho hall => exact ⟨_, _, ns, rfl, rfl, ho, Z215 ns _ hall, hlen⟩
theorem Z436 (l : OpenLaw) (args : List WData) : l.row.toRowW.claim.post args (.bool true) args = true :=
 postW_of (r := l.row.toRowW) (X := (true == true))
  (show WShape.has [] (.bool true) .bool = true by first | rfl | decide | simp [WShape.has, WShape.arms, WShape.armsAll])
  (show (WTm.eq .res (.lit (.bool true))).value [] { args := args, res := some (.bool true), after := args } = some (.bool (true == true)) from w_eq_bool (w_res rfl) w_lit) rfl

theorem Z8 {l : OpenLaw} {n : Nat} {q : Program} {loose : List Str} {XP : (Str → Option Value) → Heap → Prop} {YP : World → Heap → Prop} {d : DefRec}
  (hn : l.most = some n) (hdf : d.params.defaults = [])
  (call : ∀ (w : World) (s₀ s₁ : Shared) (mg mb : Str → Option Value) (fa : Addr) (o : Obj) (pm cd doc : Value) (a : Addr) (vs : List Value) (ns : List Int),
   Ground q loose [] XP w s₀ mg mb s₁.heap → YP w s₁.heap →
   s₁.heap.get? fa = some o → o.data = .func (docDef d.name d.params d.body d.scope pm cd doc) → s₁.heap.CodeRec cd d.name → mg d.name = some (.ref fa) →
   s₁.heap.get? a = some { cls := .type "list", data := .seq vs.toArray } → IntsAre vs ns → ns.length ≤ n → s₁.gens = #[] →
   codeAny (model l.prog w) callerA (.call (.ref fa) ⟨[.ref a], []⟩) (fun r s' => r = .ok (.ret (.bool true)) ∧ OldK s₁.heap s'.heap ∧ s'.os = s₁.os ∧ AllBare s'.gens) s₁) :
  WalkO q loose XP YP l.row.toRowW d [] (fun f vs => PySem.call f vs) := by
 intro w s₀ s₁ mg mb G Y fa o pm cd doc dV kV ho hd hcd hD hmg hg args vals as hpre hlay hrd hwl hlo
 obtain rfl : dV = .none := Dflts.none hD hdf
 obtain rfl : kV = .none := Dflts.noKw hD
 obtain ⟨a, vs, ns, rfl, rfl, hobj, hints, hlen⟩ := Z553 hn hpre hwl
 refine enter_call (codeAny_mono (call w s₀ s₁ mg mb fa o pm cd doc a vs ns G Y ho (fd_plain hd) hcd hmg hobj hints hlen hg) fun r s' hq => ?_)
 obtain ⟨rfl, h2, h3, h4⟩ := hq
 exact ⟨.inl ⟨.bool true, .bool true, [], rfl, fun _ => rfl, .bool true, Z436 l _, fun _ => ⟨List.Pairwise.nil, fun _ hm => (nomatch hm)⟩⟩, h2, h3, h4⟩

section
variable {prog : Program} {w : World} {A : Around} {E : Value → Shared → Prop} {s : Shared} {K : Frag}

noncomputable def ledger (h : Heap) (L d : Addr) : List (Addr × Obj) := (List.range h.objs.size).filterMap fun a => if a = L ∨ a = d then none else (h.get? a).map fun o => (a, o)
end
end Att
namespace L2
open PySem PySem.Spec PyProof.Rows
theorem vals_ints : ∀ {vs : List Value} {ns : List Int}, IntsAre vs ns → Vals (ns.map V.int) vs
 | _, _, .nil => .nil
 | _, _, .cons n t h => .cons ⟨t, rfl⟩ (vals_ints h)
noncomputable def Only (H : Hp) : Prop := ∀ b, H b = none ∨ ∃ o xs, H b = some (.frz o (.lst xs))
theorem Z286 {P : Program} {w : World} {K : PySem.W.Frag} {mg mb : Str → Option Value} {CX : CXT} {k : Nat} {fa a : Addr} {fd : FuncData} {x : Str} {sp : Sp} {s₁ : Shared} {vs : List Value} {ns : List Int}
  (KX : K.In s₁.heap) (hns : s₁.heap.Ns mainGlobals mg) (hb : s₁.heap.Ns builtinsNs mb) (hbb : ∀ x : Str, x ≠ "__name__" → mb x = bootBuiltins x) (hlim : s₁.heap.NoLimit) (hg : s₁.gens = #[])
  (ha : s₁.heap.get? a = some { cls := .type "list", data := .seq vs.toArray }) (hi : IntsAre vs ns) (hl : ns.length ≤ sizeLine) (hr : Room k callerA)
  (F : ∀ base : Heap, K.In base → base.Ns mainGlobals mg → FnOk P w K mg base CX k fa fd [x] sp) (hbind : ∀ (s : Shared) (u : Value), BindsTo s fd ⟨[u], []⟩ [(x, u)])
  (hsp : ∀ H : Hp, Only H → SqL K H a (ns.map V.int) → sp [.ref a] H (fun v _ => v = .bl true) fun _ _ _ => False)
  (hCX : ∀ H e s', CX [] H s₁ (fun _ _ _ => False) e s' → False) :
  codeAny (model P w) callerA (.call (.ref fa) ⟨[.ref a], []⟩) (fun r s' => r = .ok (.ret (.bool true)) ∧ OldK s₁.heap s'.heap ∧ s'.os = s₁.os ∧ AllBare s'.gens) s₁ := by
 have rv := vals_ints hi
 have lenV := hi.length
 have core : ∀ H : Hp, Only H → SqL K H a (ns.map V.int) → HOk P w H s₁.heap → (∀ b, H b ≠ none → b = a) → (H a ≠ none → K.lookup a = none) →
   codeAny (model P w) callerA (.call (.ref fa) ⟨[.ref a], []⟩) (fun r s' => r = .ok (.ret (.bool true)) ∧ OldK s₁.heap s'.heap ∧ s'.os = s₁.os ∧ AllBare s'.gens) s₁ := by
  intro H hO hS hok hA hK
  have base_of : ∀ {b : Addr} {o : Obj}, s₁.heap.get? b = some o → H b = none → (hidT s₁.heap H).get? b = some o := fun e n => Z188 e n
  have noA : ∀ {b : Addr} {o : Obj} {es : Array DictEntry} {ep : Nat}, s₁.heap.get? b = some o → o.data = .dict es ep → H b = none := fun {b o es ep} e d => by
   cases q : H b with
   | none => rfl
   | some u =>
    have e' : b = a := hA b (by rw [q]; simp)
    subst e'
    rw [ha] at e; cases e
    have d' : Data.seq vs.toArray _ = Data.dict es ep := d
    cases d'
  have nsK : ∀ {b : Addr} {m : Str → Option Value}, s₁.heap.Ns b m → (hidT s₁.heap H).Ns b m := fun {b m} ⟨o, es, ep, e, d, r⟩ => ⟨o, es, ep, base_of e (noA e d), d, r⟩
  have hKb : K.In (hidT s₁.heap H) := fun b o e => base_of (KX b o e) (by
   cases q : H b with
   | none => rfl
   | some u =>
    have e' : b = a := hA b (by rw [q]; simp)
    subst e'
    rw [hK (by rw [q]; simp)] at e; cases e)
  have hM : Mod K mg (hidT s₁.heap H) := ⟨hKb, nsK hns, ⟨mb, nsK hb, hbb⟩, let ⟨mc, h1, h2⟩ := hlim; ⟨mc, nsK h1, h2⟩⟩
  have e0 : Env0 P w K mg (hidT s₁.heap H) callerA [] s₁ H := ⟨rfl, hM, fun b o e => Z357 e, Nat.le_of_eq (Z189 _ _), trivial, fun b hb => absurd (show b ∈ ([] : List Addr) from hb) (by simp), hok, .of_eq hg⟩
  refine codeAny_mono ((F _ hKb (nsK hns)).run callerA [] s₁ H ⟨[.ref a], []⟩ [.ref a] [.ref a] _ _ hr e0 (hbind s₁ (.ref a)) (.cons rfl .nil) (hsp H hO hS)) fun r s' h => ?_
  cases r with
  | error e => exact (hCX H e s' h).elim
  | ok fl =>
   cases fl with
   | next => exact False.elim h
   | brk => exact False.elim h
   | cont => exact False.elim h
   | ret u =>
    obtain ⟨v, H', os, bare, un, hok', r', q⟩ := h
    have q' : v = .bl true := q
    subst q'
    obtain rfl : u = Value.bool true := r'
    refine ⟨rfl, OldK.of_keep fun b o e => ?_, os, bare⟩
    cases q : H b with
    | none => exact un.keep b o e q (by intro z; exact absurd (show b ∈ ([] : List Addr) from z) (by simp)) (by simp)
    | some u =>
     rcases hO b with z | ⟨ob, xs, z⟩
     ·rw [q] at z; cases z
     ·have z2 := un.frzs b ob _ z
      obtain ⟨e1, _⟩ := hok b _ z
      obtain ⟨e2, _⟩ := hok' b _ z2
      rw [e] at e1; cases e1
      exact e2
 cases hk : K.lookup a with
 | some o =>
  have e := KX a o hk
  rw [ha] at e
  cases e
  refine core (fun _ => none) (fun _ => .inl rfl) (.inr ⟨_, vs.toArray, _, hk, rfl, rfl, rfl, by rw [List.size_toArray, lenV]; exact hl, by simpa using rv⟩) (fun b u z => by have z' : (none : Option HO) = some u := z; cases z') (fun b z => absurd rfl z) fun z => absurd rfl z
 | none =>
  refine core (fun b => if b = a then some (.frz { cls := .type "list", data := .seq vs.toArray } (.lst (ns.map V.int))) else none) (fun b => ?_) (.inl (.inr ⟨{ cls := .type "list", data := .seq vs.toArray }, if_pos rfl⟩)) (fun b u z => ?_) (fun b z => ?_) fun _ => hk
  ·by_cases hb : b = a
   ·exact .inr ⟨_, _, if_pos hb⟩
   ·exact .inl (if_neg hb)
  ·by_cases hb : b = a
   ·have z' := (if_pos hb).symm.trans z
    cases z'
    subst hb
    exact ⟨ha, by rw [List.length_map]; exact hl, vs, _, rv, ha⟩
   ·have z' := (if_neg hb).symm.trans z
    cases z'
  ·by_cases hb : b = a
   ·exact hb
   ·exact absurd (if_neg hb) z
end L2
namespace L2
open PySem PySem.Spec PyProof.Rows
noncomputable abbrev KOf {K : PySem.W.Frag} {h : Heap} (_ : K.In h) : PySem.W.Frag := K
theorem Z665 {l : PySem.W.OpenLaw} {n k : Nat} {q : Program} {loose : List Str} {XP : (Str → Option Value) → Heap → Prop} {YP : World → Heap → Prop} {d : DefRec} {K : Params → PySem.W.Frag} {CX : World → CXT} {sp : World → Sp} {x : Str}
  (hn : l.most = some n) (hn2 : n ≤ sizeLine) (hdf : d.params.defaults = []) (hr : Room k callerA)
  (hY : ∀ (w : World) (h : Heap), YP w h → (K w.params).In h)
  (F : ∀ (w : World) (mg : Str → Option Value) (fa : Addr) (h : Heap), (K w.params).In h → h.Ns mainGlobals mg → mg d.name = some (.ref fa) →
   ∃ fd : FuncData, (∀ (s : Shared) (u : Value), BindsTo s fd ⟨[u], []⟩ [(x, u)]) ∧
    ∀ base : Heap, (K w.params).In base → base.Ns mainGlobals mg → FnOk l.prog w (K w.params) mg base (CX w) k fa fd [x] (sp w))
  (hsp : ∀ (w : World) (H : Hp) (a : Addr) (ns : List Int), ns.length ≤ n → Only H → SqL (K w.params) H a (ns.map V.int) → sp w [.ref a] H (fun v _ => v = .bl true) fun _ _ _ => False)
  (hCX : ∀ (w : World) (H : Hp) (s : Shared) (e : Value) (s' : Shared), CX w [] H s (fun _ _ _ => False) e s' → False) :
  PySem.W.WalkO q loose XP YP l.row.toRowW d [] (fun f vs => PySem.call f vs) := by
 refine Att.Z8 hn hdf fun w s₀ s₁ mg mb fa o pm cd doc a vs ns G Y ho hd hcd hmg hobj hints hlen hg => ?_
 have KX := hY w _ Y
 obtain ⟨fd, hb, hF⟩ := F w mg fa _ KX G.T.g hmg
 exact Z286 KX G.T.g G.T.b G.T.builtins G.T.nolimit hg hobj hints (Nat.le_trans hlen hn2) hr hF hb (fun H hO hS => hsp w H a ns hlen hO hS) fun H e s' => hCX w H s₁ e s'
end L2


namespace L2
open PySem PySem.Spec PyProof.Rows

noncomputable def inClass (s : Stmt) (j : Nat) : Stmt := match s with
 | .ClassDef _ _ _ body _ _ _ _ _ _ _ => body.getD j (.Pass ⟨0, 0, 0, 0⟩)
 | _ => .Pass ⟨0, 0, 0, 0⟩
noncomputable def defArgs (s : Stmt) : Arguments := match s with
 | .FunctionDef _ a _ _ _ _ _ _ _ _ => a
 | _ => { posonlyargs := [], args := [], vararg := none, kwonlyargs := [], kw_defaults := [], kwarg := none, defaults := [] }
noncomputable def defBody (s : Stmt) : List Stmt := match s with
 | .FunctionDef _ _ b _ _ _ _ _ _ _ => b
 | _ => []
noncomputable def defScope (s : Stmt) : Scope := match s with
 | .FunctionDef _ _ _ _ _ _ sc _ _ _ => sc
 | _ => { kind := .function, names := [], isGenerator := false, isCoroutine := false }

noncomputable abbrev CX0 : CXT := fun _ _ _ _ _ _ => False
noncomputable abbrev E0 : XK := fun _ _ _ => False

structure Fun (K : PySem.W.Frag) (x qual : Str) (st : Stmt) (f : Addr) (fd : FuncData) : Prop where
 ex : ∃ (oc : Value) (od : Option Addr) (kV doc pm : Value) (an : Option Addr) (cdv ct : Value) (osl : Array (Option Value)),
  fd = PySem.W.fnOf x qual (defArgs st) (defBody st) (defScope st) .none kV doc pm an cdv ct ∧ K.lookup f = some ⟨oc, od, .func fd, osl⟩ ∧ PySem.W.codeIn K cdv qual = true
 kp : PySem.W.keepIn K (.ref f) = true
section
variable {P : Program} {w : World} {K : PySem.W.Frag} {mg : Str → Option Value} {base : Heap}
theorem Z161 {x qual : Str} {st : Stmt} {f : Addr} {oc : Value} {od an : Option Addr} {osl : Array (Option Value)} {kV doc pm cdv ct : Value} (l : K.lookup f = some ⟨oc, od, .func (PySem.W.fnOf x qual (defArgs st) (defBody st) (defScope st) .none kV doc pm an cdv ct), osl⟩)
  (c : PySem.W.codeIn K cdv qual = true) (k : PySem.W.keepIn K (.ref f) = true) : Fun K x qual st f (PySem.W.fnOf x qual (defArgs st) (defBody st) (defScope st) .none kV doc pm an cdv ct) := ⟨⟨oc, od, kV, doc, pm, an, cdv, ct, osl, rfl, l, c⟩, k⟩
end
theorem hu_of {A : Around} {k : Nat} (hr : Room k A) : A.units + 1 < cLine := Nat.lt_of_le_of_lt (Nat.add_le_add_left (by decide : 1 ≤ 64) _) hr.units

section
variable {X : Cx}
theorem pv (i : Nat) {x : Str} {pos : Pos} (hN : X.N[i]? = some x := by rfl) (hv : Vis X.env.scope x := by first | exact Or.inl rfl | exact Or.inr (Or.inl rfl) | exact Or.inr (Or.inr rfl)) (hd : (x == ("__debug__" : Str)) = false := by decide)
  (hcd : (x == ("__classdict__" : Str)) = false := by decide) : PE X (.Name x pos) (tVar i) := Z421 hN hv hd hcd
end

theorem iteF {A B : Prop} (h : B) : if false = true then A else B := by
 rw [if_neg Bool.false_ne_true]
 exact h
theorem iteT {A B : Prop} (h : A) : if true = true then A else B := by
 rw [if_pos rfl]
 exact h

noncomputable def Same (H H' : Hp) : Prop := ∀ b o, H b = some o → H' b = some o
theorem Same.trans {H H1 H2 : Hp} (a : Same H H1) (b : Same H1 H2) : Same H H2 := fun c o h => b c o (a c o h)
theorem Same.seq {K : PySem.W.Frag} {H H' : Hp} {a : Addr} {xs : List V} (e : Same H H') (h : SqL K H a xs) : SqL K H' a xs := by
 rcases h with (h | ⟨o, h⟩) | h
 ·exact .inl (.inl (e _ _ h))
 ·exact .inl (.inr ⟨o, e _ _ h⟩)
 ·exact .inr h
end L2
set_option Elab.async false
set_option linter.all false
set_option maxRecDepth 100000
namespace L2
open PySem PySem.Spec PyProof.Rows

section
variable {κ : Type} [DecidableEq κ]
noncomputable def valV (kvs : List (κ × V)) (k : κ) : Option V := (kvs.find? fun kv => decide (kv.1 = k)).map (·.2)
noncomputable def putK (kvs : List (κ × V)) (k : κ) (v : V) : List (κ × V) :=
 if (kvs.any fun kv => decide (kv.1 = k)) = true then kvs.map (fun kv => if kv.1 = k then (kv.1, v) else kv) else kvs ++ [(k, v)]
theorem Z659 {p : κ × V} {r : List (κ × V)} {k : κ} (e : p.1 = k) : valV (p :: r) k = some p.2 := by simp [valV, List.find?_cons, e]
theorem Z658 {p : κ × V} {r : List (κ × V)} {k : κ} (e : ¬ p.1 = k) : valV (p :: r) k = valV r k := by simp [valV, List.find?_cons, e]
theorem Z656 (k : κ) : ∀ kvs : List (κ × V), (kvs.any fun kv => decide (kv.1 = k)) = (valV kvs k).isSome
 | [] => rfl
 | p :: r => by
  rw [List.any_cons]
  by_cases e : p.1 = k
  ·simp only [Z659 e, decide_eq_true e, Bool.true_or, Option.isSome_some]
  ·rw [Z658 e, decide_eq_false e, Bool.false_or]; exact Z656 k r
theorem Z304 (kvs : List (κ × V)) (k : κ) (v : V) : (putK kvs k v).length ≤ kvs.length + 1 := by
 unfold putK
 split
 ·rw [List.length_map]; omega
 ·rw [List.length_append, List.length_cons, List.length_nil]; omega
theorem Z454 {kvs : List (κ × V)} {k : κ} (v : V) (h : valV kvs k = none) : putK kvs k v = kvs ++ [(k, v)] := by
 unfold putK
 rw [Z656, h]
 exact if_neg (by decide)
theorem RelO.isSome_eq {o : Option V} {u : Option Value} (r : RelO o u) : o.isSome = u.isSome := by
 cases o with
 | none => cases u with
  | none => rfl
  | some _ => exact (show False from r).elim
 | some _ => cases u with
  | none => exact (show False from r).elim
  | some _ => rfl
theorem KV.val {kvs : List (κ × V)} {vs : List (κ × Value)} (r : KV kvs vs) (k : κ) : RelO (valV kvs k) (valueAt vs k) := by
 unfold KV at r
 induction r with
 | nil => exact True.intro
 | @cons p q ps qs h t ih =>
  obtain ⟨h1, h2⟩ := h
  by_cases e : p.1 = k
  ·have e' : q.1 = k := h1.symm.trans e
   have b : valueAt (q :: qs) k = some q.2 := by simp [valueAt, List.find?_cons, e']
   rw [Z659 e, b]; exact h2
  ·have e' : ¬ q.1 = k := fun z => e (h1.trans z)
   have b : valueAt (q :: qs) k = valueAt qs k := by simp [valueAt, List.find?_cons, e']
   rw [Z658 e, b]; exact ih
theorem KV.any {kvs : List (κ × V)} {vs : List (κ × Value)} (r : KV kvs vs) (k : κ) : (kvs.any fun kv => decide (kv.1 = k)) = vs.any fun kv => decide (kv.1 = k) := by
 unfold KV at r
 induction r with
 | nil => rfl
 | cons h t ih => rw [List.any_cons, List.any_cons, ih, h.1]
theorem KV.repl {kvs : List (κ × V)} {vs : List (κ × Value)} (r : KV kvs vs) (k : κ) {y : V} {u : Value} (ry : RelV y u) :
  KV (kvs.map fun kv => if kv.1 = k then (kv.1, y) else kv) (vs.map fun kv => if kv.1 = k then (kv.1, u) else kv) := by
 unfold KV at r ⊢
 induction r with
 | nil => exact .nil
 | @cons p q ps qs h t ih =>
  rw [List.map_cons, List.map_cons]
  refine .cons ?_ ih
  obtain ⟨h1, h2⟩ := h
  by_cases e : p.1 = k
  ·rw [if_pos e, if_pos (h1.symm.trans e)]; exact ⟨h1, ry⟩
  ·rw [if_neg e, if_neg (fun z => e (h1.trans z))]; exact ⟨h1, h2⟩
theorem KV.put {kvs : List (κ × V)} {vs : List (κ × Value)} (r : KV kvs vs) (k : κ) {y : V} {u : Value} (ry : RelV y u) : KV (putK kvs k y) (stored vs k u) := by
 unfold putK stored
 rw [r.any k]
 by_cases e : (vs.any fun kv => decide (kv.1 = k)) = true
 ·rw [if_pos e, if_pos e]; exact r.repl k ry
 ·rw [if_neg e, if_neg e]; exact Paired.snoc r ⟨rfl, ry⟩
theorem KV.length {kvs : List (κ × V)} {vs : List (κ × Value)} (r : KV kvs vs) : kvs.length = vs.length := Paired.length r
end

theorem kV_is {P : Program} {w : World} {k : Key} {u : Value} (r : RelV (kV k) u) : (mixKind P w).is k u = true := by
 cases k with
 | inl i => obtain ⟨t, e⟩ := (show ∃ t, u = Value.int i t from r); subst e; exact Z332 P w i t
 | inr x => obtain ⟨t, e⟩ := (show ∃ t, u = Value.str x t from r); subst e; exact Z333 P w x t
theorem Z223 {P : Program} {w : World} : ∀ {ks : List Key} {us : List Value}, Vals (ks.map kV) us → ItemsAre (mixKind P w) ks us
 | [], _, r => by rw [List.map_nil] at r; cases r; exact .nil
 | k :: ks, _, r => by
  rw [List.map_cons] at r
  cases r with
  | cons h t => exact .cons (kV_is h) (Z223 t)
noncomputable abbrev KT (H : Hp) : List (List Key × V) → List (List Key × Addr × Value) → Prop := Paired fun p q => p.1 = q.1 ∧ H q.2.1 = some (.tup (p.1.map kV)) ∧ RelV p.2 q.2.2
theorem KT.val {H : Hp} {kvs : List (List Key × V)} {xs : List (List Key × Addr × Value)} (r : KT H kvs xs) (k : List Key) : RelO (valV kvs k) ((atKey xs k).map (·.2)) := by
 induction r with
 | nil => exact True.intro
 | @cons p q ps qs h t ih =>
  obtain ⟨h1, _, h2⟩ := h
  by_cases e : p.1 = k
  ·have e' : q.1 = k := h1.symm.trans e
   have b : atKey (q :: qs) k = some q.2 := by simp [atKey, List.find?_cons, e']
   rw [Z659 e, b]; exact h2
  ·have e' : ¬ q.1 = k := fun z => e (h1.trans z)
   have b : atKey (q :: qs) k = atKey qs k := by simp [atKey, List.find?_cons, e']
   rw [Z658 e, b]; exact ih
theorem KT.repl {H : Hp} {kvs : List (List Key × V)} {xs : List (List Key × Addr × Value)} (r : KT H kvs xs) (k : List Key) {y : V} {u : Value} (ry : RelV y u) :
  KT H (kvs.map fun kv => if kv.1 = k then (kv.1, y) else kv) (xs.map (putAt k u)) := by
 induction r with
 | nil => exact .nil
 | @cons p q ps qs h t ih =>
  rw [List.map_cons, List.map_cons]
  refine .cons ?_ ih
  obtain ⟨h1, h2, h3⟩ := h
  unfold putAt
  by_cases e : p.1 = k
  ·rw [if_pos e, if_pos (h1.symm.trans e)]; exact ⟨h1, h2, ry⟩
  ·rw [if_neg e, if_neg (fun z => e (h1.trans z))]; exact ⟨h1, h2, h3⟩
theorem KT.put {H : Hp} {kvs : List (List Key × V)} {xs : List (List Key × Addr × Value)} (r : KT H kvs xs) (k : List Key) {b : Addr} {y : V} {u : Value} (hb : H b = some (.tup (k.map kV))) (ry : RelV y u) :
  KT H (putK kvs k y) (storedH xs k b u) := by
 have e : (kvs.any fun kv => decide (kv.1 = k)) = (atKey xs k).isSome := by
  rw [Z656, (r.val k).isSome_eq, Option.isSome_map]
 unfold putK storedH
 rw [e]
 by_cases q : (atKey xs k).isSome = true
 ·rw [if_pos q, if_pos q]; exact r.repl k ry
 ·rw [if_neg q, if_neg q]; exact Paired.snoc r ⟨rfl, hb, ry⟩
theorem KT.keeps {H H' : Hp} {kvs : List (List Key × V)} {xs : List (List Key × Addr × Value)} (r : KT H kvs xs) (ht : ∀ b ys, H b = some (.tup ys) → H' b = some (.tup ys)) : KT H' kvs xs :=
 Paired.mapP r fun _ _ z => ⟨z.1, ht _ _ z.2.1, z.2.2⟩
section
variable {P : Program} {w : World} {H : Hp} {h : Heap} {a : Addr}
theorem rd_of {u : HO} (ok : HOk P w H h) (e : Rd H a u) : ObjOk P w H h a u := e.ok ok
theorem dk_rd {kvs : List (Key × V)} (ok : HOk P w H h) (e : Rd H a (.dK kvs)) : kvs.length ≤ sizeLine ∧ (a == sysModules) = false ∧ ∃ vs, KV kvs vs ∧ h.DictOf (mixKind P w) a vs :=
 show ObjOk P w H h a (.dK kvs) from rd_of ok e
theorem dk_of {kvs : List (Key × V)} (ok : HOk P w H h) (e : H a = some (.dK kvs)) : kvs.length ≤ sizeLine ∧ (a == sysModules) = false ∧ ∃ vs, KV kvs vs ∧ h.DictOf (mixKind P w) a vs := dk_rd ok (.inl e)
theorem Z248 {ks : List Key} (ok : HOk P w H h) (e : H a = some (.tup (ks.map kV))) : (tupleKind (mixKind P w)).is h ks a := by
 obtain ⟨_, its, r, o, h1, h2, n, h3⟩ := (show ObjOk P w H h a (.tup (ks.map kV)) from ok a _ e)
 exact ⟨o, its.toArray, n, h1, h2, h3, by simpa using Z223 r⟩
theorem dt_rd {kvs : List (List Key × V)} (ok : HOk P w H h) (e : Rd H a (.dT kvs)) : kvs.length ≤ sizeLine ∧ (a == sysModules) = false ∧
  ∃ xs, KT H kvs xs ∧ h.DictOfH (tupleKind (mixKind P w)) a xs := by
 obtain ⟨z, y, xs, r, o, es, ep, h1, h2, h3, h4, h5⟩ := (show ObjOk P w H h a (.dT kvs) from rd_of ok e)
 refine ⟨z, y, xs, r, o, es, ep, h1, h2, h3, h4, fun x hx => ?_, h5⟩
 have all : ∀ {l : List (List Key × V)} {m : List (List Key × Addr × Value)}, KT H l m → ∀ x ∈ m, (tupleKind (mixKind P w)).is h x.1 x.2.1 := by
  intro l m q
  induction q with
  | nil => intro x hx; exact nomatch hx
  | @cons p q ps qs hq t ih =>
   intro x hx
   rcases List.mem_cons.mp hx with e | hx
   ·subst e
    exact Z248 ok (by rw [← hq.1]; exact hq.2.1)
   ·exact ih x hx
 exact all r x hx
theorem dt_of {kvs : List (List Key × V)} (ok : HOk P w H h) (e : H a = some (.dT kvs)) : kvs.length ≤ sizeLine ∧ (a == sysModules) = false ∧
  ∃ xs, KT H kvs xs ∧ h.DictOfH (tupleKind (mixKind P w)) a xs := dt_rd ok (.inl e)
end
noncomputable def DGet (H : Hp) (a : Addr) (y : V) (r : Option V) : Prop :=
 (∃ kvs k, Rd H a (.dK kvs) ∧ y = kV k ∧ r = valV kvs k) ∨ ∃ kvs k b, Rd H a (.dT kvs) ∧ y = .ref b ∧ H b = some (.tup (k.map kV)) ∧ r = valV kvs k
noncomputable def DPut (H : Hp) (a : Addr) (y v : V) (H' : Hp) : Prop :=
 (∃ kvs k, H a = some (.dK kvs) ∧ y = kV k ∧ kvs.length < sizeLine ∧ H' = upd H a (.dK (putK kvs k v))) ∨
 ∃ kvs k b, H a = some (.dT kvs) ∧ y = .ref b ∧ H b = some (.tup (k.map kV)) ∧ kvs.length < sizeLine ∧ H' = upd H a (.dT (putK kvs k v))
theorem DGet.k {H : Hp} {a : Addr} {kvs : List (Key × V)} {k : Key} (e : H a = some (.dK kvs)) : DGet H a (kV k) (valV kvs k) := .inl ⟨kvs, k, .inl e, rfl, rfl⟩
theorem DGet.t {H : Hp} {a b : Addr} {kvs : List (List Key × V)} {k : List Key} (e : H a = some (.dT kvs)) (eb : H b = some (.tup (k.map kV))) : DGet H a (.ref b) (valV kvs k) := .inr ⟨kvs, k, b, .inl e, rfl, eb, rfl⟩
theorem DPut.k {H : Hp} {a : Addr} {kvs : List (Key × V)} {k : Key} {v : V} (e : H a = some (.dK kvs)) (hl : kvs.length < sizeLine) : DPut H a (kV k) v (upd H a (.dK (putK kvs k v))) := .inl ⟨kvs, k, e, rfl, hl, rfl⟩
theorem DPut.t {H : Hp} {a b : Addr} {kvs : List (List Key × V)} {k : List Key} {v : V} (e : H a = some (.dT kvs)) (eb : H b = some (.tup (k.map kV))) (hl : kvs.length < sizeLine) :
  DPut H a (.ref b) v (upd H a (.dT (putK kvs k v))) := .inr ⟨kvs, k, b, e, rfl, eb, hl, rfl⟩
section
variable {X : Cx} {pins : List (Addr × Obj)} {σ : St} {H : Hp} {s : Shared} {a : Addr} {y v : V} {u r : Value} {o : Option V} {A : Around} {E : Value → Shared → Prop}
theorem Inv.big (I : Inv X pins σ H s) : sysModules < s.heap.objs.size := by
 have h : mainGlobals < s.heap.objs.size := (I.mod.glob.keeps I.bk).lt
 exact Nat.lt_trans (by decide) h
theorem d_in {Q : Value → Shared → Prop} (hu : A.units + 1 < cLine) (I : Inv X pins σ H s) (g : DGet H a y o) (ry : RelV y u) (h : ∀ s', Inv X pins σ H s' → Q (.bool o.isSome) s') :
  wpAny (model X.prog X.w) A (compareOp .In u (.ref a)) Q E s := by
 rcases g with ⟨kvs, k, e, ey, l⟩ | ⟨kvs, k, b, e, ey, eb, l⟩
 ·subst ey
  obtain ⟨z, hd, vs, rel, dd⟩ := dk_rd I.hok e
  refine wpAny_in_of (kV_is ry) hd dd.mapOf ?_
  rw [← (rel.val k).isSome_eq, ← l]
  exact h _ (I.tok _)
 ·subst ey
  cases (show u = Value.ref b from ry)
  obtain ⟨z, hd, xs, rel, dd⟩ := dt_rd I.hok e
  refine wpAny_in_heap (tupleKind_room_in1 hu) (Z248 I.hok eb) hd dd ?_
  have q := (rel.val k).isSome_eq
  rw [Option.isSome_map] at q
  rw [← q, ← l]
  exact h _ (I.tok _)
theorem Z64 {h' : Heap} {t' : Nat} {ob : HO} (I : Inv X pins σ H s) (mu : Mut (H a)) (hs : Heap.SameBut a s.heap h') (he : ∃ q, h'.get? a = some q) (new : ObjOk X.prog X.w (upd H a ob) h' a ob) :
  Inv X pins σ (upd H a ob) { s with heap := h', toks := t' } :=
 I.write (x := a) (e := a) mu (.inl rfl) (fun b q hb z => (hs.2 b hb).trans z) he new
theorem Z72 {P : Program} {w : World} {H' : Hp} {h' : Heap} {kvs : List (Key × V)} {vs : List (Key × Value)} (z : kvs.length ≤ sizeLine) (hd : (a == sysModules) = false) (rel : KV kvs vs) (dd : h'.DictOf (mixKind P w) a vs) :
  ObjOk P w H' h' a (.dK kvs) := ⟨z, hd, vs, rel, dd⟩
theorem Z63 {H' : Hp} {Q : Unit → Shared → Prop} (hu : A.units + 1 < cLine) (I : Inv X pins σ H s) (g : DPut H a y v H') (ry : RelV y u) (rv : RelV v r) (h : ∀ s', Inv X pins σ H' s' → Q () s') :
  wpAny (model X.prog X.w) A (setItem (.ref a) u r) Q E s := by
 rcases g with ⟨kvs, k, e, ey, l, eH⟩ | ⟨kvs, k, b, e, ey, eb, l, eH⟩
 ·subst ey eH
  obtain ⟨z, hd, vs, rel, dd⟩ := dk_of I.hok e
  have hz : vs.length ≤ sizeLine := by rw [← rel.length]; exact z
  have hl : (putK kvs k v).length ≤ sizeLine := by have := Z304 kvs k v; omega
  refine wpAny_setItem_pairs (hsz := hz) (kV_is ry) dd fun h' dd' hs => h _ ?_
  have he : ∃ q, h'.get? a = some q := let ⟨q, _, _, hq, _⟩ := dd'; ⟨q, hq⟩
  exact Z64 I (by rw [e]; exact True.intro) hs he (Z72 hl hd (rel.put k rv) dd')
 ·subst ey eH
  cases (show u = Value.ref b from ry)
  obtain ⟨z, hd, xs, rel, dd⟩ := dt_of I.hok e
  have hz : xs.length ≤ sizeLine := by rw [← Paired.length rel]; exact z
  have hl : (putK kvs k v).length ≤ sizeLine := by have := Z304 kvs k v; omega
  refine wpAny_setItem_heap (hsz := hz) (tupleKind_room_in1 hu) (Z248 I.hok eb) dd fun h' dd' hs => h _ ?_
  obtain ⟨q, es, ep, hq, h2, h3, h4, _, h5⟩ := dd'
  refine Z64 I (by rw [e]; exact True.intro) hs ⟨q, hq⟩ ⟨hl, hd, _, (rel.put k eb rv).keeps fun c ys ec => ?_, q, es, ep, hq, h2, h3, h4, h5⟩
  rw [Z604 (ne_of ec e (fun z => nomatch z))]
  exact ec
end
section
variable {X : Cx} {pins : List (Addr × Obj)} {σ : St} {H : Hp} {s : Shared} {a : Addr} {kvs : List (Key × V)} {k : Key} {u : Value} {A : Around} {E : Value → Shared → Prop}
theorem d_len {Q : Value → Shared → Prop} (I : Inv X pins σ H s) (e : Rd H a (.dK kvs)) (h : ∀ t s', Inv X pins σ H s' → Q (.int kvs.length t) s') : wpAny (model X.prog X.w) A (call (.builtin "len") [.ref a]) Q E s := by
 obtain ⟨z, hd, vs, rel, dd⟩ := dk_rd I.hok e
 refine call_len_dict hd dd (by rw [← rel.length]; rw [sizeLine_eq] at z; omega) ?_
 rw [← rel.length]
 exact h _ _ (I.tok _)
end

noncomputable def tDIn (ty td : TE) : TE := fun σ H Q => ty σ H fun y H1 => td σ H1 fun x H2 => ∃ a o, x = .ref a ∧ DGet H2 a y o ∧ Q (.bl o.isSome) H2
noncomputable def sDPut (td ty tv : TE) : TS := fun D σ H => tv σ H fun v H1 => td σ H1 fun x H2 => ty σ H2 fun y H3 => ∃ a H4, x = .ref a ∧ DPut H3 a y v H4 ∧ D.nx σ H4
section
variable {X : Cx} {o i e value : Expr} {pos pos' tpos : Pos} {td ty tv : TE}
theorem Z396 (hu : X.A.units + 1 < cLine) (hi : PE X i ty) (ho : PE X o td) : PC X .In i o (tDIn ty td) := by
 intro pins s σ H Q I h
 refine thn (hi pins s σ H _ I h) fun iv s1 ⟨y, H1, I1, ry, q1⟩ => thn (ho pins s1 σ H1 _ I1 q1) fun u s2 ⟨x, H2, I2, rx, a, ov, ex, g, q2⟩ => ?_
 subst ex
 obtain rfl : u = Value.ref a := rx
 exact d_in hu I2 g ry fun s3 I3 => ⟨.bl ov.isSome, H2, I3, rfl, q2⟩
theorem Z438 (hu : X.A.units + 1 < cLine) (ho : PE X o td) (hi : PE X i ty) (hv : PE X value tv) (hs : swapsWith value (some (.Subscript o i pos')) pos.line X.env = pure false) :
  PS X (.Assign [.Subscript o i pos'] value pos) (sDPut td ty tv) := by
 intro pins s σ H D I h
 refine wpAny_Assign_Subscript (thn (hv pins s σ H _ I h) fun r s1 ⟨v, H1, I1, rv, q1⟩ => thn (ho pins s1 σ H1 _ I1 q1) fun u s2 ⟨x, H2, I2, rx, q2⟩ => thn (hi pins s2 σ H2 _ I2 q2) fun iv s3 ⟨y, H3, I3, ry, a, H4, ex, g, q3⟩ => ?_) hs
 subst ex
 obtain rfl : u = Value.ref a := rx
 exact Z63 hu I3 g ry rv fun s4 I4 => ⟨σ, H4, I4, q3⟩
end

theorem Z71 {P : Program} {w : World} {H : Hp} (h : Heap) (hb : sysModules < h.objs.size) : ObjOk P w H (h.push { cls := .type "dict", data := .dict #[] }) h.objs.size (.dK []) :=
 ⟨Nat.zero_le _, beq_eq_false_iff_ne.mpr (Ne.symm (Nat.ne_of_lt hb)), [], .nil, Heap.DictOf.new h⟩
theorem Z76 {P : Program} {w : World} {H : Hp} (h : Heap) (hb : sysModules < h.objs.size) : ObjOk P w H (h.push { cls := .type "dict", data := .dict #[] }) h.objs.size (.dT []) :=
 ⟨Nat.zero_le _, beq_eq_false_iff_ne.mpr (Ne.symm (Nat.ne_of_lt hb)), [], .nil, _, #[], 0, Heap.get?_push_size _ rfl, ⟨rfl, rfl, rfl⟩, rfl, rfl, List.nodup_nil⟩
noncomputable def tDNewK : TE := fun _ H Q => ∀ p, H p = none → Q (.ref p) (upd H p (.dK []))
noncomputable def tDNewT : TE := fun _ H Q => ∀ p, H p = none → Q (.ref p) (upd H p (.dT []))
section
variable {X : Cx} {pos : Pos}
theorem Z404 : PE X (.Dict [] [] pos) tDNewK := fun pins s σ H Q I h =>
 wpAny_Dict_empty ⟨.ref s.heap.objs.size, _, I.laid (a := s.heap.objs.size) (o := .dK []) (t' := s.toks) (fun _ _ q => Heap.get?_push_of_some _ q) (Nat.le_refl _) (Z71 s.heap I.big), rfl, h _ (I.hok.fresh (Nat.le_refl _))⟩
theorem Z405 : PE X (.Dict [] [] pos) tDNewT := fun pins s σ H Q I h =>
 wpAny_Dict_empty ⟨.ref s.heap.objs.size, _, I.laid (a := s.heap.objs.size) (o := .dT []) (t' := s.toks) (fun _ _ q => Heap.get?_push_of_some _ q) (Nat.le_refl _) (Z76 s.heap I.big), rfl, h _ (I.hok.fresh (Nat.le_refl _))⟩
end

structure M1 (X : Cx) (o : Expr) (m : Str) (apos : Pos) (e : Expr) (cpos : Pos) : Prop where
 base : attributeBase o m X.env (eval o X.env) = eval o X.env
 few : ((backTo cpos (starEach [e] X.env)).all (fun x => !x.1) && (backToKw cpos (keywordEach [] X.env)).all (fun x => x.1.isSome)
  && decide (([e] : List Expr).length + ([] : List Keyword).length + (if ([] : List Keyword).isEmpty then 0 else 1) < 30)) = true
 line : (apos.endLine == cpos.line) = true
 trees : backTo cpos (starEach [e] X.env) = [(false, eval e X.env)]
structure M2 (X : Cx) (o : Expr) (m : Str) (apos : Pos) (e f : Expr) (cpos : Pos) : Prop where
 base : attributeBase o m X.env (eval o X.env) = eval o X.env
 few : ((backTo cpos (starEach [e, f] X.env)).all (fun x => !x.1) && (backToKw cpos (keywordEach [] X.env)).all (fun x => x.1.isSome)
  && decide (([e, f] : List Expr).length + ([] : List Keyword).length + (if ([] : List Keyword).isEmpty then 0 else 1) < 30)) = true
 line : (apos.endLine == cpos.line) = true
 trees : backTo cpos (starEach [e, f] X.env) = [(false, eval e X.env), (false, eval f X.env)]
section
variable {X : Cx} {pins : List (Addr × Obj)} {σ : St} {H : Hp} {s : Shared} {a : Addr} {y d : V} {u r : Value} {o : Option V} {A : Around} {E : Value → Shared → Prop}
end
section
variable {X : Cx} {o e f : Expr} {apos cpos : Pos} {td ty tx : TE}
end

section
variable {X : Cx} {pins : List (Addr × Obj)} {σ : St} {H : Hp} {s : Shared} {a : Addr} {kvs : List (Key × V)} {A : Around} {E : Value → Shared → Prop}
end
section
variable {X : Cx} {pins : List (Addr × Obj)} {σ : St} {H : Hp} {s : Shared} {a : Addr} {y : V} {u : Value} {A : Around} {E : Value → Shared → Prop}
end
end L2
namespace L2
open PySem PySem.Spec PyProof.Rows
section
variable {X : Cx}
theorem Z32 : CallR X (.builtin "len") (fun xs H Q => ∃ a kvs, xs = [V.ref a] ∧ H a = some (.dK kvs) ∧ Q (.int kvs.length) H) := by
 intro pins s σ H xs us Q I r h
 obtain ⟨a, kvs, rfl, ha, q⟩ := h
 obtain ⟨u, rfl, ru⟩ := vals1 r
 cases ru
 exact d_len I (.inl ha) fun t s' I' => ⟨.int kvs.length, H, I', ⟨t, rfl⟩, q⟩
end

section
variable {κ : Type} [DecidableEq κ]
theorem Z351 : ∀ {l : List κ} {k : κ}, l.Nodup → ¬ k ∈ l → (l ++ [k]).Nodup
 | [], k, _, _ => by simp
 | a :: r, k, h, hk => by
  obtain ⟨h1, h2⟩ := List.nodup_cons.mp h
  show (a :: (r ++ [k])).Nodup
  refine List.nodup_cons.mpr ⟨fun m => ?_, Z351 h2 fun m => hk (List.mem_cons.mpr (Or.inr m))⟩
  rcases List.mem_append.mp m with q | q
  ·exact h1 q
  ·exact hk (List.mem_cons.mpr (Or.inl (List.mem_singleton.mp q).symm))
end
end L2
set_option Elab.async false
set_option linter.all false
set_option maxRecDepth 100000

namespace L2
open PySem PySem.Spec PyProof.Rows
theorem Z46 {prog : Program} {w : World} {A : Around} {R : Result → Shared → Prop} {s : Shared} {elt target iter : Expr} {ifs : List Expr} {scope : Scope} {pos : Pos} {it acc : Value} {env : Env} (I : Nat → Shared → Prop)
  (turn : ∀ n s, I n s → wpAny (model prog w) A (pyNext it) (fun r s₁ => match r with
   | none => R (.ok .next) s₁
   | some v => wpAny (model prog w) A (letOwnedTupleGo target it v) (fun _ s₀ => wpAny (model prog w) A (assign target env v) (fun _ s₂ =>
     wpAny (model prog w) A (forIn ifs true fun c r => if r = true then do let ok ← isTrue c env (eval c env); pure (ForInStep.yield ok) else pure (ForInStep.yield r)) (fun ok s₃ =>
      if ok = true then wpAny (model prog w) A (eval elt env) (fun x s₄ =>
       wpAny (model prog w) A (call (.builtin "list.append") [acc, x]) (fun _ s₅ => ∃ m, m < n ∧ I m s₅) (fun _ _ => False) s₄) (fun _ _ => False) s₃
      else ∃ m, m < n ∧ I m s₃) (fun _ _ => False) s₂) (fun _ _ => False) s₀) (fun _ _ => False) s₁) (fun _ _ => False) s)
  (n : Nat) (h : I n s) :
  codeAny (model prog w) A (.compLoop (.ListComp elt [⟨target, iter, ifs, 0⟩] scope pos) 0 it acc env) R s := by
 refine codeAny_loop rfl I (fun n s hI => ?_) n h
 show wpAny _ A ((compTurn (.ListComp elt [⟨target, iter, ifs, 0⟩] scope pos) 0 it acc env).onRaise (fun x => do noteFrame x env; theTreesLotGoes x)) _ _ s
 refine wpAny_noted ?_
 rw [compTurn_list]
 have no : ∀ (M : Model) (e : Value) (s' : Shared), False → notedBy M A env (fun e s' => R (.error e) s') e s' := fun _ _ _ z => z.elim
 refine wpAny_bind (wpAny_standAt (wpAny_bind (wpAny_mono (turn n s hI) (fun r s₁ h₁ => ?_) (fun _ _ z => z.elim))))
 cases r with
 | none => exact wpAny_pure h₁
 | some v =>
  refine wpAny_bind (wpAny_mono h₁ (fun _ s₀ h₀ => ?_) (fun _ _ z => z.elim))
  refine wpAny_bind (wpAny_mono h₀ (fun _ s₂ h₂ => wpAny_bind (wpAny_mono h₂ (fun ok s₃ h₃ => ?_) (fun _ _ z => z.elim))) (fun _ _ z => z.elim))
  cases ok with
  | false => exact wpAny_pure ⟨rfl, h₃⟩
  | true =>
   exact wpAny_bind (wpAny_bind (wpAny_mono h₃ (fun x s₄ h₄ => wpAny_bind (wpAny_mono h₄ (fun _ s₅ h₅ => wpAny_pure (wpAny_pure ⟨rfl, h₅⟩)) (fun _ _ z => z.elim))) (fun _ _ z => z.elim)))
theorem Z41 {env : Env} : ∀ {names : List (Str × NameKind)} (cs0 : List (Str × Addr)), (∀ p ∈ names, p.2 = .free → ∃ c, env.cells.lookup p.1 = some c) →
  (∀ n c, cs0.lookup n = some c → env.cells.lookup n = some c) →
  ∃ cl : List (Str × Addr), (forIn names cs0 fun (x : Str × NameKind) (cs : List (Str × Addr)) => (if (x.2 == NameKind.free) = true then (do let a ← cellOf env x.1; pure (ForInStep.yield ((x.1, a) :: cs))) else pure (ForInStep.yield cs) : Sem (ForInStep (List (Str × Addr))))) = pure cl ∧
   (∀ n c, cl.lookup n = some c → env.cells.lookup n = some c) ∧ (∀ n, (n ∈ cs0.map (·.1) ∨ (n, NameKind.free) ∈ names) → ∃ c, cl.lookup n = some c)
 | [], cs0, _, h2 => ⟨cs0, rfl, h2, fun n hn => by
   rcases hn with hn | hn
   ·have : (cs0.lookup n).isSome = true := by
     clear h2
     induction cs0 with
     | nil => simp at hn
     | cons p r ih =>
      obtain ⟨a, b⟩ := p
      rw [List.lookup_cons]
      cases e : n == a with
      | true => rfl
      | false =>
       have : n ≠ a := by intro z; subst z; simp at e
       refine ih ?_
       simpa [this] using hn
    exact Option.isSome_iff_exists.mp this
   ·cases hn⟩
 | (n, k) :: r, cs0, h1, h2 => by
  rw [List.forIn_cons]
  by_cases hk : k = .free
  ·subst hk
   obtain ⟨c, hc⟩ := h1 (n, .free) List.mem_cons_self rfl
   have e1 : cellOf env n = pure c := by unfold cellOf; rw [hc]
   have h2' : ∀ m d, ((n, c) :: cs0).lookup m = some d → env.cells.lookup m = some d := fun m d e => by
    rw [List.lookup_cons] at e
    cases q : m == n with
    | true =>
     rw [q] at e
     have : m = n := by simpa using q
     subst this
     rw [hc]; exact e
    | false => rw [q] at e; exact h2 m d e
   obtain ⟨cl, e, q1, q2⟩ := Z41 (names := r) ((n, c) :: cs0) (fun p hp => h1 p (List.mem_cons_of_mem _ hp)) h2'
   refine ⟨cl, ?_, q1, fun m hm => q2 m ?_⟩
   ·rw [if_pos (by rfl), e1]
    exact e
   ·rcases hm with hm | hm
    ·exact .inl (List.mem_cons_of_mem _ hm)
    ·rcases List.mem_cons.mp hm with z | z
     ·cases z; exact .inl List.mem_cons_self
     ·exact .inr z
  ·obtain ⟨cl, e, q1, q2⟩ := Z41 (names := r) cs0 (fun p hp => h1 p (List.mem_cons_of_mem _ hp)) h2
   refine ⟨cl, ?_, q1, fun m hm => q2 m ?_⟩
   ·rw [if_neg (by simpa using hk)]
    exact e
   ·rcases hm with hm | hm
    ·exact .inl hm
    ·rcases List.mem_cons.mp hm with z | z
     ·cases z; exact absurd rfl hk
     ·exact .inr z
theorem Z40 {env : Env} {scope : Scope} (h : ∀ p ∈ scope.names, p.2 = .free → ∃ c, env.cells.lookup p.1 = some c) :
  ∃ cl : List (Str × Addr), closureFor scope env = pure cl ∧ (∀ n c, cl.lookup n = some c → env.cells.lookup n = some c) ∧ ∀ n, (n, NameKind.free) ∈ scope.names → ∃ c, cl.lookup n = some c := by
 obtain ⟨cl, e, q1, q2⟩ := Z41 (env := env) (names := scope.names) [] h (fun n c e => by simp at e)
 refine ⟨cl, ?_, q1, fun n hn => q2 n (.inr hn)⟩
 unfold closureFor
 simp only []
 refine Eq.trans ?_ (congrArg (fun m => m >>= fun r => pure r) e)
 rfl
noncomputable def cxC (X : Cx) (N : List Str) (scope : Scope) (cl : List (Str × Addr)) (C : Addr) (s : Shared) (H : Hp) (fp : List Addr) : Cx where
 prog := X.prog
 w := X.w
 K := X.K
 mg := X.mg
 base := X.base
 A := X.A
 N := N
 s₀ := s
 H₀ := H
 env := compEnvC scope cl C X.env
 outer := X.stack
 stack := X.stack
 ex := fp
 fn := fun _ => false
 calm := X.calm
 pn := X.pn
 xe := fun _ _ => False
structure CompSc (X : Cx) (t : Nat) (N : List Str) (scope : Scope) : Prop where
 kind : scope.kind = .function
 nocell : ∀ y ∈ scope.names, y.2 ≠ .cell
 names : ∀ y ∈ scope.names, y.2 = .local → scope.names.lookup y.1 = some .local
 free : ∀ y ∈ scope.names, y.2 = .free → X.env.scope.names.lookup y.1 = some .cell ∨ X.env.scope.names.lookup y.1 = some .free
 len : N.length = X.N.length + t
 rest : ∀ p ∈ (N.drop t).zip X.N, p.1 = p.2 ∨ scope.names.lookup p.1 = none
 own : ∀ y ∈ X.N, scope.names.lookup y ≠ some .local ∨ y ∉ N.drop t
theorem Z308 {scope : Scope} {env : Env} {x : Str} {k : NameKind} : (relabel scope env).names.lookup x = some k → ∃ k0, scope.names.lookup x = some k0 ∧ (k = k0 ∨ (k0 = .free ∧ k = .cell)) := by
 show (scope.names.map _).lookup x = some k → _
 induction scope.names with
 | nil => intro h; simp at h
 | cons p r ih =>
  obtain ⟨n, kk⟩ := p
  intro h
  simp only [List.map_cons] at h
  by_cases hx : x = n
  ·subst hx
   by_cases hc : (kk == NameKind.free && env.scope.kind == .function && env.kindOf x == some .cell) = true
   ·rw [if_pos hc] at h
    rw [List.lookup_cons, beq_self_eq_true] at h
    refine ⟨kk, by rw [List.lookup_cons, beq_self_eq_true], .inr ⟨?_, (Option.some.inj h).symm⟩⟩
    simp only [Bool.and_eq_true, beq_iff_eq] at hc
    exact hc.1.1
   ·rw [if_neg hc] at h
    rw [List.lookup_cons, beq_self_eq_true] at h
    exact ⟨kk, by rw [List.lookup_cons, beq_self_eq_true], .inl (Option.some.inj h).symm⟩
  ·have hb : (x == n) = false := by simpa using hx
   have h' : (r.map fun (x : Str × NameKind) => match x with | (n, k) => if (k == NameKind.free && env.scope.kind == .function && env.kindOf n == some .cell) = true then (n, NameKind.cell) else (n, k)).lookup x = some k := by
    by_cases hc : (kk == NameKind.free && env.scope.kind == .function && env.kindOf n == some .cell) = true
    ·rw [if_pos hc, List.lookup_cons, hb] at h; exact h
    ·rw [if_neg hc, List.lookup_cons, hb] at h; exact h
   obtain ⟨k0, q1, q2⟩ := ih h'
   exact ⟨k0, by rw [List.lookup_cons, hb]; exact q1, q2⟩
section
variable {X : Cx} {pins : List (Addr × Obj)} {σ : St} {H : Hp} {s : Shared}
theorem Z51 {t : Nat} {N : List Str} {scope : Scope} {cl : List (Str × Addr)} {C : Addr} {fp : List Addr} (I : Inv X pins σ H s) (S : CompSc X t N scope) (hC : s.heap.objs.size ≤ C) (hfp : ∀ b ∈ fp, FpOk X pins H b ∧ b < s.heap.objs.size)
  (q1 : ∀ n c, cl.lookup n = some c → X.env.cells.lookup n = some c) (q2 : ∀ n, (n, NameKind.free) ∈ scope.names → ∃ c, cl.lookup n = some c) : (cxC X N scope cl C s H fp).Ok where
 mod := I.ok.mod
 kind := S.kind
 glob := I.ok.glob
 blt := I.ok.blt
 above := hC
 inj := fun x y c h1 h2 => I.ok.inj x y c (q1 x c h1) (q1 y c h2)
 has := fun x hx => by
  have hx : (relabel scope X.env).names.lookup x = some .cell ∨ (relabel scope X.env).names.lookup x = some .free := hx
  rcases hx with hx | hx
  ·obtain ⟨k0, e, z⟩ := Z308 hx
   rcases z with z | ⟨z, _⟩
   ·subst z; exact absurd rfl (S.nocell _ (PySem.mem_of_lookup e))
   ·subst z; exact q2 x (PySem.mem_of_lookup e)
  ·obtain ⟨k0, e, z⟩ := Z308 hx
   rcases z with z | ⟨z, z'⟩
   ·subst z; exact q2 x (PySem.mem_of_lookup e)
   ·cases z'
 cab := fun x c h _ => by cases h
 hd := I.ok.hd
 frames := I.ok.frames
 stk := .inl rfl
 exf := fun b hb => ⟨Nat.ne_of_lt (Nat.lt_of_lt_of_le (hfp b hb).2 hC), fun x c e => (hfp b hb).1.2.2.2.2.1 x c (q1 x c e)⟩
 bs := I.bs
 bsz := Nat.le_trans I.ok.bsz I.sz
 noex := fun b o e hb => by
  obtain ⟨_, _, _, h, _⟩ := (hfp b hb).1
  rcases h with h | h
  ·exact I.ok.noex b o e h
  ·exact absurd (Nat.lt_of_lt_of_le (Heap.lt_size e) (Nat.le_trans I.ok.bsz h)) (Nat.lt_irrefl _)
 exfs := fun b hb z => by
  obtain ⟨_, h1, h2, _⟩ := (hfp b hb).1
  rcases List.mem_cons.mp (I.stkSub b z) with e | e
  ·exact h1 e
  ·exact h2 e
 funs := I.stack
 frf := I.stkFree
theorem Z56 {t : Nat} {N : List Str} {scope : Scope} {cl : List (Str × Addr)} {C : Addr} {fp : List Addr} {h1 : Heap} {tk : Nat} {D : Addr} (I : Inv X pins σ H s) (S : CompSc X t N scope) (hC : s.heap.objs.size ≤ C) (hD : s.heap.objs.size ≤ D) (hDC : D ≠ C) (hfp : ∀ b ∈ fp, FpOk X pins H b ∧ b < s.heap.objs.size)
  (q1 : ∀ n c, cl.lookup n = some c → X.env.cells.lookup n = some c) (q2 : ∀ n, (n, NameKind.free) ∈ scope.names → ∃ c, cl.lookup n = some c)
  (hn : h1.Ns C fun _ => none) (hk : ∀ b o, s.heap.get? b = some o → h1.get? b = some o) (hd : h1.get? D = some { cls := .type "list", data := .seq ([] : List Value).toArray }) :
  Inv (cxC X N scope cl C s H fp) pins (List.replicate t none ++ σ) (upd H D (.lst [])) { s with heap := h1, toks := tk } := by
 have lt : ∀ b o, s.heap.get? b = some o → b < s.heap.objs.size := fun b o e => Heap.lt_size e
 have fC : H C = none := I.hok.fresh hC
 have fD : H D = none := I.hok.fresh hD
 refine ⟨Z51 I S hC hfp q1 q2, rfl, I.bare, Un.laid hk hD fD, ⟨_, hn, fun i x v e1 e2 e3 => ?_⟩, fun x c e => ?_, ?_, fun x c e => ?_, fun p hp => ?_, I.hok.laid hk hD ⟨by simp, [], 0, .nil, hd⟩, ?_⟩
 ·
  have hi : t ≤ i := by
   by_cases z : t ≤ i
   ·exact z
   ·rw [List.getElem?_append_left (by simpa using z), List.getElem?_replicate] at e2
    split at e2 <;> cases e2
  obtain ⟨j, rfl⟩ : ∃ j, i = t + j := ⟨i - t, by omega⟩
  rw [List.getElem?_append_right (by simp)] at e2
  simp only [List.length_replicate, Nat.add_sub_cancel_left] at e2
  have e1 : N[t + j]? = some x := e1
  have hN : (N.drop t)[j]? = some x := by rw [List.getElem?_drop]; exact e1
  have hj : j < X.N.length := by rw [← I.len]; exact (List.getElem?_eq_some_iff.mp e2).1
  obtain ⟨y, hy⟩ : ∃ y, X.N[j]? = some y := ⟨_, List.getElem?_eq_getElem hj⟩
  have hm : (x, y) ∈ (N.drop t).zip X.N := by
   have : ((N.drop t).zip X.N)[j]? = some (x, y) := by rw [List.getElem?_zip_eq_some]; exact ⟨hN, hy⟩
   exact List.mem_of_getElem? this
  have vis : ∃ k0, scope.names.lookup x = some k0 := by
   rcases e3 with e3 | e3 | e3
   ·obtain ⟨k0, e, _⟩ := Z308 (scope := scope) (env := X.env) e3; exact ⟨k0, e⟩
   ·obtain ⟨k0, e, _⟩ := Z308 (scope := scope) (env := X.env) e3; exact ⟨k0, e⟩
   ·obtain ⟨k0, e, _⟩ := Z308 (scope := scope) (env := X.env) e3; exact ⟨k0, e⟩
  obtain ⟨k0, hk0⟩ := vis
  have exy : x = y := by
   rcases S.rest _ hm with z | z
   ·exact z
   ·rw [hk0] at z; cases z
  subst exy
  have hfree : k0 = .free := by
   rcases S.own x (List.mem_of_getElem? hy) with z | z
   ·
    rcases e3 with e3 | e3 | e3
    ·obtain ⟨k1, e, w⟩ := Z308 (scope := scope) (env := X.env) e3
     rw [hk0] at e; cases e
     rcases w with w | ⟨_, w⟩
     ·subst w; exact absurd hk0 z
     ·cases w
    ·obtain ⟨k1, e, w⟩ := Z308 (scope := scope) (env := X.env) e3
     rw [hk0] at e; cases e
     rcases w with w | ⟨w, _⟩
     ·subst w; exact absurd rfl (S.nocell _ (PySem.mem_of_lookup hk0))
     ·exact w
    ·obtain ⟨k1, e, w⟩ := Z308 (scope := scope) (env := X.env) e3
     rw [hk0] at e; cases e
     rcases w with w | ⟨_, w⟩
     ·exact w.symm
     ·cases w
   ·exact absurd (List.mem_of_getElem? hN) z
  subst hfree
  obtain ⟨c, hc⟩ := q2 x (PySem.mem_of_lookup hk0)
  have hcX := q1 x c hc
  obtain ⟨m, _, hl⟩ := I.loc
  have vX : Vis X.env.scope x := by
   rcases S.free _ (PySem.mem_of_lookup hk0) rfl with z | z
   ·exact .inr (.inl z)
   ·exact .inr (.inr z)
  obtain ⟨u, r, l⟩ := hl j x v hy e2 vX
  refine ⟨u, r, .inr ⟨?_, c, hc, ?_⟩⟩
  ·rcases e3 with e3 | e3 | e3
   ·obtain ⟨k1, e, w⟩ := Z308 (scope := scope) (env := X.env) e3
    rw [hk0] at e; cases e
    rcases w with w | ⟨_, w⟩ <;> cases w
   ·exact .inl e3
   ·exact .inr e3
  ·rcases l with ⟨k, _⟩ | ⟨_, c', hc', z⟩
   ·rcases S.free _ (PySem.mem_of_lookup hk0) rfl with z | z
    ·have k' : X.env.scope.names.lookup x = some .local := k
     rw [show X.env.scope.names.lookup x = some .cell from z] at k'; cases k'
    ·have k' : X.env.scope.names.lookup x = some .local := k
     rw [show X.env.scope.names.lookup x = some .free from z] at k'; cases k'
   ·rw [hcX] at hc'; cases hc'
    obtain ⟨o, ho, hd⟩ := z
    exact ⟨o, hk _ _ ho, hd⟩
 ·obtain ⟨v, o, ho, hd⟩ := I.cell x c (q1 x c e)
  exact ⟨v, o, hk _ _ ho, hd⟩
 ·show upd H D (.lst []) C = none
  rw [Z604 (Ne.symm hDC)]; exact fC
 ·obtain ⟨v, o, ho, _⟩ := I.cell x c (q1 x c e)
  rw [Z604 (Nat.ne_of_lt (Nat.lt_of_lt_of_le (lt _ _ ho) hD))]
  exact I.freeC x c (q1 x c e)
 ·obtain ⟨e, n, ne, nf, d⟩ := I.pin p hp
  refine ⟨hk _ _ e, ?_, Nat.ne_of_lt (Nat.lt_of_lt_of_le (lt _ _ e) hC), fun z => ?_, d⟩
  ·rw [Z604 (Nat.ne_of_lt (Nat.lt_of_lt_of_le (lt _ _ e) hD))]; exact n
  ·rcases List.mem_cons.mp (I.stkSub p.1 z) with w | w
   ·exact ne w
   ·exact nf w
 ·show (List.replicate t none ++ σ).length = N.length
  rw [List.length_append, List.length_replicate, S.len, I.len]; omega
theorem Z48 {t : Nat} {N : List Str} {scope : Scope} {cl : List (Str × Addr)} {C : Addr} {fp : List Addr} {s' : Shared} {H' : Hp} {σ' : St} (I : Inv X pins σ H s) (hC : s.heap.objs.size ≤ C) (hfp : ∀ b ∈ fp, FpOk X pins H b ∧ b < s.heap.objs.size)
  (J : Inv (cxC X N scope cl C s H fp) pins σ' H' s') : Inv X pins σ H' s' :=
 I.call' (ch := fp) J.os J.base J.hok J.bare fun b hb => by
  obtain ⟨_, h1, h2, h3, h4, h5⟩ := (hfp b hb).1
  exact ⟨h3, h1, h4, h5⟩
theorem Z49 {C : Addr} {h' : Heap} {s0 s' : Shared} {H0 : Hp} {σ0 : St} (I0 : Inv X pins σ0 H0 s0) (hC : s0.heap.objs.size ≤ C) (J : Inv X pins σ H s') (hn : H C = none) (hs : Heap.SameBut C s'.heap h') : Inv X pins σ H { s' with heap := h' } := by
 obtain ⟨f0, f1, f2, f3, f4, f5⟩ := I0.fpOk hC (I0.hok.fresh hC)
 exact J.turned (t' := s'.toks) (fun b o hb e => (hs.2 b hb).trans e) hn f1 f3 f4 f5
end
section
variable {X : Cx}
noncomputable def PF (X : Cx) (ifs : List Expr) (t : TT) : Prop :=
 ∀ (pins : List (Addr × Obj)) (s : Shared) (σ : St) (H : Hp) (Q : Bool → Hp → Prop), Inv X pins σ H s → t σ H Q →
  wpAny (model X.prog X.w) X.A (forIn ifs true fun c r => if r = true then do let ok ← isTrue c X.env (eval c X.env); pure (ForInStep.yield ok) else pure (ForInStep.yield r)) (TP X pins σ Q) X.xe s
noncomputable def tYes : TT := fun _ H Q => Q true H
theorem Z422 : PF X [] tYes := fun _ _ _ H _ I h => wpAny_tests_nil ⟨H, I, h⟩
noncomputable def compW (J : It) (t : Nat) (g : TG) (tt : TT) (te : TE) (σ : St) (H1 : Hp) (Q : VK) : Prop := ∀ D, H1 D = none → ∃ W : Nat → Nat → List V → St → Hp → Prop, (∃ m, W 0 m [] (List.replicate t none ++ σ) (upd H1 D (.lst []))) ∧ ∀ i m ys τ H, W i m ys τ H →
 (J.stop i H ∧ Q (.ref D) H) ∨ (J.go i H ∧ ∃ N : List V → St → Hp → Prop, (∀ zs τ' H', N zs τ' H' → ∃ m', m' < m ∧ W (i + 1) m' zs τ' H') ∧ ∀ x H', J.yld i H x H' → g x τ H' fun τ2 H2 => tt τ2 H2 fun b H3 =>
  if b = true then te τ2 H3 fun y H4 => H4 D = some (.lst ys) ∧ ys.length < sizeLine ∧ N (ys ++ [y]) τ2 (upd H4 D (.lst (ys ++ [y]))) else N ys τ2 H3)
noncomputable def tComp (t : Nat) (wi : TI) (g : TG) (tt : TT) (te : TE) : TE := fun σ H Q => wi σ H fun J H1 => compW J t g tt te σ H1 Q
theorem Z47 {t : Nat} {N : List Str} {scope : Scope} {tg iter elt : Expr} {ifs : List Expr} {cl : List (Str × Addr)} {pos : Pos} {g : TG} {tt : TT} {te : TE} {pins : List (Addr × Obj)} {σ : St} {H1 : Hp} {s2 : Shared} {E : Value → Shared → Prop}
  {it : Addr} {fp : List Addr} {tn : Nat → Heap → Prop} {J : It} {Q : VK} {RR : Value → Addr → Result → Shared → Prop}
  (hc : X.calm = true) (S : CompSc X t N scope) (q1 : ∀ n c, cl.lookup n = some c → X.env.cells.lookup n = some c) (q2 : ∀ n, (n, NameKind.free) ∈ scope.names → ∃ c, cl.lookup n = some c)
  (hg : ∀ C s H fp, PG (cxC X N scope cl C s H fp) tg g) (hf : ∀ C s H fp, PF (cxC X N scope cl C s H fp) ifs tt) (he : ∀ C s H fp, PE (cxC X N scope cl C s H fp) elt te)
  (I : Inv X pins σ H1 s2) (T : Turn X.prog X.w X.K tg J fp it tn) (st : tn 0 s2.heap) (f2 : ∀ b ∈ fp, FpOk X pins H1 b)
  (h : ∀ D, H1 D = none → ∃ W : Nat → Nat → List V → St → Hp → Prop, (∃ m, W 0 m [] (List.replicate t none ++ σ) (upd H1 D (.lst []))) ∧ ∀ i m ys τ H, W i m ys τ H →
   (J.stop i H ∧ Q (.ref D) H) ∨ (J.go i H ∧ ∃ N : List V → St → Hp → Prop, (∀ zs τ' H', N zs τ' H' → ∃ m', m' < m ∧ W (i + 1) m' zs τ' H') ∧ ∀ x H', J.yld i H x H' → g x τ H' fun τ2 H2 => tt τ2 H2 fun b H3 =>
    if b = true then te τ2 H3 fun y H4 => H4 D = some (.lst ys) ∧ ys.length < sizeLine ∧ N (ys ++ [y]) τ2 (upd H4 D (.lst (ys ++ [y]))) else N ys τ2 H3))
  (hR : ∀ D C s' H', s2.heap.objs.size ≤ C → D ≠ C → Inv X pins σ H' s' → H' C = none → (∃ m, s'.heap.Ns C m) → Q (.ref D) H' → RR (.ref D) C (.ok .next) s') :
  wpAny (model X.prog X.w) X.A (newList []) (fun acc s₃ => wpAny (model X.prog X.w) X.A (newFunctionEnv scope X.env.globals cl [] X.env.qual none .none (some X.env)) (fun cenv s₄ =>
   codeAny (model X.prog X.w) X.A (.compStart (.ListComp elt [⟨tg, iter, ifs, 0⟩] scope pos) 0 (.ref it) acc { cenv with scope := relabel scope X.env }) (RR acc cenv.locals) s₄) E s₃) E s2 := by
 refine wpAny_newObj_type (wpAny_newFunctionEnv S.nocell (by intro y hy; simp at hy) (fun h₁ hns₁ hsb₁ => ?_) S.kind)
 dsimp only at hns₁ hsb₁ ⊢
 generalize hH2 : s2.heap.push { cls := .type "list", dict := none, data := .seq ([] : List Value).toArray } = H2 at hns₁ hsb₁ ⊢
 have hCs : H2.objs.size = s2.heap.objs.size + 1 := by rw [← hH2, Heap.size_push]
 have hDC : s2.heap.objs.size ≠ H2.objs.size := by rw [hCs]; exact Nat.ne_of_lt (Nat.lt_succ_self _)
 have hCle : s2.heap.objs.size ≤ H2.objs.size := by rw [hCs]; exact Nat.le_succ _
 have old : ∀ b o, s2.heap.get? b = some o → h₁.get? b = some o := fun b o e =>
  hsb₁.extBut b o (by rw [hCs]; exact Nat.ne_of_lt (Nat.lt_succ_of_lt (Heap.lt_size e))) (Heap.get?_push_of_some _ (hH2 ▸ Heap.get?_push_of_some _ e))
 have hacc : h₁.get? s2.heap.objs.size = some { cls := .type "list", data := .seq ([] : List Value).toArray } := hsb₁.extBut _ _ hDC (Heap.get?_push_of_some _ (hH2 ▸ Heap.get?_push_size _ rfl))
 have hfp : ∀ b ∈ fp, FpOk X pins H1 b ∧ b < s2.heap.objs.size := fun b hb => ⟨f2 b hb, by obtain ⟨o, e, _⟩ := T.obj _ _ st b hb; exact Heap.lt_size e⟩
 have hns : h₁.Ns H2.objs.size fun _ => none := hns₁
 have I4 := Z56 (tk := s2.toks + ([] : List (Str × Value)).length) I S hCle (Nat.le_refl _) hDC hfp q1 q2 hns old hacc
 have st1 : tn 0 h₁ := T.keep _ _ _ st fun b _ o e => old b o e
 obtain ⟨W, ⟨m0, w0⟩, turn⟩ := h s2.heap.objs.size (I.hok.fresh (Nat.le_refl _))
 generalize hY : cxC X N scope cl H2.objs.size s2 H1 fp = Y at I4
 have yfp : ∀ {H' : Hp}, (∀ b ∈ fp, H' b = none) → ∀ b ∈ fp, FpOk Y pins H' b := fun hn b hb => by
  obtain ⟨⟨_, g1, g2, g3, g4, g5⟩, gl⟩ := hfp b hb
  subst hY
  refine ⟨hn b hb, Nat.ne_of_lt (Nat.lt_of_lt_of_le gl hCle), fun z => ?_, .inl hb, fun x c e => g4 x c (q1 x c e), g5⟩
  rcases List.mem_cons.mp (I.stkSub b z) with w | w
  ·exact g1 w
  ·exact g2 w
 have eP : Y.prog = X.prog := by subst hY; rfl
 have ew : Y.w = X.w := by subst hY; rfl
 have eK : Y.K = X.K := by subst hY; rfl
 have eA : Y.A = X.A := by subst hY; rfl
 have ecalm : Y.calm = true := by subst hY; exact hc
 have loop : codeAny (model X.prog X.w) X.A (.compLoop (.ListComp elt [⟨tg, iter, ifs, 0⟩] scope pos) 0 (.ref it) (.ref s2.heap.objs.size) (compEnvC scope cl H2.objs.size X.env))
    (RR (.ref s2.heap.objs.size) H2.objs.size) { s2 with heap := h₁, toks := s2.toks + ([] : List (Str × Value)).length } := by
  refine Z46 (fun n s' => ∃ i ys τ H', Inv Y pins τ H' s' ∧ tn i s'.heap ∧ (∀ b ∈ fp, H' b = none) ∧ W i n ys τ H') ?_ m0 ⟨0, [], _, _, I4, st1, fun b hb => ?_, w0⟩
  ·rintro n s3 ⟨i, ys, τ, H3, I3, st3, fr3, w3⟩
   rcases turn i n ys τ H3 w3 with ⟨stop, qn⟩ | ⟨go, NN, hNN, step⟩
   ·have d := T.done Y eP ew eK ecalm i pins s3 τ H3 (fun _ _ => False) I3 (yfp fr3) st3 stop
    rw [eA] at d
    refine thn d fun r s4 ⟨hr, I5⟩ => ?_
    subst hr
    subst hY
    have J5 := Z48 (t := t) I hCle hfp I5
    obtain ⟨m, hn, _⟩ := I5.loc
    exact hR _ _ s4 H3 hCle hDC J5 I5.free ⟨m, hn⟩ qn
   ·have d := T.item Y eP ew eK ecalm i pins s3 τ H3 (fun _ _ => False) I3 (yfp fr3) st3 go
    rw [eA] at d
    refine thn d fun r s4 ⟨u, hr, h4⟩ => ?_
    subst hr
    refine thn h4 fun _ s5 ⟨x, H5, I5, r5, y5, st5, fr5⟩ => ?_
    have I5' := I5.pinned (yfp fr5) (T.obj _ _ st5)
    subst hY
    refine thn (hg _ _ _ _ _ s5 τ H5 x u _ I5' r5 (step x H5 y5)) fun _ s6 ⟨τ6, H6, I6, q6⟩ => ?_
    refine thn (hf _ _ _ _ _ s6 τ6 H6 _ I6 q6) fun b s7 ⟨H7, I7, q7⟩ => ?_
    have again : ∀ {zs : List V} {σ7 : St} {H7 : Hp} {s7 : Shared}, Inv (cxC X N scope cl H2.objs.size s2 H1 fp) (pins ++ pinsAt fp s5.heap) σ7 H7 s7 → (∃ m', m' < n ∧ W (i + 1) m' zs σ7 H7) →
      ∃ m, m < n ∧ ∃ i ys τ H', Inv (cxC X N scope cl H2.objs.size s2 H1 fp) pins τ H' s7 ∧ tn i s7.heap ∧ (∀ b ∈ fp, H' b = none) ∧ W i m ys τ H' := fun {zs σ7 H7 s7} I7 ⟨m', hm, w7⟩ => by
     refine ⟨m', hm, i + 1, zs, σ7, H7, I7.unpinned, T.keep _ _ _ st5 fun b hb o e => (I7.pin (b, o) (List.mem_append_right _ (List.mem_append_right _ (Z325 hb e)))).1, fun b hb => ?_, w7⟩
     obtain ⟨o, e, d⟩ := T.obj _ _ st5 b hb
     exact (I7.pin (b, o) (List.mem_append_right _ (List.mem_append_right _ (Z325 hb e)))).2.1
    cases b with
    | false => exact again I7 (hNN _ _ _ q7)
    | true =>
     have q7' := q7
     rw [if_pos rfl] at q7' ⊢
     refine thn (he _ _ _ _ _ s7 τ6 H7 _ I7 q7') fun v s8 ⟨y, H8, I8, r8, hl, hz, q8⟩ => ?_
     refine thn (Z334 (X := cxC X N scope cl H2.objs.size s2 H1 fp) _ s8 τ6 H8 (.ref s2.heap.objs.size) [y] (.ref s2.heap.objs.size) [v] (fun _ H9 => NN (ys ++ [y]) τ6 H9) I8 rfl (.cons r8 .nil) ⟨_, ys, y, rfl, rfl, hl, hz, q8⟩) fun _ s9 ⟨_, H9, I9, _, q9⟩ => ?_
     exact again I9 (hNN _ _ _ q9)
  ·have z := (hfp b hb).2
   rw [Z604 (Nat.ne_of_lt z)]
   exact (f2 b hb).1
 exact codeAny_compStart_list loop (T.self _ 0 _ _ _ st1 loop)
theorem Z403 {t : Nat} {N : List Str} {scope : Scope} {tg iter elt : Expr} {ifs : List Expr} {pos : Pos} {wi : TI} {g : TG} {tt : TT} {te : TE} (hc : X.calm = true) (hi : PI X tg iter wi) (S : CompSc X t N scope)
  (hg : ∀ cl C s H fp, PG (cxC X N scope cl C s H fp) tg g) (hf : ∀ cl C s H fp, PF (cxC X N scope cl C s H fp) ifs tt) (he : ∀ cl C s H fp, PE (cxC X N scope cl C s H fp) elt te)
  (hs : ∀ x, foldedSetIterable iter X.env x = pure x := by intro _; rfl) : PE X (.ListComp elt [⟨tg, iter, ifs, 0⟩] scope pos) (tComp t wi g tt te) := by
 intro pins s σ H Q I h
 obtain ⟨cl, e, q1, q2⟩ := Z40 (env := X.env) (scope := scope) fun p hp hk => I.ok.has p.1 (S.free p hp hk)
 rw [eval_ListComp]
 refine wpAny_comprehension_free (use := none) rfl hs e S.kind S.names (thn (hi pins s σ H _ I h) fun v s1 h1 => thn h1 fun itv s2 h2 => ?_)
 obtain ⟨it, fp, tn, J, H2, e2, I2, T, st2, f2, hW⟩ := h2
 subst e2
 refine Z47 (Q := Q) (RR := fun acc C => compPost (model X.prog X.w) X.A X.xe none (EP X pins σ Q) acc C) hc S q1 q2 (hg cl) (hf cl) (he cl) I2 T st2 f2 hW ?_
 intro D C s' H' hC hDC J1 hn hm q
 obtain ⟨m, hm⟩ := hm
 exact ⟨m, hm, fun h' hs' => ⟨.ref D, H', Z49 I2 hC J1 hn hs', rfl, q⟩⟩
theorem Z444 {t i : Nat} {y : Str} {py spos : Pos} {N : List Str} {scope : Scope} {tg iter elt : Expr} {ifs : List Expr} {pos : Pos} {wi : TI} {g : TG} {tt : TT} {te : TE} (hc : X.calm = true) (hi : PI X tg iter wi) (S : CompSc X t N scope)
  (hg : ∀ cl C s H fp, PG (cxC X N scope cl C s H fp) tg g) (hf : ∀ cl C s H fp, PF (cxC X N scope cl C s H fp) ifs tt) (he : ∀ cl C s H fp, PE (cxC X N scope cl C s H fp) elt te)
  (hN : X.N.Nodup) (hiy : X.N[i]? = some y) (hx : X.env.scope.names.lookup y = some .local)
  (hsw : swapsWith (.ListComp elt [⟨tg, iter, ifs, 0⟩] scope pos) (some (.Name y py)) spos.line X.env = pure true)
  (hs : ∀ x, foldedSetIterable iter X.env x = pure x := by intro _; rfl) : PS X (.Assign [.Name y py] (.ListComp elt [⟨tg, iter, ifs, 0⟩] scope pos) spos) (tAsg (tComp t wi g tt te) (gName i)) := by
 intro pins s σ H D I h
 obtain ⟨cl, e, q1, q2⟩ := Z40 (env := X.env) (scope := scope) fun p hp hk => I.ok.has p.1 (S.free p hp hk)
 rw [exec_Assign_Name_used _ _ _ _ hsw]
 refine wpAny_bind (wpAny_standAt (wpAny_bind ?_))
 show wpAny _ X.A (do let _ ← comprehension (.ListComp elt [⟨tg, iter, ifs, 0⟩] scope pos) scope X.env _ (newList []) false (eval iter X.env) (some (assign (.Name y py) X.env))) _ _ s
 refine wpAny_bind (wpAny_mono (wpAny_comprehension_free (use := some (assign (.Name y py) X.env)) (Q := fun _ s' => SP X pins D .next s') rfl hs e S.kind S.names
  (thn (hi pins s σ H _ I h) fun v s1 h1 => thn h1 fun itv s2 h2 => ?_)) (fun _ s' hq => wpAny_pure (wpAny_pure hq)) fun _ _ e => e)
 obtain ⟨it, fp, tn, J, H2, e2, I2, T, st2, f2, hW⟩ := h2
 subst e2
 refine Z47 (Q := fun x H1 => gName i x σ H1 D.nx) (RR := fun acc C => compPost (model X.prog X.w) X.A X.xe (some (assign (.Name y py) X.env)) (fun _ s' => SP X pins D .next s') acc C) hc S q1 q2 (hg cl) (hf cl) (he cl) I2 T st2 f2 hW ?_
 intro D' C s' H' hC hDC J1 hn hm q
 obtain ⟨m, hm⟩ := hm
 show wpAny _ X.A (assign (.Name y py) X.env (.ref D')) _ _ _
 have hCL : C ≠ X.env.locals := (I2.fpOk hC (I2.hok.fresh hC)).2.1
 refine wpAny_assign_Name (Z566 (v := .ref D') J1 hN hiy (.inl hx) rfl (fun s3 I3 ⟨a, sb, ha⟩ => ?_) (.inr hx))
 have ha' : C ≠ a := by
  rcases ha with ha | ha
  ·rw [ha]; exact hCL
  ·exact fun z => (I2.fpOk hC (I2.hok.fresh hC)).2.2.2.2.1 y a ha z.symm
 refine ⟨m, hm.sameBut sb ha', fun h' hs' => ?_⟩
 exact ⟨_, H', Z49 I2 hC I3 hn hs', q⟩
end
end L2
set_option Elab.async false
set_option linter.all false
set_option maxRecDepth 100000
namespace L2
open PySem PySem.Spec PyProof.Rows

section
variable {X : Cx} {tg : Expr}
end

theorem Z52 {t : Nat} {lo : Int} {n : Nat} {g : TG} {tt : TT} {te : TE} {Q : VK} {σ : St} {H1 : Hp} (P : Addr → Nat → List V → St → Hp → Prop) (h0 : ∀ D, H1 D = none → P D 0 [] (List.replicate t none ++ σ) (upd H1 D (.lst [])))
  (hs : ∀ D i ys τ H, H1 D = none → i < n → P D i ys τ H → g (.int (lo + i)) τ H fun τ2 H2 => tt τ2 H2 fun b H3 =>
   if b = true then te τ2 H3 fun y H4 => H4 D = some (.lst ys) ∧ ys.length < sizeLine ∧ P D (i + 1) (ys ++ [y]) τ2 (upd H4 D (.lst (ys ++ [y]))) else P D (i + 1) ys τ2 H3)
  (hd : ∀ D ys τ H, H1 D = none → P D n ys τ H → Q (.ref D) H) : compW (Itr lo n) t g tt te σ H1 Q := by
 intro D hD
 refine ⟨fun i m ys τ H => m = n - i ∧ i ≤ n ∧ P D i ys τ H, ⟨n, by simp, Nat.zero_le _, h0 D hD⟩, ?_⟩
 rintro i m ys τ H ⟨rfl, hi, p⟩
 by_cases hlt : i < n
 ·refine .inr ⟨hlt, P D (i + 1), fun zs τ' H' p' => ⟨n - (i + 1), by omega, rfl, hlt, p'⟩, fun x H' y => ?_⟩
  obtain ⟨e, y⟩ := y
  subst e y
  exact hs D i ys τ _ hD hlt p
 ·have e : i = n := by omega
  subst e
  exact .inl ⟨Nat.le_refl _, hd D ys τ H hD p⟩
theorem Z54 {lo : Int} {n : Nat} {te : TE} {Q : VK} {σ : St} {H1 : Hp} (hn : n ≤ sizeLine) (R : Nat → V → Prop)
  (hs : ∀ i H (Q' : VK), i < n → Same H1 H → (∀ y H4, Same H H4 → R i y → Q' y H4) → te (some (.int (lo + i)) :: σ) H Q')
  (hd : ∀ D ys H, H1 D = none → Same H1 H → H D = some (.lst ys) → ys.length = n → (∀ i y, ys[i]? = some y → R i y) → Q (.ref D) H) : compW (Itr lo n) 1 (gName 0) tYes te σ H1 Q := by
 refine Z52 (fun D i ys τ H => (∃ v0, τ = v0 :: σ) ∧ Same H1 H ∧ H D = some (.lst ys) ∧ ys.length = i ∧ ∀ j y, ys[j]? = some y → R j y) (fun D hD => ⟨⟨none, rfl⟩, fun b o e => by rw [Z604 (Z352 e hD)]; exact e, Z605, rfl, fun j y e => by simp at e⟩) ?_ ?_
 ·rintro D i ys τ H hD hi ⟨⟨v0, rfl⟩, sm, hl, hlen, hR⟩
  unfold gName tYes
  refine iteT ?_
  refine hs i H _ hi sm fun y H4 s4 ry => ⟨s4 _ _ hl, by omega, ⟨_, rfl⟩, fun b o e => ?_, Z605, by simp [hlen], fun j z e => ?_⟩
  ·rw [Z604 (Z352 e hD)]
   exact s4 _ _ (sm _ _ e)
  ·by_cases hj : j < ys.length
   ·rw [List.getElem?_append_left hj] at e
    exact hR j z e
   ·rw [List.getElem?_append_right (by omega)] at e
    have : j - ys.length = 0 := by
     have := (List.getElem?_eq_some_iff.mp e).1
     simp at this
     omega
    rw [this] at e
    have e' : y = z := by simpa using e
    subst e'
    have : j = i := by omega
    subst this
    exact ry
 ·rintro D ys τ H hD ⟨_, sm, hl, hlen, hR⟩
  exact hd D ys H hD sm hl hlen hR
theorem Z53 {lo : Int} {n : Nat} {te : TE} {Q : VK} {σ : St} {H1 : Hp} (hn : n ≤ sizeLine) (f : Nat → V)
  (hs : ∀ i H (Q' : VK), i < n → Same H1 H → (∀ H4, Same H H4 → Q' (f i) H4) → te (some (.int (lo + i)) :: σ) H Q')
  (hd : ∀ D H, H1 D = none → Same H1 H → H D = some (.lst ((List.range n).map f)) → Q (.ref D) H) : compW (Itr lo n) 1 (gName 0) tYes te σ H1 Q := by
 refine Z54 hn (fun i v => v = f i) (fun i H Q' hi sm k => hs i H Q' hi sm fun H4 s4 => k _ H4 s4 rfl) fun D ys H hD sm hl hlen hR => hd D H hD sm ?_
 have : ys = (List.range n).map f := by
  apply List.ext_getElem?
  intro i
  by_cases hi : i < n
  ·have h1 : ys[i]? = some (ys[i]'(by omega)) := by simp
   rw [h1, hR i _ h1]
   simp [hi]
  ·rw [List.getElem?_eq_none (by omega), List.getElem?_eq_none (by simp; omega)]
 rw [← this]
 exact hl

section
variable {X : Cx}
end
end L2
set_option Elab.async false
set_option linter.all false
set_option maxRecDepth 100000
namespace L2
open PySem PySem.Spec PyProof.Rows

noncomputable def compOk (sc : Scope) (N0 : List Str) (t : Nat) (N : List Str) (scope : Scope) : Bool :=
 (scope.kind == .function) && scope.names.all (fun y => y.2 != .cell) && scope.names.all (fun y => y.2 != .local || scope.names.lookup y.1 == some .local)
 && scope.names.all (fun y => y.2 != .free || sc.names.lookup y.1 == some .cell || sc.names.lookup y.1 == some .free) && (N.length == N0.length + t)
 && ((N.drop t).zip N0).all (fun p => p.1 == p.2 || scope.names.lookup p.1 == none) && N0.all (fun y => scope.names.lookup y != some .local || !(N.drop t).contains y)
theorem CompSc.of {X : Cx} {sc : Scope} {N0 N : List Str} {t : Nat} {scope : Scope} (e1 : X.env.scope = sc) (e2 : X.N = N0) (k : compOk sc N0 t N scope = true) : CompSc X t N scope := by
 unfold compOk at k
 simp only [Bool.and_eq_true, List.all_eq_true, beq_iff_eq, bne_iff_ne, Bool.or_eq_true, ne_eq, Bool.not_eq_true', List.contains_eq_mem, decide_eq_false_iff_not] at k
 obtain ⟨⟨⟨⟨⟨⟨k1, k2⟩, k3⟩, k4⟩, k5⟩, k6⟩, k7⟩ := k
 subst e1 e2
 refine ⟨k1, k2, fun y hy hk => ?_, fun y hy hk => ?_, k5, k6, k7⟩
 ·rcases k3 y hy with z | z
  ·exact absurd hk z
  ·exact z
 ·rcases k4 y hy with (z | z) | z
  ·exact absurd hk z
  ·exact .inl z
  ·exact .inr z

structure Def (P : Program) (w : World) (K : PySem.W.Frag) (mg : Str → Option Value) (base : Heap) (x : Str) (k : Nat) (ps : List Str) (sp : Sp) : Prop where
 ex : ∃ (f : Addr) (fd : FuncData), FnOk P w K mg base CX0 k f fd ps sp ∧ mg x = some (.ref f) ∧ PySem.W.keepIn K (.ref f) = true ∧ Binds K fd ps [] ∧
  ∃ (oc : Value) (od : Option Addr) (osl : Array (Option Value)), K.lookup f = some ⟨oc, od, .func fd, osl⟩
structure At (K : PySem.W.Frag) (mg : Str → Option Value) (x : Str) (st : Stmt) (ps : List Str) : Prop where
 ex : ∃ (f : Addr) (fd : FuncData), Fun K x x st f fd ∧ mg x = some (.ref f) ∧ ∀ us : List Value, us.length = ps.length → bindArgs fd ⟨us, []⟩ = pure (ps.zip us)
section
variable {P : Program} {w : World} {K : PySem.W.Frag} {mg : Str → Option Value} {base : Heap}
end
section
variable {X : Cx} {x : Str} {k : Nat} {ps : List Str} {sp : Sp} {p pos : Pos} {e : Expr} {es : List Expr} {t : TA}
noncomputable def GIs (mg : Str → Option Value) (x : Str) (v : V) : Prop := ∃ u, mg x = some u ∧ RelV v u
theorem Z419 {v : V} (h : GIs X.mg x v) (hg : Gl X x := by rfl) (hd : (x == ("__debug__" : Str)) = false := by decide) : PE X (.Name x pos) (tC v) := by
 obtain ⟨u, m, r⟩ := h
 exact Z410 hg m r hd
end

theorem Z62 {CX : CXT} {P : Program} {w : World} {K : PySem.W.Frag} {mg : Str → Option Value} {base : Heap} {N : List Str} {qual : Str} {scope : Scope} {f : Addr} {cd : Value} {A : Around} {outer : List Env} {s : Shared} {H : Hp} {E : XK} :
  (cxOf CX P w K mg base N qual scope f cd A outer s H E).K = K := rfl
theorem cxC_K {X : Cx} {N : List Str} {scope : Scope} {cl : List (Str × Addr)} {C : Addr} {s : Shared} {H : Hp} {fp : List Addr} : (cxC X N scope cl C s H fp).K = X.K := rfl

section
variable {X : Cx}
end
end L2
set_option Elab.async false
set_option linter.all false
set_option maxRecDepth 100000

namespace L2.KQ
open PySem PySem.Spec PyProof.Rows L2
section
variable {X : Cx} (K : PySem.W.Frag) {tg l o e a b : Expr} {es : List Expr} {tl to ta tv te : TE} {t : TA} {name f : Str} {pos pos' apos cpos : Pos} {T id : String} {r : V → List V → Hp → VK → Prop}
theorem call_len (hK : X.K = K := by rfl) : CallR X (.builtin "len") (fun xs H Q => ∃ x n, xs = [x] ∧ LenV K x H n ∧ Q (.int n) H) := by subst hK; exact L2.call_len
end
end L2.KQ
set_option Elab.async false
set_option linter.all false
set_option maxRecDepth 100000
namespace L2
open PySem PySem.Spec PyProof.Rows

section
variable {X : Cx} {st : Stmt} {rest : List Stmt} {t u : TS}
end

noncomputable def IsTy (H : Hp) (x : V) (N : String) : Prop := match x with
 | .non => N = "NoneType"
 | .bl _ => N = "bool"
 | .int _ => N = "int"
 | .str _ => N = "str"
 | .ref a => (N = "list" ∧ ∃ xs, H a = some (.lst xs)) ∨ (N = "tuple" ∧ ∃ xs, H a = some (.tup xs)) ∨ (N = "dict" ∧ ∃ kvs, H a = some (.dK kvs))
 | _ => False
noncomputable def kit0 (N T : String) : Option Bool := PySem.W.kitOne [] (.type N) (.type T)
noncomputable def subT (N T : String) : Bool := (kit0 N T).getD false
noncomputable def kitAll (N : String) (Ts : List String) : Bool := Ts.all fun T => (kit0 N T).isSome
theorem kit_K (K : PySem.W.Frag) (N T : String) : PySem.W.kitOne K (.type N) (.type T) = kit0 N T := rfl
theorem Z258 (K : PySem.W.Frag) (N : String) : ∀ (Ts : List String), kitAll N Ts = true → PySem.W.kitAny K (.type N) (Ts.map Value.type) = some (Ts.any (subT N))
 | [], _ => rfl
 | T :: Ts, h => by
  unfold kitAll at h
  rw [List.all_cons, Bool.and_eq_true] at h
  obtain ⟨b, hb⟩ := Option.isSome_iff_exists.mp h.1
  have ih := Z258 K N Ts h.2
  show (match PySem.W.kitOne K (.type N) (.type T) with | some true => some true | some false => PySem.W.kitAny K (.type N) (Ts.map Value.type) | none => none) = _
  rw [kit_K, hb, List.any_cons]
  have hs : subT N T = b := by unfold subT; rw [hb]; rfl
  rw [hs]
  cases b with
  | true => rfl
  | false => rw [Bool.false_or]; exact ih
section
variable {X : Cx} {pins : List (Addr × Obj)} {σ : St} {H : Hp} {s : Shared}
theorem IsTy.kit {x : V} {u : Value} {N : String} (I : Inv X pins σ H s) (rx : RelV x u) (ty : IsTy H x N) : ∃ Hh : Heap → Prop, PySem.W.KitX X.K u (.type N) Hh ∧ Hh s.heap ∧ u ≠ .builtin "__main__.__loader__#opaque" := by
 cases x with
 | non => cases (show u = Value.none from rx); cases (show N = "NoneType" from ty); exact ⟨_, PySem.W.kitx_none, True.intro, fun z => nomatch z⟩
 | bl y => cases (show u = Value.bool y from rx); cases (show N = "bool" from ty); exact ⟨_, PySem.W.kitx_bool, True.intro, fun z => nomatch z⟩
 | int i => obtain ⟨t, q⟩ := (show ∃ t, u = Value.int i t from rx); cases q; cases (show N = "int" from ty); exact ⟨_, PySem.W.kitx_int, True.intro, fun z => nomatch z⟩
 | str y => obtain ⟨t, q⟩ := (show ∃ t, u = Value.str y t from rx); cases q; cases (show N = "str" from ty); exact ⟨_, PySem.W.kitx_str, True.intro, fun z => nomatch z⟩
 | ref a =>
  cases (show u = Value.ref a from rx)
  rcases ty with ⟨rfl, xs, ea⟩ | ⟨rfl, xs, ea⟩ | ⟨rfl, kvs, ea⟩
  ·obtain ⟨_, _, n, _, h1⟩ := (show ObjOk X.prog X.w H s.heap a (.lst xs) from I.hok a _ ea)
   exact ⟨_, PySem.W.kitx_list, ⟨_, h1, rfl⟩, fun z => nomatch z⟩
  ·obtain ⟨_, _, _, p⟩ := (show ObjOk X.prog X.w H s.heap a (.tup xs) from I.hok a _ ea)
   obtain ⟨o, h1, h2, _⟩ := p
   exact ⟨_, PySem.W.kitx_tuple, ⟨o, h1, h2⟩, fun z => nomatch z⟩
  ·obtain ⟨_, _, vs, _, p⟩ := (show ObjOk X.prog X.w H s.heap a (.dK kvs) from I.hok a _ ea)
   obtain ⟨o, es, ep, h1, h2, _⟩ := p
   exact ⟨_, PySem.W.kitx_dict, ⟨o, h1, h2.1⟩, fun z => nomatch z⟩
 | _ => exact (show False from ty).elim
noncomputable def rIs1 : List V → Hp → VK → Prop := fun xs H Q => ∃ x T N, xs = [x, .ty T] ∧ IsTy H x N ∧ (kit0 N T).isSome = true ∧ Q (.bl (subT N T)) H
theorem Z30 : CallR X (.builtin "isinstance") rIs1 := by
 intro pins s σ H xs us Q I r h
 obtain ⟨x, T, N, rfl, ty, e, q⟩ := h
 obtain ⟨u, w', rfl, rx, rc⟩ := vals2 r
 cases rc
 obtain ⟨Hh, Z, p, ne⟩ := ty.kit I rx
 obtain ⟨b, hb⟩ := Option.isSome_iff_exists.mp e
 have hs : subT N T = b := by unfold subT; rw [hb]; rfl
 rw [hs] at q
 exact PySem.W.kia_one Z I.kIn p ((kit_K X.K N T).trans hb) ne fun tk => ⟨.bl b, H, I.tok _, rfl, q⟩
theorem Z597 : ∀ {Ts : List String} {us : List Value}, Vals (Ts.map V.ty) us → us = Ts.map Value.type
 | [], us, r => by cases r; rfl
 | T :: Ts, us, r => by
  cases r with
  | cons r1 r2 =>
   cases (show _ = Value.type T from r1)
   rw [Z597 r2]
   rfl
noncomputable def rIsT : List V → Hp → VK → Prop := fun xs H Q => ∃ x p Ts N, xs = [x, .ref p] ∧ H p = some (.tup (Ts.map V.ty)) ∧ IsTy H x N ∧ kitAll N Ts = true ∧ Q (.bl (Ts.any (subT N))) H
theorem Z31 : CallR X (.builtin "isinstance") rIsT := by
 intro pins s σ H xs us Q I r h
 obtain ⟨x, p, Ts, N, rfl, hp, ty, e, q⟩ := h
 obtain ⟨u, w', rfl, rx, rc⟩ := vals2 r
 cases rc
 obtain ⟨Hh, Z, hh, ne⟩ := ty.kit I rx
 obtain ⟨_, its, rv, o, h1, h2, n, h3⟩ := (show ObjOk X.prog X.w H s.heap p (.tup (Ts.map V.ty)) from I.hok p _ hp)
 obtain rfl := Z597 rv
 obtain ⟨c, d, dt, sl⟩ := o
 have h2 : c = .type "tuple" := h2
 have h3 : dt = _ := h3
 subst h2 h3
 exact PySem.W.kia_tup Z I.kIn hh h1 (Z258 X.K N Ts e) ne fun tk => ⟨.bl _, H, I.tok _, rfl, q⟩
end
end L2
set_option Elab.async false
set_option linter.all false
set_option maxRecDepth 100000

namespace L2
open PySem PySem.Spec PyProof.Rows
theorem ObjOk.there {P : Program} {w : World} {H : Hp} {h : Heap} {a : Addr} {o : HO} (x : ObjOk P w H h a o) : ∃ u, h.get? a = some u := by
 cases o with
 | lst xs => obtain ⟨_, _, _, _, e⟩ := x; exact ⟨_, e⟩
 | tup xs => obtain ⟨_, _, _, p⟩ := x; obtain ⟨u, e, _⟩ := p; exact ⟨u, e⟩
 | dK kvs => obtain ⟨_, _, _, _, u, _, _, e, _⟩ := x; exact ⟨u, e⟩
 | dT kvs => obtain ⟨_, _, _, _, u, _, _, e, _⟩ := x; exact ⟨u, e⟩
 | set S n => obtain ⟨u, _, _, _, e, _⟩ := x; exact ⟨u, e⟩
 | ins C dx fs => obtain ⟨_, _, _, e, _⟩ := x; exact ⟨_, e⟩
 | own y => exact x
 | xd fs => obtain ⟨_, ⟨u, _, _, e, _⟩, _⟩ := x; exact ⟨u, e⟩
 | rng lo hi => obtain ⟨_, _, _, e⟩ := x; exact ⟨_, e⟩
 | frz ob u => obtain ⟨e, _⟩ := x; exact ⟨_, e⟩
 | tbl ps => exact ⟨_, x⟩
 | met f y => exact ⟨_, x⟩
 | ext φ => exact x.2.1
noncomputable def Fly (g : Heap) (Z : List Addr) (l : List Env) (ea : Addr) (cls : Value) (h : Heap) : Prop :=
 ∃ (B : Heap) (t : Addr), Heap.FlyingW B l ea cls (.ref t) h ∧ ∀ b o, g.get? b = some o → b ∉ frs l → b ∉ Z → B.get? b = some o
noncomputable def CX1 (P : Program) (w : World) : CXT := fun outer H s E e s' => ∃ (ea : Addr) (cls : Value) (H' : Hp) (g : Heap) (Z : List Addr), e = .ref ea ∧ s'.os = s.os ∧ AllBare s'.gens ∧ Un (frs outer) [] H H' s.heap s'.heap ∧ HOk P w H' s'.heap ∧
 (∀ b o, s.heap.get? b = some o → ∃ o', g.get? b = some o') ∧ (∀ z ∈ Z, s.heap.objs.size ≤ z) ∧ (∀ a o, H' a = some o → (∃ o', g.get? a = some o') ∧ a ∉ Z) ∧ Fly g Z outer ea cls s'.heap ∧ E cls none H'
section
variable {X : Cx} {pins : List (Addr × Obj)} {σ : St} {Hc H' : Hp} {sc s' : Shared} {g B h' : Heap} {Z : List Addr}
theorem Z159 (I : Inv X pins σ Hc sc) (un : Un (frs X.stack) [] Hc H' sc.heap s'.heap) (hok : HOk X.prog X.w H' s'.heap)
  (dom : ∀ b o, sc.heap.get? b = some o → ∃ o', g.get? b = some o') (zz : ∀ z ∈ Z, sc.heap.objs.size ≤ z) (tr : ∀ a o, H' a = some o → (∃ o', g.get? a = some o') ∧ a ∉ Z)
  (hB : ∀ b o, g.get? b = some o → b ∉ frs X.stack → b ∉ Z → B.get? b = some o) (st : B.StaysIn s'.heap) (st' : B.StaysIn h')
  (nf : ∀ b ∈ frs X.stack, ∃ o, s'.heap.get? b = some o ∧ ∀ vs, o.data ≠ .fields vs) (up : s'.heap.UpToSlots h') :
  Un (frs X.stack) [] Hc H' sc.heap h' ∧ HOk X.prog X.w H' h' ∧ ∀ b, b ∉ frs X.stack → ∀ o, g.get? b = some o → b ∉ Z → s'.heap.get? b = some o ∧ h'.get? b = some o := by
 have same : ∀ b, b ∉ frs X.stack → ∀ o, g.get? b = some o → b ∉ Z → s'.heap.get? b = some o ∧ h'.get? b = some o := fun b hb o e hz =>
  ⟨st b o (hB b o e hb hz), st' b o (hB b o e hb hz)⟩
 have nz : ∀ b o, sc.heap.get? b = some o → b ∉ Z := fun b o e hz => absurd (Nat.lt_of_lt_of_le (Heap.lt_size e) (zz b hz)) (Nat.lt_irrefl _)
 have frf : ∀ b ∈ frs X.stack, H' b = none := fun b hb => by
  obtain ⟨o, e⟩ : ∃ o, sc.heap.get? b = some o := by
   obtain ⟨_, o, ho, _⟩ := I.stack.mem hb
   exact ⟨o, ho⟩
  exact un.free b o e (I.stkFree b hb) (by simp)
 refine ⟨⟨fun b o e n hb _ => ?_, fun b o e n hb _ => ?_, un.free, fun b o e _ => ?_, un.tups, un.frzs, un.tbls⟩, fun a o e => ?_, same⟩
 ·have e1 := un.keep b o e n hb (by simp)
  obtain ⟨o', g1⟩ := dom b o e
  obtain ⟨h1, h2⟩ := same b hb o' g1 (nz b o e)
  rw [e1] at h1
  cases h1
  exact h2
 ·obtain ⟨sl, e1⟩ := un.slot b o e n hb (by simp)
  obtain ⟨o1, e2, nd⟩ := nf b hb
  rw [e1] at e2
  cases e2
  obtain ⟨sl', e3⟩ := up b _ e1 nd
  exact ⟨sl', e3⟩
 ·by_cases hb : b ∈ frs X.stack
  ·obtain ⟨o1, e2, nd⟩ := nf b hb
   obtain ⟨sl', e3⟩ := up b _ e2 nd
   exact ⟨_, e3⟩
  ·obtain ⟨o', g1⟩ := dom b o e
   exact ⟨o', (same b hb o' g1 (nz b o e)).2⟩
 ·refine (hok a o e).stay (fun b u hb q => ?_) (fun _ q => q) fun _ _ q => q
  obtain ⟨ob, tb⟩ : ∃ ob, H' b = some ob := by
   rcases hb with rfl | hb
   ·exact ⟨o, e⟩
   ·exact ⟨_, hb⟩
  obtain ⟨⟨o', g1⟩, hz⟩ := tr b ob tb
  have hfr : b ∉ frs X.stack := fun z => by rw [frf b z] at tb; cases tb
  obtain ⟨h1, h2⟩ := same b hfr o' g1 hz
  rw [q] at h1
  cases h1
  exact h2
end
section
variable {P : Program} {w : World} {K : PySem.W.Frag} {mg : Str → Option Value} {base : Heap} {N : List Str} {qual : Str} {scope : Scope} {f : Addr} {cd : Value} {A : Around} {outer : List Env} {s : Shared} {H : Hp} {E : XK} {pins : List (Addr × Obj)} {σ : St}
theorem Z300 {Hc H' : Hp} {sc s' : Shared} {g B h' : Heap} {Z : List Addr} {ea t : Addr} {cls : Value} (I : Inv (cxOf (CX1 P w) P w K mg base N qual scope f cd A outer s H E) pins σ Hc sc)
  (os : s'.os = sc.os) (bare : AllBare s'.gens) (un : Un (frs (cxOf (CX1 P w) P w K mg base N qual scope f cd A outer s H E).stack) [] Hc H' sc.heap s'.heap) (hok : HOk P w H' s'.heap)
  (dom : ∀ b o, sc.heap.get? b = some o → ∃ o', g.get? b = some o') (zz : ∀ z ∈ Z, sc.heap.objs.size ≤ z) (tr : ∀ a o, H' a = some o → (∃ o', g.get? a = some o') ∧ a ∉ Z)
  (hB : ∀ b o, g.get? b = some o → b ∉ frs (cxOf (CX1 P w) P w K mg base N qual scope f cd A outer s H E).stack → b ∉ Z → B.get? b = some o) (st : B.StaysIn s'.heap)
  (nf : ∀ b ∈ frs (cxOf (CX1 P w) P w K mg base N qual scope f cd A outer s H E).stack, ∃ o, s'.heap.get? b = some o ∧ ∀ vs, o.data ≠ .fields vs)
  (fl : Heap.FlyingW B outer ea cls (.ref t) h') (up : s'.heap.UpToSlots h') (q : E cls none H') : CX1 P w outer H s E (.ref ea) { s' with heap := h' } := by
 generalize hX : cxOf (CX1 P w) P w K mg base N qual scope f cd A outer s H E = X at I un hB nf
 have e1 : X.s₀ = s := by subst hX; rfl
 have e2 : X.H₀ = H := by subst hX; rfl
 have e3 : X.fs = frs outer := by subst hX; rfl
 have e4 : X.ex = [] := by subst hX; rfl
 have e5 : frs X.stack = X.env.locals :: frs outer := by subst hX; rfl
 have e6 : X.prog = P := by subst hX; rfl
 have e7 : X.w = w := by subst hX; rfl
 obtain ⟨un', hok', same⟩ := Z159 I un (by rw [e6, e7]; exact hok) dom zz tr hB st fl.1 nf up
 have ib := I.base
 rw [e1, e2, e3, e4] at ib
 have ab := I.ok.above
 rw [e1] at ab
 have sz := I.sz
 rw [e1] at sz
 have out : ∀ b o, s.heap.get? b = some o → b ∉ frs outer → b ∉ frs X.stack := fun b o e hb => by
  rw [e5]
  intro z
  rcases List.mem_cons.mp z with z | z
  ·exact absurd (Nat.lt_of_lt_of_le (Heap.lt_size e) ab) (by rw [z]; exact Nat.lt_irrefl _)
  ·exact hb z
 have inn : ∀ b, b ∈ frs outer → b ∈ frs X.stack := fun b hb => by rw [e5]; exact List.mem_cons_of_mem _ hb
 have fL : H' X.env.locals = none := by
  obtain ⟨m, ⟨o, _, _, ho, _⟩, _⟩ := I.loc
  exact un.free _ o ho I.free (by simp)
 refine ⟨ea, cls, H', g, X.env.locals :: Z, rfl, os.trans (I.os.trans (by rw [e1])), bare, ⟨fun b o e n hb _ => ?_, fun b o e n hb _ => ?_, fun b o e n _ => ?_, fun b o e _ => ?_, fun b xs e => un.tups b xs (ib.tups b xs e), fun b o u e => un.frzs b o u (ib.frzs b o u e), fun b ps e => ?_⟩,
  by rw [← e6, ← e7]; exact hok', fun b o e => ?_, fun z hz => ?_, fun a o e => ?_, ⟨B, t, fl, fun b o e hb hz => ?_⟩, q⟩
 ·exact un'.keep b o (ib.keep b o e n hb (by simp)) (ib.free b o e n (by simp)) (out b o e hb) (by simp)
 ·obtain ⟨sl, h1⟩ := ib.slot b o e n hb (by simp)
  obtain ⟨sl', h2⟩ := un'.slot b _ h1 (ib.free b o e n (by simp)) (inn b hb) (by simp)
  exact ⟨sl', h2⟩
 ·obtain ⟨o', h1⟩ := ib.there b o e (by simp)
  exact un.free b o' h1 (ib.free b o e n (by simp)) (by simp)
 ·obtain ⟨o', h1⟩ := ib.there b o e (by simp)
  exact un'.there b o' h1 (by simp)
 ·obtain ⟨m1, h1⟩ := ib.tbls b ps e
  obtain ⟨m2, h2⟩ := un.tbls b _ h1
  exact ⟨m1 ++ m2, by rw [h2, Array.append_assoc]⟩
 ·obtain ⟨o', h1⟩ := ib.there b o e (by simp)
  exact dom b o' h1
 ·rcases List.mem_cons.mp hz with z | z
  ·rw [z]; exact ab
  ·exact Nat.le_trans sz (zz _ z)
 ·obtain ⟨h1, h2⟩ := tr a o e
  refine ⟨h1, fun z => ?_⟩
  rcases List.mem_cons.mp z with z | z
  ·rw [z, fL] at e; cases e
  ·exact h2 z
 ·refine hB b o e (fun z => ?_) fun z => hz (List.mem_cons_of_mem _ z)
  rw [e5] at z
  rcases List.mem_cons.mp z with z | z
  ·exact hz (by rw [z]; exact List.mem_cons_self)
  ·exact hb z
theorem passX : Passes (CX1 P w) (cxOf (CX1 P w) P w K mg base N qual scope f cd A outer s H E) E := by
 intro pins σ Hc sc e s' I c
 obtain ⟨ea, cls, H', g, Z, rfl, os, bare, un, hok, dom, zz, tr, ⟨B, t, fl, hB⟩, q⟩ := c
 refine wpAny_leaves_onW (A := A.deeper (envOfC qual scope s.heap.objs.size f cd)) I.ok.frames rfl fl fun h' fl' up => ?_
 exact Z300 I os bare un hok dom zz tr hB fl.1 (fun b hb => (fl.2.2.1.mem hb).2) fl' up q
theorem pass1 {X : Cx} : Passes (CX1 P w) X E0 := by
 rintro pins σ Hc sc e s' I ⟨_, _, _, _, _, _, _, _, _, _, _, _, _, _, q⟩
 exact q.elim
theorem leave_new {sc : Shared} {Hc : Hp} {h1 : Heap} {ea : Addr} {cls : Value} {vs : List Value} (I : Inv (cxOf (CX1 P w) P w K mg base N qual scope f cd A outer s H E) pins σ Hc sc) (hx : Heap.MadeExcOf sc.heap h1 ea cls vs) (q : E cls none Hc) :
  (cxOf (CX1 P w) P w K mg base N qual scope f cd A outer s H E).xe (.ref ea) { sc with heap := h1 } := by
 generalize hX : cxOf (CX1 P w) P w K mg base N qual scope f cd A outer s H E = X at I
 have stk : X.stack = envOfC qual scope s.heap.objs.size f cd :: outer := by subst hX; rfl
 have fm : ∀ l : List Env, (∀ b ∈ frs l, b ∈ frs X.stack) → ∀ {bs : Heap}, sc.heap.FunFrames bs l → sc.heap.FunFrames (PySem.W.hideAll sc.heap (frs X.stack)) l := by
  intro l
  induction l with
  | nil => intro _ _ _; trivial
  | cons env r ih =>
   intro hs bs hl
   obtain ⟨hk, ⟨L, o, hf, _, ho, hd⟩, hr⟩ := hl
   have hL : L ∈ frs (env :: r) := by unfold frs; rw [List.filterMap_cons, hf]; exact List.mem_cons_self
   refine ⟨hk, ⟨L, o, hf, PySem.W.hideAll_none _ (hs L hL), ho, hd⟩, ih (fun b hb => hs b ?_) hr⟩
   unfold frs
   rw [List.filterMap_cons, hf]
   exact List.mem_cons_of_mem _ hb
 have hl := fm X.stack (fun _ hb => hb) I.stack
 have nf : ∀ b ∈ frs X.stack, ∃ o, h1.get? b = some o ∧ ∀ vs, o.data ≠ .fields vs := fun b hb => by
  obtain ⟨_, o, ho, hd⟩ := hl.mem hb
  exact ⟨o, hx.keeps b o ho, hd⟩
 have hkb : (PySem.W.hideAll sc.heap (frs X.stack)).StaysIn sc.heap := fun b o e => PySem.W.of_hideAll _ e
 have frm := I.ok.frames
 have hB : ∀ b o, sc.heap.get? b = some o → b ∉ frs X.stack → b ∉ ([] : List Addr) → (PySem.W.hideAll sc.heap (frs X.stack)).get? b = some o := fun b o e hb _ => PySem.W.hideAll_get _ e hb
 have tr : ∀ a o, Hc a = some o → (∃ o', sc.heap.get? a = some o') ∧ a ∉ ([] : List Addr) := fun a o e => ⟨(I.hok a o e).there, by simp⟩
 subst hX
 refine wpAny_leaves_madeW (A := A.deeper (envOfC qual scope s.heap.objs.size f cd)) (base := PySem.W.hideAll sc.heap (frs (envOfC qual scope s.heap.objs.size f cd :: outer))) (h := sc.heap) frm rfl hkb hl hx fun h' t fl _ _ up => ?_
 exact Z300 (s' := { sc with heap := h1 }) (g := sc.heap) (Z := []) I rfl I.bare (Un.kept hx.keeps) (I.hok.kept hx.keeps) (fun b o e => ⟨o, e⟩) (by simp) tr hB (fun b o e => hx.keeps b o (hkb b o e)) nf fl up q
theorem Z395 : PassesOwn (model P w) (cxOf (CX1 P w) P w K mg base N qual scope f cd A outer s H E).A (cxOf (CX1 P w) P w K mg base N qual scope f cd A outer s H E).env (cxOf (CX1 P w) P w K mg base N qual scope f cd A outer s H E).xe := by
 intro e s' h
 exact wpAny_leaving_again (SameStack.refl _) h
end
end L2
set_option Elab.async false
set_option linter.all false
set_option maxRecDepth 100000

namespace L2
open PySem PySem.Spec PyProof.Rows

abbrev bmV : List Value := [.type "ValueError", .type "Exception", .type "BaseException", .type "object"]
structure ExC (K : PySem.W.Frag) (mg : Str → Option Value) (x : Str) (C : Addr) : Prop where
 mg : mg x = some (.ref C)
 exc : PySem.W.excIn K C bmV "ValueError.__new__" = true
theorem ExC.obj {K : PySem.W.Frag} {mg : Str → Option Value} {x : Str} {C : Addr} {h : Heap} (O : ExC K mg x C) (X : K.In h) : OwnCls x C bmV "ValueError.__new__" mg h := by
 refine ⟨O.mg, ?_⟩
 have q := O.exc
 unfold PySem.W.excIn at q
 split at q
 case h_2 => cases q
 case h_1 dd cd sl ho =>
  split at q
  case h_2 => cases q
  case h_1 C' bm k0 k1 k2 k3 n k5 hm hs =>
   rw [Bool.and_eq_true, Bool.and_eq_true, Bool.and_eq_true, Bool.and_eq_true, Bool.and_eq_true] at q
   obtain ⟨⟨⟨⟨⟨a1, a2⟩, a3⟩, a4⟩, a5⟩, a6⟩ := q
   have b1 := beq_iff_eq.mp a1
   have b2 := beq_iff_eq.mp a2
   have b6 := beq_iff_eq.mp a6
   rw [Bool.not_eq_true'] at a3
   obtain ⟨c1, c2, c3, c4, c5, c6, c7, c8, c9, c10, c11⟩ := cd
   have hm' : c3 = Value.ref C' :: bm := hm
   have hd' : c11 = false := a3
   have hs' : sl = #[k0, k1, k2, k3, some (.builtin n), k5] := by
    rcases sl with ⟨l⟩
    exact congrArg Array.mk hs
   subst b1 b2 hm' hd' hs'
   exact ⟨bm, c4, c1, c5, c2, c6, c7, c8, c9, c10, dd, k0, k1, k2, k3, k5, _, X _ _ ho, .of_isNs (PySem.W.isNs_of_in X a5), PySem.W.nsMap_none_of_in X a5 b6, PySem.W.tail_of_in X a4⟩
section
variable {P : Program} {w : World} {K : PySem.W.Frag} {mg : Str → Option Value} {base : Heap} {N : List Str} {qual : Str} {scope : Scope} {f : Addr} {cd : Value} {A : Around} {outer : List Env} {s : Shared} {H : Hp} {E : XK}
noncomputable def tRaise (E : XK) (cls : Value) : TS := fun _ _ H => E cls none H
noncomputable def tRaiseA (E : XK) (cls : Value) (t : TA) : TS := fun _ σ H => t σ H fun vs H1 => vs.length ≤ sizeLine ∧ E cls none H1
theorem Z442 {x : Str} {C : Addr} {np cpos pos : Pos} {e : Expr} {es : List Expr} {t : TA} (O : ExC K mg x C) (ha : PA (cxOf (CX1 P w) P w K mg base N qual scope f cd A outer s H E) (e :: es) t)
  (hg : Gl (cxOf (CX1 P w) P w K mg base N qual scope f cd A outer s H E) x := by rfl) (hdb : (x == ("__debug__" : Str)) = false := by decide)
  (he : starEach (e :: es) (cxOf (CX1 P w) P w K mg base N qual scope f cd A outer s H E).env = (false, eval e (cxOf (CX1 P w) P w K mg base N qual scope f cd A outer s H E).env) :: starEach es (cxOf (CX1 P w) P w K mg base N qual scope f cd A outer s H E).env := by rfl)
  (hpl : (backTo cpos (starEach es (cxOf (CX1 P w) P w K mg base N qual scope f cd A outer s H E).env)).any (·.1) = false := by rfl) :
  PS (cxOf (CX1 P w) P w K mg base N qual scope f cd A outer s H E) (.Raise (some (.Call (.Name x np) (e :: es) [] cpos)) none pos) (tRaiseA E (.ref C) t) := by
 intro pins sc σ Hc D I q
 obtain ⟨tl, N', nm, q', bs, hdct, sn, sub, ab, col, dd, k0, k1, k2, k3, k5, mN, hC0, hN0, hni, TT0⟩ := (O.obj (I.ok.mod.kin : K.In base)).obj
 refine wpAny_Raise_call_subT (C := C) (nm := nm) (q := q') (N := N') (bs := bs) (bm := tl) (hdct := hdct) (sn := sn) (sub := sub) (ab := ab) (col := col) (dd := dd) (k0 := k0) (k1 := k1) (k2 := k2) (k3 := k3) (k5 := k5)
  F.excBase_ValueError (mN := mN) (TT0.hasType F.excBase_ValueError.hasBase) (I.ok.hd rfl) (by rw [he]; show (false || (backTo cpos (starEach es _)).any (·.1)) = false; rw [hpl]; rfl) hni (Z299 I hg O.mg ⟨rfl, ?_⟩ hdb)
 have hA := ha cpos pins sc σ Hc _ I q
 rw [he] at hA ⊢
 refine Calls.evalArgs_plain (thn hA fun us s2 ⟨vs, H2, I2, r2, hz, q2⟩ => ?_)
 exact ⟨rfl, by rw [← r2.length]; exact hz, I2.bk _ _ hC0, hN0.keeps I2.bk, TT0.keeps I2.bk, fun h' e hm => leave_new I2 hm q2⟩
end

structure DefX (P : Program) (w : World) (K : PySem.W.Frag) (mg : Str → Option Value) (base : Heap) (x : Str) (k : Nat) (ps : List Str) (sp : Sp) : Prop where
 ex : ∃ (f : Addr) (fd : FuncData), FnOk P w K mg base (CX1 P w) k f fd ps sp ∧ mg x = some (.ref f) ∧ PySem.W.keepIn K (.ref f) = true ∧ Binds K fd ps [] ∧
  ∃ (oc : Value) (od : Option Addr) (osl : Array (Option Value)), K.lookup f = some ⟨oc, od, .func fd, osl⟩
structure AtM (K : PySem.W.Frag) (C : Addr) (m qual : Str) (st : Stmt) (ps : List Str) : Prop where
 ex : ∃ (f : Addr) (fd : FuncData), Fun K m qual st f fd ∧ Meth K C m f ∧ ∀ us : List Value, us.length = ps.length → bindArgs fd ⟨us, []⟩ = pure (ps.zip us)
structure MetX (P : Program) (w : World) (K : PySem.W.Frag) (mg : Str → Option Value) (base : Heap) (C : Addr) (m : Str) (k : Nat) (ps : List Str) (sp : Sp) : Prop where
 ex : ∃ (f : Addr) (fd : FuncData), FnOk P w K mg base (CX1 P w) k f fd ps sp ∧ Meth K C m f ∧ Binds K fd ps []
structure AtI (K : PySem.W.Frag) (C : Addr) (qual : Str) (st : Stmt) (ps : List Str) : Prop where
 ex : ∃ (f : Addr) (fd : FuncData), Fun K "__init__" qual st f fd ∧ Mk K C f ∧ ∀ us : List Value, us.length = ps.length → bindArgs fd ⟨us, []⟩ = pure (ps.zip us)
structure InitX (P : Program) (w : World) (K : PySem.W.Frag) (mg : Str → Option Value) (base : Heap) (C : Addr) (k : Nat) (ps : List Str) (sp : Sp) : Prop where
 ex : ∃ (f : Addr) (fd : FuncData), FnOk P w K mg base (CX1 P w) k f fd ps sp ∧ Mk K C f ∧ Binds K fd ps []
section
variable {P : Program} {w : World} {K : PySem.W.Frag} {mg : Str → Option Value} {base : Heap}
theorem Fun.okX {x qual : Str} {st : Stmt} {f : Addr} {fd : FuncData} {N ps : List Str} {k : Nat} {sp : Sp} (F : Fun K x qual st f fd) (S : FnScope N ps (defScope st)) (len : ∀ vs H Q E, sp vs H Q E → vs.length = ps.length)
  (hbody : ∀ (cdv : Value) (A : Around) (outer : List Env) (s : Shared) (H : Hp) (vs : List V) (Q : VK) (E : XK), Room k (A.deeper (envOfC qual (defScope st) s.heap.objs.size f cdv)) → sp vs H Q E →
   ∃ t, PSs (cxOf (CX1 P w) P w K mg base N qual (defScope st) f cdv A outer s H E) (defBody st) t ∧ t { nx := fun _ H' => Q .non H', rt := Q } (start N vs) H) : FnOk P w K mg base (CX1 P w) (k + 1) f fd ps sp := by
 obtain ⟨oc, od, kV, doc, pm, an, cdv, ct, osl, rfl, lk, hcd⟩ := F.ex
 exact fn_of lk hcd S len fun A outer s H vs Q E hr hsp => hbody cdv A outer s H vs Q E hr hsp
theorem At.okX {x : Str} {st : Stmt} {ps N : List Str} {k : Nat} {sp : Sp} (F : At K mg x st ps) (S : FnScope N ps (defScope st)) (len : ∀ vs H Q E, sp vs H Q E → vs.length = ps.length)
  (hbody : ∀ (f : Addr) (cdv : Value) (A : Around) (outer : List Env) (s : Shared) (H : Hp) (vs : List V) (Q : VK) (E : XK), Room k (A.deeper (envOfC x (defScope st) s.heap.objs.size f cdv)) → sp vs H Q E →
   ∃ t, PSs (cxOf (CX1 P w) P w K mg base N x (defScope st) f cdv A outer s H E) (defBody st) t ∧ t { nx := fun _ H' => Q .non H', rt := Q } (start N vs) H) : DefX P w K mg base x (k + 1) ps sp := by
 obtain ⟨f, fd, F, m, b⟩ := F.ex
 obtain ⟨oc, od, _, _, _, _, _, _, osl, _, lk, _⟩ := id F.ex
 exact ⟨f, fd, F.okX S len (hbody f), m, F.kp, .all b, oc, od, osl, lk⟩
theorem AtM.okX {C : Addr} {m qual : Str} {st : Stmt} {ps N : List Str} {k : Nat} {sp : Sp} (F : AtM K C m qual st ps) (S : FnScope N ps (defScope st)) (len : ∀ vs H Q E, sp vs H Q E → vs.length = ps.length)
  (hbody : ∀ (f : Addr) (cdv : Value) (A : Around) (outer : List Env) (s : Shared) (H : Hp) (vs : List V) (Q : VK) (E : XK), Room k (A.deeper (envOfC qual (defScope st) s.heap.objs.size f cdv)) → sp vs H Q E →
   ∃ t, PSs (cxOf (CX1 P w) P w K mg base N qual (defScope st) f cdv A outer s H E) (defBody st) t ∧ t { nx := fun _ H' => Q .non H', rt := Q } (start N vs) H) : MetX P w K mg base C m (k + 1) ps sp := by
 obtain ⟨f, fd, F, m, b⟩ := F.ex
 exact ⟨f, fd, F.okX S len (hbody f), m, .all b⟩
theorem AtI.okX {C : Addr} {qual : Str} {st : Stmt} {ps N : List Str} {k : Nat} {sp : Sp} (F : AtI K C qual st ps) (S : FnScope N ps (defScope st)) (len : ∀ vs H Q E, sp vs H Q E → vs.length = ps.length)
  (hbody : ∀ (f : Addr) (cdv : Value) (A : Around) (outer : List Env) (s : Shared) (H : Hp) (vs : List V) (Q : VK) (E : XK), Room k (A.deeper (envOfC qual (defScope st) s.heap.objs.size f cdv)) → sp vs H Q E →
   ∃ t, PSs (cxOf (CX1 P w) P w K mg base N qual (defScope st) f cdv A outer s H E) (defBody st) t ∧ t { nx := fun _ H' => Q .non H', rt := Q } (start N vs) H) : InitX P w K mg base C (k + 1) ps sp := by
 obtain ⟨f, fd, F, m, b⟩ := F.ex
 exact ⟨f, fd, F.okX S len (hbody f), m, .all b⟩
theorem Z287 {x y : Str} {st : Stmt} {k : Nat} {sp : Sp} {fa : Addr} (F : At K mg y st [x]) (D : ∀ base, DefX P w K mg base y k [x] sp) (hmg : mg y = some (.ref fa)) :
  ∃ fd : FuncData, (∀ (s : Shared) (u : Value), BindsTo s fd ⟨[u], []⟩ [(x, u)]) ∧ ∀ base : Heap, K.In base → base.Ns mainGlobals mg → FnOk P w K mg base (CX1 P w) k fa fd [x] sp := by
 obtain ⟨f, fd, F, m, b⟩ := F.ex
 rw [m] at hmg
 cases hmg
 refine ⟨fd, fun s u => .of_eq (b [u] rfl), fun base _ _ => ?_⟩
 obtain ⟨f', fd', G, m', _, _, _, _, _, lk'⟩ := (D base).ex
 rw [m] at m'
 cases m'
 obtain ⟨oc, od, _, _, _, _, _, _, osl, _, lk, _⟩ := id F.ex
 rw [lk] at lk'
 cases lk'
 exact G
end
section
variable {X : Cx} {x m : Str} {C : Addr} {k : Nat} {ps : List Str} {sp : Sp} {p pos apos : Pos} {e o : Expr} {es : List Expr} {t : TA} {ta : TE} {E : XK}
end

noncomputable def PassT (X : Cx) (EX : St → XK) : Prop := ∀ (pins : List (Addr × Obj)) (σ : St) (H : Hp) (s : Shared) (e : Value) (s' : Shared), Inv X pins σ H s → CX1 X.prog X.w X.stack H s (EX σ) e s' → X.xe e s'
theorem passT0 {X : Cx} : PassT X fun _ => E0 := by
 rintro pins σ Hc sc e s' I ⟨_, _, _, _, _, _, _, _, _, _, _, _, _, _, q⟩
 exact q.elim
theorem passTX {P : Program} {w : World} {K : PySem.W.Frag} {mg : Str → Option Value} {base : Heap} {N : List Str} {qual : Str} {scope : Scope} {f : Addr} {cd : Value} {A : Around} {outer : List Env} {s : Shared} {H : Hp} {E : XK} :
  PassT (cxOf (CX1 P w) P w K mg base N qual scope f cd A outer s H E) fun _ => E := fun pins σ Hc sc e s' I c => passX pins σ Hc sc e s' I c
noncomputable def tCallT (sp : Sp) (EX : St → XK) (t : TA) : TE := fun σ H Q => t σ H fun vs H1 => sp vs H1 Q (EX σ)
noncomputable def tMetT (C : Addr) (m : Str) (sp : Sp) (EX : St → XK) (ta : TE) (t : TA) : TE := fun σ H Q => ta σ H fun x H1 => ∃ a dx fs, x = .ref a ∧ H1 a = some (.ins C dx fs) ∧ fs.lookup m = none ∧ t σ H1 fun vs H2 => sp (x :: vs) H2 Q (EX σ)
noncomputable def tMkT (C : Addr) (sp : Sp) (EX : St → XK) (t : TA) : TE := fun σ H Q => t σ H fun vs H1 => ∀ x dx, H1 x = none → H1 dx = none → dx ≠ x →
 sp (.ref x :: vs) (upd (upd H1 dx (.own x)) x (.ins C dx [])) (fun v H2 => v = .non ∧ Q (.ref x) H2) (EX σ)
section
variable {X : Cx} {x m : Str} {C f : Addr} {fd : FuncData} {k : Nat} {ps : List Str} {sp : Sp} {p pos apos : Pos} {e o : Expr} {es : List Expr} {t : TA} {ta : TE} {EX : St → XK}
theorem Z517 {pins : List (Addr × Obj)} {σ : St} {H : Hp} {s : Shared} {Q : VK} {us : List Value} {vs : List V} (F : FnOk X.prog X.w X.K X.mg X.base (CX1 X.prog X.w) k f fd ps sp) (hr : Room k X.A) (hb : Binds X.K fd ps []) (hx : PassT X EX)
  (I : Inv X pins σ H s) (r : Vals vs us) (h : sp vs H Q (EX σ)) : wpAny (model X.prog X.w) X.A (call (.ref f) us) (EP X pins σ Q) X.xe s := by
 have hl : (us ++ []).length = ps.length := by rw [List.append_nil, ← r.length]; exact F.len _ _ _ _ h
 have hbb := hb s us I.kIn hl
 rw [List.append_nil] at hbb
 refine wpAny_call (codeAny_mono (F.run X.A X.stack s H ⟨us, []⟩ us vs Q (EX σ) hr I.env0 hbb r h) fun r s' hq => ?_)
 cases r with
 | error e => exact hx pins σ H s e s' I hq
 | ok fl =>
  cases fl with
  | ret u => exact I.after hq
  | next => exact False.elim hq
  | brk => exact False.elim hq
  | cont => exact False.elim hq
theorem Z407 (D : DefX X.prog X.w X.K X.mg X.base x k ps sp) (hr : Room k X.A) (hx : PassT X EX) (ha : PA X (e :: es) t) (hg : Gl X x := by rfl) (hdb : (x == ("__debug__" : Str)) = false := by decide)
  (he : starEach (e :: es) X.env = (false, eval e X.env) :: starEach es X.env := by rfl) (hpl : (backTo pos (starEach es X.env)).any (·.1) = false := by rfl) :
  PE X (.Call (.Name x p) (e :: es) [] pos) (tCallT sp EX t) := by
 obtain ⟨f, fd, G, hm, kp, b, _⟩ := D.ex
 intro pins s σ H Q I h
 refine wpAny_Call_Name_kw (Z299 I hg hm ?_ hdb)
 refine PySem.W.callWith_K (h₀ := X.base) I.ok.mod.kin kp (thn (ha pos pins s σ H _ I h) fun us s1 ⟨vs, H1, I1, r, q⟩ => ⟨I1.kIn, ?_⟩) he hpl
 exact Z517 G hr b hx I1 r q
theorem Z413 {pl : Sem Bool} (D : MetX X.prog X.w X.K X.mg X.base C m k ps sp) (c : Cls X.K C) (hr : Room k X.A) (hx : PassT X EX) (ho : PE X o ta) (ha : PA X (e :: es) t)
  (hst : starEach (e :: es) X.env = (false, eval e X.env) :: starEach es X.env := by rfl) (hpl : (backTo pos (starEach es X.env)).any (·.1) = false := by rfl)
  (ht : eval (.Call (.Attribute o m apos) (e :: es) [] pos) X.env = (do
   let ov ← eval o X.env
   standAt apos.atName
   let (f, first) ← holding [ov] (getMethod ov m pl)
   callWith pos f first (backTo pos (starEach (e :: es) X.env)) (backToKw pos (keywordEach [] X.env))) := by rfl) :
  PE X (.Call (.Attribute o m apos) (e :: es) [] pos) (tMetT C m sp EX ta t) := by
 obtain ⟨f, fd, G, hm, b⟩ := D.ex
 intro pins s σ H Q I h
 refine PySem.W.methodCall_KW (pl := pl) (thn (ho pins s σ H _ I h) fun u s1 ⟨x, H1, I1, rx, a, dx, fs, ex, ea, l, q⟩ => ?_) ht
 subst ex
 obtain rfl : u = Value.ref a := rx
 refine Z168 I1 ea c hm l ?_
 refine PySem.W.callWith_K (first := [.ref a]) (h₀ := X.base) I.ok.mod.kin hm.kp (thn (ha pos pins s1 σ H1 _ I1 q) fun us s2 ⟨vs, H2, I2, r, q2⟩ => ⟨I2.kIn, ?_⟩) hst hpl
 exact Z517 (us := .ref a :: us) (vs := .ref a :: vs) G hr b hx I2 (.cons rfl r) q2
theorem Z519 {pins : List (Addr × Obj)} {σ : St} {H : Hp} {s : Shared} {Q : VK} {us : List Value} {vs : List V} (M : Mk X.K C f) (F : FnOk X.prog X.w X.K X.mg X.base (CX1 X.prog X.w) k f fd ps sp) (hr : Room (k + 1) X.A) (hb : Binds X.K fd ps [])
  (I : Inv X pins σ H s) (r : Vals vs us) (h : ∀ x dx, H x = none → H dx = none → dx ≠ x → sp (.ref x :: vs) (upd (upd H dx (.own x)) x (.ins C dx [])) (fun v H2 => v = .non ∧ Q (.ref x) H2) E0) : wpAny (model X.prog X.w) X.A (call (.ref C) us) (EP X pins σ Q) X.xe s :=
 Z518 (E := E0) (dvs := []) (ds := []) M F hr hb .nil pass1 I r fun x dx h1 h2 h3 => by rw [List.append_nil]; exact h x dx h1 h2 h3
theorem Z414 (D : InitX X.prog X.w X.K X.mg X.base C k ps sp) (hr : Room (k + 1) X.A) (hm : X.mg x = some (.ref C)) (ha : PA X (e :: es) t) (hg : Gl X x := by rfl) (hdb : (x == ("__debug__" : Str)) = false := by decide)
  (he : starEach (e :: es) X.env = (false, eval e X.env) :: starEach es X.env := by rfl) (hpl : (backTo pos (starEach es X.env)).any (·.1) = false := by rfl) : PE X (.Call (.Name x p) (e :: es) [] pos) (tMkT C sp (fun _ => E0) t) := by
 obtain ⟨f, fd, G, M, b⟩ := D.ex
 intro pins s σ H Q I h
 refine wpAny_Call_Name_kw (Z299 I hg hm ?_ hdb)
 refine PySem.W.callWith_K (h₀ := X.base) I.ok.mod.kin M.kp (thn (ha pos pins s σ H _ I h) fun us s1 ⟨vs, H1, I1, r, q⟩ => ⟨I1.kIn, ?_⟩) he hpl
 exact Z519 M G hr b I1 r q
end

structure Land (X : Cx) (pins : List (Addr × Obj)) (σ : St) (Hc : Hp) (sc : Shared) (H : Hp) (g : Heap) (Z : List Addr) (B : Heap) (ea t : Addr) (cls : Value) (s : Shared) : Prop where
 inv0 : Inv X pins σ Hc sc
 os : s.os = sc.os
 bare : AllBare s.gens
 un : Un (frs X.stack) [] Hc H sc.heap s.heap
 hok : HOk X.prog X.w H s.heap
 dom : ∀ b o, sc.heap.get? b = some o → ∃ o', g.get? b = some o'
 zz : ∀ z ∈ Z, sc.heap.objs.size ≤ z
 tr : ∀ a o, H a = some o → (∃ o', g.get? a = some o') ∧ a ∉ Z
 hB : ∀ b o, g.get? b = some o → b ∉ frs X.stack → b ∉ Z → B.get? b = some o
 fl : Heap.FlyingW B X.stack ea cls (.ref t) s.heap
section
variable {X : Cx} {pins : List (Addr × Obj)} {σ : St} {Hc H : Hp} {sc s : Shared} {g B : Heap} {Z : List Addr} {ea t : Addr} {cls : Value}
theorem Land.inv (L : Land X pins σ Hc sc H g Z B ea t cls s) : Inv X pins σ H s := L.inv0.call' (ch := []) L.os L.un L.hok L.bare fun b z => absurd z (by simp)
theorem Land.step {h' : Heap} (L : Land X pins σ Hc sc H g Z B ea t cls s) (fl' : Heap.FlyingW B X.stack ea cls (.ref t) h') (up : s.heap.UpToSlots h') : Land X pins σ Hc sc H g Z B ea t cls { s with heap := h' } := by
 obtain ⟨un', hok', _⟩ := Z159 L.inv0 L.un L.hok L.dom L.zz L.tr L.hB L.fl.1 fl'.1 (fun b hb => (L.fl.2.2.1.mem hb).2) up
 exact ⟨L.inv0, L.os, L.bare, un', hok', L.dom, L.zz, L.tr, L.hB, fl'⟩
noncomputable abbrev Cx.inH (X : Cx) (ea : Addr) : Cx := { X with A := X.A.mark (some (.ref ea)), calm := false, xe := fun _ _ => False }
theorem Cx.Ok.inH (ok : X.Ok) (ea : Addr) : (X.inH ea).Ok :=
 ⟨ok.mod, ok.kind, ok.glob, ok.blt, ok.above, ok.inj, ok.has, ok.cab, (fun z => by cases z), ok.frames, ok.stk, ok.exf, ok.bs, ok.bsz, ok.noex, ok.exfs, ok.funs, ok.frf⟩
theorem Inv.inH (I : Inv X pins σ H s) (ea : Addr) : Inv (X.inH ea) pins σ H s := ⟨I.ok.inH ea, I.os, I.bare, I.base, I.loc, I.cell, I.free, I.freeC, I.pin, I.hok, I.len⟩
theorem Inv.unH {ea : Addr} (I : Inv (X.inH ea) pins σ H s) (ok : X.Ok) : Inv X pins σ H s := ⟨ok, I.os, I.bare, I.base, I.loc, I.cell, I.free, I.freeC, I.pin, I.hok, I.len⟩
theorem SP.unH {ea : Addr} {D : Ends} {f : Flow} (h : SP (X.inH ea) pins D f s) (ok : X.Ok) : SP X pins D f s := by
 cases f with
 | next => obtain ⟨σ', H', I, q⟩ := h; exact ⟨σ', H', I.unH ok, q⟩
 | brk => obtain ⟨σ', H', I, q⟩ := h; exact ⟨σ', H', I.unH ok, q⟩
 | cont => obtain ⟨σ', H', I, q⟩ := h; exact ⟨σ', H', I.unH ok, q⟩
 | ret u => obtain ⟨v, σ', H', I, r, q⟩ := h; exact ⟨v, σ', H', I.unH ok, r, q⟩
end
noncomputable def PHs (X : Cx) (hs : List ExceptHandler) (th : Value → TS) : Prop :=
 ∀ (pins : List (Addr × Obj)) (σ : St) (Hc : Hp) (sc : Shared) (H : Hp) (g : Heap) (Z : List Addr) (B : Heap) (ea t : Addr) (cls : Value) (s : Shared) (D : Ends), Land X pins σ Hc sc H g Z B ea t cls s → th cls D σ H →
  wpAny (model X.prog X.w) X.A (handleBy (.ref ea) X.env hs) (SP X pins D) X.xe s
noncomputable def hNil : Value → TS := fun _ _ _ _ => False
noncomputable def hCons (K : PySem.W.Frag) (C : Addr) (ts : TS) (tr : Value → TS) : Value → TS := fun cls D σ H => ∃ b, PySem.W.exmOne K cls (.ref C) = some b ∧ if b = true then ts D σ H else tr cls D σ H
section
variable {X : Cx}
theorem Z428 : PHs X [] hNil := fun _ _ _ _ _ _ _ _ _ _ _ _ _ _ z => z.elim
theorem Z427 {x : Str} {C : Addr} {np hpos : Pos} {b0 : Stmt} {suite : List Stmt} {rest : List ExceptHandler} {ts : TS} {tr : Value → TS} (hm : X.mg x = some (.ref C)) (hsu : ∀ ea, PSs (X.inH ea) (b0 :: suite) ts) (hr : PHs X rest tr)
  (hg : Gl X x := by rfl) (hdb : (x == ("__debug__" : Str)) = false := by decide) : PHs X (.ExceptHandler (some (.Name x np)) none (b0 :: suite) hpos :: rest) (hCons X.K C ts tr) := by
 intro pins σ Hc sc H g Z B ea t cls s D L q
 obtain ⟨b, eb, q⟩ := q
 have I := L.inv
 obtain ⟨ob, hob, hcl⟩ := L.fl.there
 refine wpAny_handleBy_cons (codeAny_handlers_test (Z299 (X := X.inH ea) (I.inH ea) hg hm ?_ hdb)) (by intro z; cases z)
 have LT : PySem.W.Looks (model X.prog X.w) s.heap (typeOf (.ref ea)) cls := by
  rw [← hcl]
  exact (PySem.W.Looks.ld hob).andThen .now
 refine (PySem.W.exm_one I.kIn LT eb).here ?_
 cases b with
 | true =>
  rw [if_pos rfl] at q
  refine codeAny_handlers_suite (lands_againW L.fl fun h' fl' up => ?_)
  have L' := L.step fl' up
  exact wpAny_mono (hsu ea pins _ σ H D (L'.inv.inH ea) q) (fun f s2 z => z.unH I.ok) fun _ _ z => z.elim
 | false =>
  rw [if_neg Bool.false_ne_true] at q
  exact hr pins σ Hc sc H g Z B ea t cls s D L q
noncomputable abbrev Cx.tr (X : Cx) (pn : List (Addr × Obj)) (xe : Value → Shared → Prop) : Cx := { X with pn := pn, xe := xe }
noncomputable def tTry (tb : (St → XK) → TS) (th : Value → TS) : TS := fun D σ H => tb (fun σ' cls _ H' => th cls D σ' H') D σ H
theorem Z445 {body : List Stmt} {h0 : ExceptHandler} {hs : List ExceptHandler} {pos : Pos} {tb : (St → XK) → TS} {th : Value → TS} (hstk : X.stack = X.env :: X.outer) (hfr : X.env.frame = some X.env.locals)
  (hb : ∀ (pn : List (Addr × Obj)) (xe : Value → Shared → Prop) (EX : St → XK), PassT (X.tr pn xe) EX → PSs (X.tr pn xe) body (tb EX)) (hh : PHs X (h0 :: hs) th) : PS X (.Try body (h0 :: hs) [] [] pos) (tTry tb th) := by
 intro pins s σ H D I q
 have toY : ∀ {pins' : List (Addr × Obj)} {σ' : St} {H' : Hp} {s' : Shared} {xe : Value → Shared → Prop}, Inv (X.tr (X.pn ++ pins) xe) pins' σ' H' s' → Inv X pins σ' H' s' := fun J =>
  ⟨I.ok, J.os, J.bare, J.base, J.loc, J.cell, J.free, J.freeC, fun p hp => J.pin p (List.mem_append_left _ hp), J.hok, J.len⟩
 refine wpAny_Try_except ?_
 refine wpAny_mono (hb (X.pn ++ pins) (fun e s₁ => wpAny (model X.prog X.w) X.A (noteFrame e X.env) (fun _ s₂ => wpAny (model X.prog X.w) X.A (setFlight e none) (fun _ s₃ => wpAny (model X.prog X.w) X.A (handleBy e X.env (h0 :: hs)) (SP X pins D) X.xe s₃) X.xe s₂) X.xe s₁)
  (fun σ' cls _ H' => th cls D σ' H') ?_ [] s σ H D ?_ q) (fun fl s1 z => ?_) fun _ _ z => z
 ·rintro pins' σ' Hc sc e s' J ⟨ea, cls, H', g, Z, rfl, os, bare, un, hok, dom, zz, tr, ⟨B, t, fl, hB⟩, q'⟩
  have I' : Inv X pins σ' Hc sc := toY J
  have frm : X.A.frames = some (X.env :: X.outer) := by rw [← hstk]; exact I.ok.frames
  have L : Land X pins σ' Hc sc H' g Z B ea t cls s' := ⟨I', os, bare, un, hok, dom, zz, tr, hB, fl⟩
  have fl0 : Heap.FlyingW B (X.env :: X.outer) ea cls (.ref t) s'.heap := by rw [← hstk]; exact fl
  refine wpAny_looks_onW frm hfr fl0 fun h4 held up4 => wpAny_landsW held fun h5 fl5 up5 => ?_
  have fl5' : Heap.FlyingW B X.stack ea cls (.ref t) h5 := by rw [hstk]; exact fl5
  exact hh pins σ' Hc sc H' g Z B ea t cls _ D (L.step fl5' (up4.trans up5)) q'
 ·exact ⟨⟨I.ok.mod, I.ok.kind, I.ok.glob, I.ok.blt, I.ok.above, I.ok.inj, I.ok.has, I.ok.cab, I.ok.hd, I.ok.frames, I.ok.stk, I.ok.exf, I.ok.bs, I.ok.bsz, I.ok.noex, I.ok.exfs, I.ok.funs, I.ok.frf⟩,
   I.os, I.bare, I.base, I.loc, I.cell, I.free, I.freeC, fun p hp => I.pin p (by simpa using hp), I.hok, I.len⟩
 ·cases fl with
  | next => obtain ⟨σ', H', J, q⟩ := z; exact wpAny_execs_nil ⟨σ', H', toY J, q⟩
  | brk => obtain ⟨σ', H', J, q⟩ := z; exact ⟨σ', H', toY J, q⟩
  | cont => obtain ⟨σ', H', J, q⟩ := z; exact ⟨σ', H', toY J, q⟩
  | ret u => obtain ⟨v, σ', H', J, r, q⟩ := z; exact ⟨v, σ', H', toY J, r, q⟩
end
end L2
set_option Elab.async false
set_option linter.all false
set_option maxRecDepth 100000
namespace L2
open PySem PySem.Spec PyProof.Rows
section
variable {X : Cx}
theorem Z29 : ∀ {bs : List Bool} {us : List Value} (i : Nat) (v : Value), Vals (bs.map V.bl) us → us[i]? = some v → ∃ b, bs[i]? = some b ∧ v = .bool b
 | [], _, i, v, r, e => by cases r; simp at e
 | b :: bs, u :: _, 0, v, .cons r t, e => by
  have e' : u = v := by simpa using e
  subst e'
  exact ⟨b, rfl, r⟩
 | b :: bs, _, i + 1, v, .cons r t, e => by
  obtain ⟨c, h1, h2⟩ := Z29 i v t (by simpa using e)
  exact ⟨c, by simpa using h1, h2⟩
theorem call_all (hc : X.calm = true) : CallR X (.builtin "all") (fun xs H Q => ∃ (p : Addr) (bs : List Bool), xs = [.ref p] ∧ SqL X.K H p (bs.map V.bl) ∧ Q (.bl (bs.all id)) H) := by
 intro pins s σ H xs us Q I r h
 obtain ⟨p, bs, rfl, hq, q⟩ := h
 obtain ⟨u, rfl, ru⟩ := vals1 r
 cases ru
 obtain ⟨its, rv, pl, hz⟩ := I.list hq
 have hl := pl.isList
 have hlt : p < s.heap.objs.size := by obtain ⟨_, e, _⟩ := hl; exact Heap.lt_size e
 refine call_all_walk (wpAny_pyIter_list hl ?_)
 refine ⟨s.heap.objs.size, [s.heap.objs.size, p], [s.heap.objs.size], its.toArray.size, _, _, fun i => (bs[i]?).getD true, rfl, Walks.list (A := X.A.in1) (I.ok.hd hc) _ p (Nat.ne_of_lt hlt) its.toArray,
  ⟨⟨_, Heap.get?_push_size _ rfl, rfl, rfl⟩, hl.push _⟩, fun i v s' Q' E' hP hQ => ?_, fun h' tk hk => ?_⟩
 ·obtain ⟨b, e, rfl⟩ := Z29 i v rv (by simpa using hP)
  have hQ : Q' ((bs[i]?).getD true) s' := hQ
  rw [e] at hQ
  exact wpAny_truthy_bool hQ
 ·have e : ((List.range its.toArray.size).all fun i => (bs[i]?).getD true) = bs.all id := by
   have hlen := rv.length
   rw [List.length_map] at hlen
   rw [List.size_toArray, ← hlen]
   exact LSm.range_all bs
  rw [e]
  exact ⟨.bl (bs.all id), H, I.kept (LSm.kept_iter hk), rfl, q⟩
end
namespace KQ
theorem call_all {X : Cx} (K : PySem.W.Frag) (hc : X.calm = true) (hK : X.K = K := by rfl) : CallR X (.builtin "all") (fun xs H Q => ∃ (p : Addr) (bs : List Bool), xs = [.ref p] ∧ SqL K H p (bs.map V.bl) ∧ Q (.bl (bs.all id)) H) := by subst hK; exact L2.call_all hc
end KQ

inductive Dt where
 | non | bl (b : Bool) | int (i : Int) | str (x : Str) | lst (l : List Dt) | tup (l : List Dt)
mutual
noncomputable def Dt.dep : Dt → Nat
 | .lst l => Dt.deps l + 1
 | .tup l => Dt.deps l + 1
 | _ => 1
noncomputable def Dt.deps : List Dt → Nat
 | [] => 0
 | d :: r => max d.dep (Dt.deps r)
end
mutual
noncomputable def Dt.eq : Dt → Dt → Bool
 | .non, .non => true
 | .bl a, .bl b => a == b
 | .int a, .int b => a == b
 | .str a, .str b => a == b
 | .lst a, .lst b => Dt.eqs a b
 | .tup a, .tup b => Dt.eqs a b
 | _, _ => false
noncomputable def Dt.eqs : List Dt → List Dt → Bool
 | [], [] => true
 | a :: r, b :: q => Dt.eq a b && Dt.eqs r q
 | _, _ => false
end
mutual
theorem Dt.eq_iff : ∀ (a b : Dt), Dt.eq a b = true ↔ a = b
 | .non, b => by cases b <;> simp [Dt.eq]
 | .bl x, b => by cases b <;> simp [Dt.eq]
 | .int x, b => by cases b <;> simp [Dt.eq]
 | .str x, b => by cases b <;> simp [Dt.eq]
 | .lst l, b => by cases b <;> simp [Dt.eq, Dt.eqs_iff l]
 | .tup l, b => by cases b <;> simp [Dt.eq, Dt.eqs_iff l]
theorem Dt.eqs_iff : ∀ (a b : List Dt), Dt.eqs a b = true ↔ a = b
 | [], b => by cases b <;> simp [Dt.eqs]
 | x :: r, b => by cases b <;> simp [Dt.eqs, Dt.eq_iff x, Dt.eqs_iff r]
end
mutual
noncomputable def RelD (H : Hp) : Dt → V → Prop
 | .non, x => x = .non
 | .bl b, x => x = .bl b
 | .int i, x => x = .int i
 | .str y, x => x = .str y
 | .lst l, x => ∃ a xs, x = .ref a ∧ H a = some (.lst xs) ∧ xs.length < sizeLine ∧ RelDs H l xs
 | .tup l, x => ∃ a xs, x = .ref a ∧ H a = some (.tup xs) ∧ xs.length < sizeLine ∧ RelDs H l xs
noncomputable def RelDs (H : Hp) : List Dt → List V → Prop
 | [], [] => True
 | d :: l, v :: r => RelD H d v ∧ RelDs H l r
 | _, _ => False
end
theorem RelDs.length {H : Hp} : ∀ {l : List Dt} {xs : List V}, RelDs H l xs → xs.length = l.length
 | [], [], _ => rfl
 | [], _ :: _, h => h.elim
 | _ :: _, [], h => h.elim
 | d :: l, v :: r, h => by simp [RelDs.length (l := l) (xs := r) h.2]
theorem RelDs.get {H : Hp} : ∀ {l : List Dt} {xs : List V} {i : Nat} {d : Dt}, RelDs H l xs → l[i]? = some d → ∃ v, xs[i]? = some v ∧ RelD H d v
 | [], _, _, _, _, e => by simp at e
 | _ :: _, [], _, _, h, _ => h.elim
 | d :: l, v :: r, 0, d', h, e => by
  have e' : d = d' := by simpa using e
  subst e'
  exact ⟨v, rfl, h.1⟩
 | d :: l, v :: r, i + 1, d', h, e => by
  obtain ⟨u, h1, h2⟩ := RelDs.get (l := l) (xs := r) (i := i) (d := d') h.2 (by simpa using e)
  exact ⟨u, by simpa using h1, h2⟩
mutual
theorem RelD.keep {H H' : Hp} (k : ∀ a xs, (H a = some (.lst xs) → H' a = some (.lst xs)) ∧ (H a = some (.tup xs) → H' a = some (.tup xs))) : ∀ {d : Dt} {x : V}, RelD H d x → RelD H' d x
 | .non, _, h => h
 | .bl _, _, h => h
 | .int _, _, h => h
 | .str _, _, h => h
 | .lst l, _, ⟨a, xs, e, h1, z, h2⟩ => ⟨a, xs, e, (k a xs).1 h1, z, RelDs.keep k h2⟩
 | .tup l, _, ⟨a, xs, e, h1, z, h2⟩ => ⟨a, xs, e, (k a xs).2 h1, z, RelDs.keep k h2⟩
theorem RelDs.keep {H H' : Hp} (k : ∀ a xs, (H a = some (.lst xs) → H' a = some (.lst xs)) ∧ (H a = some (.tup xs) → H' a = some (.tup xs))) : ∀ {l : List Dt} {xs : List V}, RelDs H l xs → RelDs H' l xs
 | [], [], _ => trivial
 | [], _ :: _, h => h.elim
 | _ :: _, [], h => h.elim
 | d :: l, v :: r, h => ⟨RelD.keep k h.1, RelDs.keep k h.2⟩
end
theorem RelD.same {H H' : Hp} (sm : Same H H') {d : Dt} {x : V} (h : RelD H d x) : RelD H' d x := h.keep fun a xs => ⟨fun e => sm _ _ e, fun e => sm _ _ e⟩
theorem Dt.deps_le {l : List Dt} {i : Nat} {d : Dt} (h : l[i]? = some d) : d.dep ≤ Dt.deps l := by
 induction l generalizing i with
 | nil => simp at h
 | cons e r ih =>
  cases i with
  | zero =>
   have : e = d := by simpa using h
   subst this
   unfold Dt.deps
   omega
  | succ i =>
   have := ih (i := i) (by simpa using h)
   unfold Dt.deps
   omega
theorem Dt.dep_pos (d : Dt) : 1 ≤ d.dep := by cases d <;> simp [Dt.dep]
theorem Dt.eqs_all {l l' : List Dt} (hl : l.length = l'.length) : Dt.eqs l l' = (((List.range l'.length).map fun i => Dt.eq (l[i]?.getD .non) (l'[i]?.getD .non)).all id) := by
 induction l generalizing l' with
 | nil =>
  cases l' with
  | nil => rfl
  | cons b r => simp at hl
 | cons a l ih =>
  cases l' with
  | nil => simp at hl
  | cons b r =>
   have h := ih (l' := r) (by simpa using hl)
   rw [List.length_cons, List.range_succ_eq_map]
   simp only [Dt.eqs, h, List.map_cons, List.map_map, List.all_cons, List.getElem?_cons_zero, Option.getD_some, id]
   rfl
end L2
set_option Elab.async false
set_option linter.all false
set_option maxRecDepth 100000
namespace L2
open PySem PySem.Spec PyProof.Rows
theorem Z61 {P : Program} {w : World} {outer : List Env} {H : Hp} {s : Shared} {e : Value} {s' : Shared} (z : CX1 P w outer H s (fun _ _ _ => False) e s') : False := by
 obtain ⟨_, _, _, _, _, _, _, _, _, _, _, _, _, _, q⟩ := z
 exact q

section
variable {X : Cx} {K : PySem.W.Frag} {C : Addr} {e o value : Expr} {ta tv : TE} {f : Str} {pos pos' : Pos}
noncomputable def tFldC (C : Addr) (ta : TE) (f : Str) : TE := fun σ H Q => ta σ H fun x H1 => ∃ a dx fs v, x = .ref a ∧ H1 a = some (.ins C dx fs) ∧ fs.lookup f = some v ∧ Q v H1
theorem Z406 (c : Cls K C) (n : NoAttr K C f) (he : PE X e ta) (hb : attributeBase e f X.env (eval e X.env) = eval e X.env := by rfl) (hK : X.K = K := by rfl) : PE X (.Attribute e f pos) (tFldC C ta f) := by
 subst hK
 intro pins s σ H Q I h
 refine Z9 hb (thn (he pins s σ H _ I h) fun u s1 ⟨x, H1, I1, rx, a, dx, fs, v, ex, ea, l, q⟩ => ?_)
 subst ex
 cases (show u = Value.ref a from rx)
 exact Z167 I1 ea c n l fun u' s2 I2 ru => ⟨v, H1, I2, ru, q⟩
noncomputable def sFldC (C : Addr) (ta tv : TE) (f : Str) : TS := fun D σ H => tv σ H fun y H1 => ta σ H1 fun x H2 => ∃ a dx fs, x = .ref a ∧ H2 a = some (.ins C dx fs) ∧ fs.length < 1000 ∧ D.nx σ (upd H2 a (.ins C dx (putF f y fs)))
theorem Z440 (c : Cls K C) (n : NoAttr K C f) (ha : PE X o ta) (hv : PE X value tv) (hs : swapsWith value (some (.Attribute o f pos')) pos.line X.env = pure false := by rfl) (hK : X.K = K := by rfl) :
  PS X (.Assign [.Attribute o f pos'] value pos) (sFldC C ta tv f) := by
 subst hK
 intro pins s σ H D I h
 refine plainObj_wpAny_Assign_Attribute (thn (hv pins s σ H _ I h) fun u s1 ⟨y, H1, I1, ry, q⟩ => thn (ha pins s1 σ H1 _ I1 q) fun ov s2 ⟨x, H2, I2, rx, a, dx, fs, ex, ea, l, q2⟩ => ?_) hs
 subst ex
 cases (show ov = Value.ref a from rx)
 exact Z556 I2 ea c n l ry fun s3 I3 => ⟨σ, _, I3, q2⟩
end

namespace KQ
theorem ix_seq {X : Cx} (K : PySem.W.Frag) (hK : X.K = K := by rfl) : IxR X (rIx K) := by subst hK; exact L2.ix_seq
end KQ
theorem Same.seqT {K : PySem.W.Frag} {H H' : Hp} {a : Addr} {xs : List V} (e : Same H H') (h : SqT K H a xs) : SqT K H' a xs := by
 rcases h with (h | ⟨o, h⟩) | h
 ·exact .inl (.inl (e _ _ h))
 ·exact .inl (.inr ⟨o, e _ _ h⟩)
 ·exact .inr h

noncomputable def Dt.ty : Dt → String
 | .non => "NoneType" | .bl _ => "bool" | .int _ => "int" | .str _ => "str" | .lst _ => "list" | .tup _ => "tuple"
theorem RelD.ty {H : Hp} : ∀ {d : Dt} {x : V}, RelD H d x → IsTy H x d.ty
 | .non, _, h => by cases (show _ = V.non from h); rfl
 | .bl b, _, h => by cases (show _ = V.bl b from h); rfl
 | .int i, _, h => by cases (show _ = V.int i from h); rfl
 | .str y, _, h => by cases (show _ = V.str y from h); rfl
 | .lst l, _, ⟨a, xs, e, h1, _⟩ => by subst e; exact .inl ⟨rfl, xs, h1⟩
 | .tup l, _, ⟨a, xs, e, h1, _⟩ => by subst e; exact .inr (.inl ⟨rfl, xs, h1⟩)
noncomputable def Dt.isL : Dt → Bool
 | .lst _ => true
 | _ => false
noncomputable def Dt.isT : Dt → Bool
 | .tup _ => true
 | _ => false
noncomputable def Dt.isB : Dt → Bool
 | .bl _ => true
 | _ => false
noncomputable def Dt.isS : Dt → Bool
 | .str _ => true
 | _ => false
noncomputable def Dt.isN : Dt → Bool
 | .non => true
 | _ => false
noncomputable def Dt.isI : Dt → Bool
 | .int _ => true
 | _ => false
theorem Z259 : ∀ N ∈ ["NoneType", "bool", "int", "str", "list", "tuple"], ∀ T ∈ ["list", "tuple", "bool", "str", "int"], (kit0 N T).isSome = true := by decide +kernel
theorem Dt.ty_mem (d : Dt) : d.ty ∈ ["NoneType", "bool", "int", "str", "list", "tuple"] := by cases d <;> simp [Dt.ty]
theorem Dt.kit (d : Dt) {T : String} (h : T ∈ ["list", "tuple", "bool", "str", "int"]) : (kit0 d.ty T).isSome = true := Z259 _ d.ty_mem _ h
theorem Dt.sub_list (d : Dt) : subT d.ty "list" = d.isL := by cases d <;> (first | rfl | decide +kernel | (simp only [Dt.ty, Dt.isL]; decide +kernel))
theorem Dt.sub_tuple (d : Dt) : subT d.ty "tuple" = d.isT := by cases d <;> (simp only [Dt.ty, Dt.isT]; decide +kernel)
theorem Dt.sub_bool (d : Dt) : subT d.ty "bool" = d.isB := by cases d <;> (simp only [Dt.ty, Dt.isB]; decide +kernel)
theorem Dt.sub_str (d : Dt) : subT d.ty "str" = d.isS := by cases d <;> (simp only [Dt.ty, Dt.isS]; decide +kernel)
theorem Dt.sub_int (d : Dt) : subT d.ty "int" = (d.isI || d.isB) := by cases d <;> (simp only [Dt.ty, Dt.isI, Dt.isB]; decide +kernel)
theorem Dt.eq_false {d d' : Dt} (h : d ≠ d') : Dt.eq d d' = false := by
 cases q : Dt.eq d d' with
 | false => rfl
 | true => exact absurd ((Dt.eq_iff d d').mp q) h
theorem Dt.eq_non (d : Dt) : Dt.eq d .non = d.isN := by cases d <;> rfl
theorem Z28 (a b : Bool) : decide (V.bl a = V.bl b) = (a == b) := by cases a <;> cases b <;> rfl
theorem RelD.isNon {H : Hp} {d : Dt} {x : V} (h : RelD H d x) : decide (x = V.non) = d.isN := by
 cases d with
 | non => cases (show x = V.non from h); rfl
 | bl b => cases (show x = V.bl b from h); rfl
 | int i => cases (show x = V.int i from h); rfl
 | str y => cases (show x = V.str y from h); rfl
 | lst l => obtain ⟨a, xs, e, _⟩ := h; subst e; rfl
 | tup l => obtain ⟨a, xs, e, _⟩ := h; subst e; rfl
end L2
set_option Elab.async false
set_option linter.all false
set_option maxRecDepth 100000

namespace RM
open PySem PySem.Spec PyProof.Rows L2
inductive NK where
 | tup | lst (m : Bool) | dic (m : Bool) (ks : List Key) | dit (m : Bool) (ks : List (List Key)) | ins (m : Bool) (C : Addr) (ns : List Str)
 | kst (K : PySem.W.Frag)
inductive D where
 | at (v : V) | nd (k : NK) (l : List D)
inductive T where
 | at (v : V) | nd (a : Addr) (k : NK) (l : List T)
instance : Inhabited T := ⟨.at .non⟩
instance : Inhabited D := ⟨.at .non⟩
noncomputable def NK.mut : NK → Bool
 | .tup => false | .lst m => m | .dic m _ => m | .dit m _ => m | .ins m _ _ => m | .kst _ => false
noncomputable def NK.out : NK → Bool
 | .kst _ => true | _ => false
theorem NK.mut_out {k : NK} (h : k.mut = true) : k.out = false := by cases k <;> first | rfl | cases h
noncomputable def NodeOk (H : Hp) (a : Addr) : NK → List V → Prop
 | .tup, vs => H a = some (.tup vs)
 | .lst true, vs => H a = some (.lst vs)
 | .lst false, vs => Rd H a (.lst vs)
 | .dic _ ks, vs => ks.length = vs.length ∧ ks.Nodup ∧ H a = some (.dK (ks.zip vs))
 | .dit _ ks, vs => ks.length = vs.length ∧ ks.Nodup ∧ H a = some (.dT (ks.zip vs))
 | .ins _ C ns, vs => ns.length = vs.length ∧ ∃ dx, H a = some (.ins C dx (ns.zip vs))
 | .kst K, vs => ∃ (o : Obj) (its : Array Value) (n : Nat), K.lookup a = some o ∧ o.cls = .type "list" ∧ o.dict = none ∧ o.data = .seq its n ∧ its.size ≤ sizeLine ∧ Vals vs its.toList
theorem NodeOk.keep {H H' : Hp} {a : Addr} {k : NK} {vs : List V} (h : NodeOk H a k vs) (e : k.out = true ∨ H' a = H a) : NodeOk H' a k vs := by
 rcases e with e | e
 ·cases k with
  | kst K => exact h
  | _ => cases e
 cases k with
 | tup => exact e.trans h
 | lst m => cases m with
  | true => exact e.trans h
  | false => unfold NodeOk Rd at *; rw [e]; exact h
 | dic m ks => exact ⟨h.1, h.2.1, e.trans h.2.2⟩
 | dit m ks => exact ⟨h.1, h.2.1, e.trans h.2.2⟩
 | ins m C ns => obtain ⟨h1, dx, h2⟩ := h; exact ⟨h1, dx, e.trans h2⟩
 | kst K => exact h
theorem NodeOk.some {H : Hp} {a : Addr} {k : NK} {vs : List V} (h : NodeOk H a k vs) (hk : k.out = false) : H a ≠ none := by
 cases k with
 | tup => rw [show H a = _ from h]; simp
 | lst m => cases m with
  | true => rw [show H a = _ from h]; simp
  | false => rcases h with h | ⟨o, h⟩ <;> (rw [h]; simp)
 | dic m ks => rw [h.2.2]; simp
 | dit m ks => rw [h.2.2]; simp
 | ins m C ns => obtain ⟨h1, dx, h2⟩ := h; rw [h2]; simp
 | kst K => cases hk
noncomputable def cl : V → V
 | .ref _ => .flt 0 | v => v
noncomputable def T.val : T → V
 | .at v => v | .nd a _ _ => .ref a
mutual
noncomputable def T.er : T → D
 | .at v => .at (cl v) | .nd _ k l => .nd k (T.ers l)
noncomputable def T.ers : List T → List D
 | [] => [] | t :: r => t.er :: T.ers r
end
mutual
noncomputable def T.own : T → List Addr
 | .at _ => [] | .nd a k l => (if k.mut then [a] else []) ++ T.owns l
noncomputable def T.owns : List T → List Addr
 | [] => [] | t :: r => t.own ++ T.owns r
end
mutual
noncomputable def T.ro : T → List Addr
 | .at _ => [] | .nd a k l => (if k.mut || k.out then [] else [a]) ++ T.ros l
noncomputable def T.ros : List T → List Addr
 | [] => [] | t :: r => t.ro ++ T.ros r
end
mutual
noncomputable def T.ok (H : Hp) : T → Prop
 | .at _ => True | .nd a k l => NodeOk H a k (l.map T.val) ∧ T.oks H l
noncomputable def T.oks (H : Hp) : List T → Prop
 | [] => True | t :: r => t.ok H ∧ T.oks H r
end
mutual
noncomputable def D.imm : D → Bool
 | .at _ => true | .nd k l => !k.mut && D.imms l
noncomputable def D.imms : List D → Bool
 | [] => true | t :: r => t.imm && D.imms r
end

theorem T.owns_cons {t : T} {r : List T} : T.owns (t :: r) = t.own ++ T.owns r := rfl
theorem T.ros_cons {t : T} {r : List T} : T.ros (t :: r) = t.ro ++ T.ros r := rfl
theorem T.ers_eq : ∀ l : List T, T.ers l = l.map T.er
 | [] => rfl
 | t :: r => by rw [T.ers, T.ers_eq r]; rfl
theorem T.oks_iff {H : Hp} : ∀ {l : List T}, T.oks H l ↔ ∀ t ∈ l, t.ok H
 | [] => by simp [T.oks]
 | t :: r => by simp only [T.oks, T.oks_iff (l := r), List.mem_cons, forall_eq_or_imp]
theorem T.owns_app : ∀ l m : List T, T.owns (l ++ m) = T.owns l ++ T.owns m
 | [], m => rfl
 | t :: r, m => by simp only [List.cons_append, T.owns, T.owns_app r m, List.append_assoc]
theorem T.ros_app : ∀ l m : List T, T.ros (l ++ m) = T.ros l ++ T.ros m
 | [], m => rfl
 | t :: r, m => by simp only [List.cons_append, T.ros, T.ros_app r m, List.append_assoc]
theorem T.oks_app {H : Hp} {l m : List T} : T.oks H (l ++ m) ↔ T.oks H l ∧ T.oks H m := by
 simp only [T.oks_iff, List.mem_append]
 exact ⟨fun h => ⟨fun t z => h t (.inl z), fun t z => h t (.inr z)⟩, fun h t z => z.elim (h.1 t) (h.2 t)⟩
theorem T.mem_owns {a : Addr} : ∀ {l : List T}, a ∈ T.owns l ↔ ∃ t ∈ l, a ∈ t.own
 | [] => by simp [T.owns]
 | t :: r => by simp only [T.owns, List.mem_append, T.mem_owns (l := r), List.mem_cons, exists_eq_or_imp]
theorem T.mem_ros {a : Addr} : ∀ {l : List T}, a ∈ T.ros l ↔ ∃ t ∈ l, a ∈ t.ro
 | [] => by simp [T.ros]
 | t :: r => by simp only [T.ros, List.mem_append, T.mem_ros (l := r), List.mem_cons, exists_eq_or_imp]
mutual
theorem T.keep {H H' : Hp} : ∀ {t : T}, t.ok H → (∀ a, a ∈ t.own ∨ a ∈ t.ro → H' a = H a) → t.ok H'
 | .at _, _, _ => trivial
 | .nd a k l, h, e => by
  refine ⟨h.1.keep (by
   cases ko : k.out with
   | true => exact .inl rfl
   | false =>
    refine .inr (e a ?_)
    unfold T.own T.ro
    rw [ko]
    cases k.mut <;> simp), T.keeps h.2 fun b hb => e b ?_⟩
  ·unfold T.own T.ro
   rcases hb with hb | hb
   ·exact .inl (List.mem_append_right _ hb)
   ·exact .inr (List.mem_append_right _ hb)
theorem T.keeps {H H' : Hp} : ∀ {l : List T}, T.oks H l → (∀ a, a ∈ T.owns l ∨ a ∈ T.ros l → H' a = H a) → T.oks H' l
 | [], _, _ => trivial
 | t :: r, h, e => by
  refine ⟨T.keep h.1 fun a z => e a ?_, T.keeps h.2 fun a z => e a ?_⟩
  ·unfold T.owns T.ros
   rcases z with z | z
   ·exact .inl (List.mem_append_left _ z)
   ·exact .inr (List.mem_append_left _ z)
  ·unfold T.owns T.ros
   rcases z with z | z
   ·exact .inl (List.mem_append_right _ z)
   ·exact .inr (List.mem_append_right _ z)
end
mutual
theorem T.there {H : Hp} {a : Addr} : ∀ {t : T}, t.ok H → (a ∈ t.own ∨ a ∈ t.ro) → H a ≠ none
 | .at _, _, z => by simp [T.own, T.ro] at z
 | .nd b k l, h, z => by
  unfold T.own T.ro at z
  have : (a = b ∧ k.out = false) ∨ a ∈ T.owns l ∨ a ∈ T.ros l := by
   rcases z with z | z
   ·rcases List.mem_append.mp z with z | z
    ·left
     cases hm : k.mut with
     | true => rw [hm] at z; exact ⟨by simpa using z, NK.mut_out hm⟩
     | false => rw [hm] at z; simp at z
    ·exact .inr (.inl z)
   ·rcases List.mem_append.mp z with z | z
    ·left
     cases hm : (k.mut || k.out) with
     | true => rw [hm] at z; simp at z
     | false => rw [hm] at z; exact ⟨by simpa using z, by simp at hm; exact hm.2⟩
    ·exact .inr (.inr z)
  rcases this with ⟨rfl, ko⟩ | z
  ·exact h.1.some ko
  ·exact T.theres h.2 z
theorem T.theres {H : Hp} {a : Addr} : ∀ {l : List T}, T.oks H l → (a ∈ T.owns l ∨ a ∈ T.ros l) → H a ≠ none
 | [], _, z => by simp [T.owns, T.ros] at z
 | t :: r, h, z => by
  unfold T.owns T.ros at z
  rcases z with z | z
  ·rcases List.mem_append.mp z with z | z
   ·exact T.there h.1 (.inl z)
   ·exact T.theres h.2 (.inl z)
  ·rcases List.mem_append.mp z with z | z
   ·exact T.there h.1 (.inr z)
   ·exact T.theres h.2 (.inr z)
end
mutual
theorem T.imm_own : ∀ {t : T}, t.er.imm = true → t.own = []
 | .at _, _ => rfl
 | .nd a k l, h => by
  simp only [T.er, D.imm, Bool.and_eq_true, Bool.not_eq_true'] at h
  simp only [T.own, h.1, T.imms_own h.2]; rfl
theorem T.imms_own : ∀ {l : List T}, D.imms (T.ers l) = true → T.owns l = []
 | [], _ => rfl
 | t :: r, h => by
  simp only [T.ers, D.imms, Bool.and_eq_true] at h
  simp only [T.owns, T.imm_own h.1, T.imms_own h.2]; rfl
end


noncomputable def D.get : List Nat → D → Option D
 | [], d => some d
 | i :: p, .nd _ l => match l[i]? with | some c => c.get p | none => none
 | _ :: _, .at _ => none
noncomputable def T.get : List Nat → T → Option T
 | [], d => some d
 | i :: p, .nd _ _ l => match l[i]? with | some c => c.get p | none => none
 | _ :: _, .at _ => none
noncomputable def D.put (s : D) : List Nat → D → D
 | [], _ => s
 | i :: p, .nd k l => match l[i]? with | some c => .nd k (l.set i (D.put s p c)) | none => .nd k l
 | _ :: _, .at v => .at v
noncomputable def T.put (s : T) : List Nat → T → T
 | [], _ => s
 | i :: p, .nd a k l => match l[i]? with | some c => .nd a k (l.set i (T.put s p c)) | none => .nd a k l
 | _ :: _, .at v => .at v
theorem T.get_er : ∀ (p : List Nat) (t : T), t.er.get p = (t.get p).map T.er
 | [], t => rfl
 | i :: p, .at v => rfl
 | i :: p, .nd a k l => by
  simp only [T.er, D.get, T.get, T.ers_eq, List.getElem?_map]
  cases e : l[i]? with
  | none => rfl
  | some c => exact T.get_er p c
theorem T.put_er (s : T) : ∀ (p : List Nat) (t : T), (T.put s p t).er = D.put s.er p t.er
 | [], t => rfl
 | i :: p, .at v => rfl
 | i :: p, .nd a k l => by
  simp only [T.er, D.put, T.put, T.ers_eq, List.getElem?_map]
  cases e : l[i]? with
  | none => simp only [Option.map_none, T.er, T.ers_eq]
  | some c => simp only [Option.map_some, T.er, T.ers_eq, List.map_set, T.put_er s p c]
theorem T.put_val {s s' : T} : ∀ {p : List Nat} {t : T}, t.get p = some s → s'.val = s.val → (T.put s' p t).val = t.val
 | [], t, h, e => by cases h; exact e
 | i :: p, .at v, h, e => rfl
 | i :: p, .nd a k l, h, e => by
  simp only [T.put]
  cases l[i]? <;> rfl
theorem T.get_ok {H : Hp} {s : T} : ∀ {p : List Nat} {t : T}, t.get p = some s → t.ok H → s.ok H
 | [], t, h, e => by cases h; exact e
 | i :: p, .at v, h, e => by cases h
 | i :: p, .nd a k l, h, e => by
  simp only [T.get] at h
  cases q : l[i]? with
  | none => rw [q] at h; cases h
  | some c => rw [q] at h; exact T.get_ok h (T.oks_iff.mp e.2 c (List.mem_of_getElem? q))
theorem T.get_app : ∀ (p q : List Nat) (d : T), d.get (p ++ q) = (d.get p).bind (T.get q)
 | [], q, d => rfl
 | i :: p, q, .at v => rfl
 | i :: p, q, .nd _ k l => by
  simp only [List.cons_append, T.get]
  cases e : l[i]? with
  | none => rfl
  | some c => exact T.get_app p q c
theorem T.owns_get {i : Nat} {c : T} : ∀ {l : List T}, l[i]? = some c → ∃ x y, T.owns l = x ++ (c.own ++ y) ∧ ∀ c', T.owns (l.set i c') = x ++ (c'.own ++ y) := by
 induction i with
 | zero =>
  intro l h
  match l, h with
  | t :: r, h =>
   cases h
   exact ⟨[], T.owns r, rfl, fun c' => rfl⟩
 | succ i ih =>
  intro l h
  match l, h with
  | t :: r, h =>
   obtain ⟨x, y, e, f⟩ := ih (l := r) (by simpa using h)
   exact ⟨t.own ++ x, y, by simp only [T.owns, e, List.append_assoc], fun c' => by simp only [List.set_cons_succ, T.owns, f c', List.append_assoc]⟩
theorem T.ros_get {i : Nat} {c : T} : ∀ {l : List T}, l[i]? = some c → ∃ x y, T.ros l = x ++ (c.ro ++ y) ∧ ∀ c', T.ros (l.set i c') = x ++ (c'.ro ++ y) := by
 induction i with
 | zero =>
  intro l h
  match l, h with
  | t :: r, h =>
   cases h
   exact ⟨[], T.ros r, rfl, fun c' => rfl⟩
 | succ i ih =>
  intro l h
  match l, h with
  | t :: r, h =>
   obtain ⟨x, y, e, f⟩ := ih (l := r) (by simpa using h)
   exact ⟨t.ro ++ x, y, by simp only [T.ros, e, List.append_assoc], fun c' => by simp only [List.set_cons_succ, T.ros, f c', List.append_assoc]⟩
structure Ctx (t : T) (p : List Nat) (s : T) (c r : List Addr) : Prop where
 own : t.own.Perm (c ++ s.own)
 ro : t.ro.Perm (r ++ s.ro)
 own' : ∀ s', (T.put s' p t).own.Perm (c ++ s'.own)
 ro' : ∀ s', (T.put s' p t).ro.Perm (r ++ s'.ro)
 ok : ∀ {H H' : Hp} {s' : T}, t.ok H → (∀ a, a ∈ c ∨ a ∈ r → H' a = H a) → s'.ok H' → s'.val = s.val → (T.put s' p t).ok H'
theorem pm3 {α : Type} {x y a c : List α} {k : List α} (h : a.Perm (c ++ k)) : (x ++ (a ++ y)).Perm ((x ++ (c ++ y)) ++ k) := by
 rw [List.append_assoc]
 refine List.Perm.append_left x ?_
 refine (h.append_right y).trans ?_
 rw [List.append_assoc, List.append_assoc]
 exact List.Perm.append_left c List.perm_append_comm
theorem T.ctx {s : T} : ∀ {p : List Nat} {t : T}, t.get p = some s → ∃ c r, Ctx t p s c r
 | [], t, h => by
  cases h
  exact ⟨[], [], .refl _, .refl _, fun _ => .refl _, fun _ => .refl _, fun _ _ h _ => h⟩
 | i :: p, .at v, h => by cases h
 | i :: p, .nd a k l, h => by
  simp only [T.get] at h
  cases q : l[i]? with
  | none => rw [q] at h; cases h
  | some ch =>
   rw [q] at h
   obtain ⟨c, r, C⟩ := T.ctx (p := p) h
   obtain ⟨x, y, e1, e2⟩ := T.owns_get q
   obtain ⟨x', y', f1, f2⟩ := T.ros_get q
   have put : ∀ s', T.put s' (i :: p) (.nd a k l) = .nd a k (l.set i (T.put s' p ch)) := fun s' => by simp only [T.put, q]
   refine ⟨(if k.mut then [a] else []) ++ (x ++ (c ++ y)), (if k.mut || k.out then [] else [a]) ++ (x' ++ (r ++ y')), ?_, ?_, fun s' => ?_, fun s' => ?_, fun {H H' s'} ho he hs hv => ?_⟩
   ·simp only [T.own, e1]; rw [List.append_assoc]; exact List.Perm.append_left _ (pm3 C.own)
   ·simp only [T.ro, f1]; rw [List.append_assoc]; exact List.Perm.append_left _ (pm3 C.ro)
   ·rw [put]; simp only [T.own, e2]; rw [List.append_assoc]; exact List.Perm.append_left _ (pm3 (C.own' s'))
   ·rw [put]; simp only [T.ro, f2]; rw [List.append_assoc]; exact List.Perm.append_left _ (pm3 (C.ro' s'))
   ·rw [put]
    have hm := List.mem_of_getElem? q
    have hch : (T.put s' p ch).ok H' := C.ok (T.oks_iff.mp ho.2 ch hm) (fun b hb => he b (by
     rcases hb with hb | hb
     ·exact .inl (by simp [hb])
     ·exact .inr (by simp [hb]))) hs hv
    have hvs : (l.set i (T.put s' p ch)).map T.val = l.map T.val := by
     rw [List.map_set, T.put_val h hv]
     refine List.ext_getElem? fun j => ?_
     rw [List.getElem?_set]
     by_cases hj : i = j
     ·subst hj
      rw [if_pos rfl, List.getElem?_map, q, if_pos (by simpa using (List.getElem?_eq_some_iff.mp q).1)]; rfl
     ·rw [if_neg hj]
    refine ⟨?_, T.oks_iff.mpr fun t ht => ?_⟩
    ·rw [hvs]
     refine ho.1.keep ?_
     cases ko : k.out with
     | true => exact .inl rfl
     | false =>
      refine .inr (he a ?_)
      rw [ko]
      cases k.mut <;> simp
    ·obtain ⟨j, hj⟩ := List.mem_iff_getElem?.mp ht
     rw [List.getElem?_set] at hj
     by_cases hij : i = j
     ·rw [if_pos hij] at hj
      split at hj
      ·cases hj; exact hch
      ·cases hj
     ·rw [if_neg hij] at hj
      have tok := T.oks_iff.mp ho.2 t (List.mem_of_getElem? hj)
      refine T.keep tok fun b hb => he b ?_
      rcases hb with hb | hb
      ·left
       have h2 : b ∈ T.owns (l.set i (.at .non)) := T.mem_owns.mpr ⟨t, List.mem_of_getElem? (by rw [List.getElem?_set, if_neg hij]; exact hj), hb⟩
       rw [e2] at h2
       simp only [T.own, List.nil_append, List.mem_append] at h2 ⊢
       rcases h2 with h2 | h2 <;> simp [h2]
      ·right
       have h2 : b ∈ T.ros (l.set i (.at .non)) := T.mem_ros.mpr ⟨t, List.mem_of_getElem? (by rw [List.getElem?_set, if_neg hij]; exact hj), hb⟩
       rw [f2] at h2
       simp only [T.ro, List.nil_append, List.mem_append] at h2 ⊢
       rcases h2 with h2 | h2 <;> simp [h2]
end RM
set_option Elab.async false
set_option linter.all false
set_option maxRecDepth 100000

namespace RM
open PySem PySem.Spec PyProof.Rows L2
inductive DL where
 | non | own (w : Bool) (d : D) | bor (k : Nat) (p : List Nat)
inductive TL where
 | non | own (w : Bool) (t : T) | bor (k : Nat) (p : List Nat) (a : Addr)
inductive DV where
 | val (d : D) | plc (k : Nat) (p : List Nat)
inductive TV where
 | val (t : T) | plc (k : Nat) (p : List Nat) (a : Addr)
noncomputable abbrev Sd := List DL
noncomputable abbrev Ts := List TL
noncomputable def TL.er : TL → DL
 | .non => .non | .own w t => .own w t.er | .bor k p _ => .bor k p
noncomputable def TV.er : TV → DV
 | .val t => .val t.er | .plc k p _ => .plc k p
noncomputable def TL.own1 : TL → List Addr
 | .own true t => t.own | _ => []
noncomputable def TL.ro1 : TL → List Addr
 | .own _ t => t.ro | _ => []
noncomputable def TL.rd1 : TL → List Addr
 | .own false t => t.own | _ => []
noncomputable def ownS (ts : Ts) : List Addr := ts.flatMap TL.own1
noncomputable def roS (ts : Ts) : List Addr := ts.flatMap TL.ro1
noncomputable def rdS (ts : Ts) : List Addr := ts.flatMap TL.rd1
noncomputable def TV.tr : TV → List T
 | .val t => [t] | .plc _ _ _ => []
noncomputable def PlOk (ts : Ts) (k : Nat) (p : List Nat) (a : Addr) : Prop := ∃ w t s, ts[k]? = some (.own w t) ∧ t.get p = some s ∧ s.val = .ref a
noncomputable def TL.v : TL → Option V
 | .non => none | .own _ t => some t.val | .bor _ _ a => some (.ref a)
noncomputable def TvOk (ts : Ts) (v : V) : TV → Prop
 | .val t => v = t.val
 | .plc k p a => v = .ref a ∧ PlOk ts k p a
structure RC where
 H0 : Hp
 G : Addr → Prop
 B : Addr → Prop
 EX : L2.St → XK
 ad : Str → Addr
structure Cf (R : RC) (ix : List Nat) (hd : List (Nat × Addr)) (H : Hp) (σ : L2.St) (ts : Ts) (fr : List T) : Prop where
 ok : ∀ w t, TL.own w t ∈ ts → t.ok H
 fok : T.oks H fr
 nd : (ownS ts ++ T.owns fr).Nodup
 sep : ∀ a, a ∈ roS ts ∨ a ∈ T.ros fr → a ∉ ownS ts ∧ a ∉ T.owns fr ∧ ¬ R.B a
 rd : ∀ a, a ∈ rdS ts → a ∉ ownS ts ∧ a ∉ T.owns fr
 g : ∀ a, R.G a → H a = R.H0 a ∧ H a ≠ none ∧ a ∉ ownS ts ∧ a ∉ T.owns fr
 bg : ∀ a, R.B a → R.G a
 bor : ∀ (j k : Nat) (p : List Nat) (a : Addr), ts[j]? = some (TL.bor k p a) → PlOk ts k p a
 ixs : ∀ j ∈ ix, j < ts.length
 sl : ∀ (i j : Nat) (s : TL) (v : V), ix[i]? = some j → ts[j]? = some s → s.v = some v → σ[i]? = some (some v)
 hdi : ∀ (j : Nat) (a : Addr), (j, a) ∈ hd → j < ts.length
 hdx : ∀ (j : Nat) (a : Addr), (j, a) ∈ hd → j ∉ ix
 len : ix.length ≤ σ.length
 hdn : ∀ (j : Nat) (a : Addr), (j, a) ∈ hd → ∀ (s : TL) (v : V), ts[j]? = some s → s.v = some v → v = .ref a
theorem TvOk.er_val {ts : Ts} {v : V} {tv : TV} {d : D} (h : TvOk ts v tv) (e : tv.er = .val d) : ∃ t, tv = .val t ∧ t.er = d ∧ v = t.val := by
 cases tv with
 | val t => simp only [TV.er, DV.val.injEq] at e; exact ⟨t, rfl, e, h⟩
 | plc k p a => simp [TV.er] at e
theorem TvOk.er_plc {ts : Ts} {v : V} {tv : TV} {k : Nat} {p : List Nat} (h : TvOk ts v tv) (e : tv.er = .plc k p) : ∃ a, tv = .plc k p a ∧ v = .ref a ∧ PlOk ts k p a := by
 cases tv with
 | val t => simp [TV.er] at e
 | plc k' p' a => simp only [TV.er, DV.plc.injEq] at e; obtain ⟨rfl, rfl⟩ := e; exact ⟨a, rfl, h.1, h.2⟩
theorem Z324 {a : Addr} {ts : Ts} : a ∈ ownS ts ↔ ∃ t, TL.own true t ∈ ts ∧ a ∈ t.own := by
 unfold ownS
 rw [List.mem_flatMap]
 constructor
 ·rintro ⟨s, hs, h⟩
  cases s with
  | own w t => cases w with
   | true => exact ⟨t, hs, h⟩
   | false => simp [TL.own1] at h
  | _ => simp [TL.own1] at h
 ·rintro ⟨t, ht, h⟩
  exact ⟨_, ht, h⟩
theorem Z327 {a : Addr} {ts : Ts} : a ∈ roS ts ↔ ∃ w t, TL.own w t ∈ ts ∧ a ∈ t.ro := by
 unfold roS
 rw [List.mem_flatMap]
 constructor
 ·rintro ⟨s, hs, h⟩
  cases s with
  | own w t => exact ⟨w, t, hs, h⟩
  | _ => simp [TL.ro1] at h
 ·rintro ⟨w, t, ht, h⟩
  exact ⟨_, ht, h⟩
theorem Z326 {a : Addr} {ts : Ts} : a ∈ rdS ts ↔ ∃ t, TL.own false t ∈ ts ∧ a ∈ t.own := by
 unfold rdS
 rw [List.mem_flatMap]
 constructor
 ·rintro ⟨s, hs, h⟩
  cases s with
  | own w t => cases w with
   | false => exact ⟨t, hs, h⟩
   | true => simp [TL.rd1] at h
  | _ => simp [TL.rd1] at h
 ·rintro ⟨t, ht, h⟩
  exact ⟨_, ht, h⟩
section
variable {R : RC} {ix : List Nat} {hd : List (Nat × Addr)} {H : Hp} {σ : L2.St} {ts : Ts} {fr : List T}
theorem Cf.fresh (C : Cf R ix hd H σ ts fr) {a : Addr} (h : H a = none) : a ∉ ownS ts ∧ a ∉ roS ts ∧ a ∉ rdS ts ∧ a ∉ T.owns fr ∧ a ∉ T.ros fr ∧ ¬ R.G a := by
 refine ⟨fun z => ?_, fun z => ?_, fun z => ?_, fun z => ?_, fun z => ?_, fun z => (C.g a z).2.1 h⟩
 ·obtain ⟨t, ht, z⟩ := Z324.mp z; exact T.there (C.ok _ t ht) (.inl z) h
 ·obtain ⟨w, t, ht, z⟩ := Z327.mp z; exact T.there (C.ok _ t ht) (.inr z) h
 ·obtain ⟨t, ht, z⟩ := Z326.mp z; exact T.there (C.ok _ t ht) (.inl z) h
 ·exact T.theres C.fok (.inl z) h
 ·exact T.theres C.fok (.inr z) h
theorem Cf.at (C : Cf R ix hd H σ ts fr) (v : V) : Cf R ix hd H σ ts (.at v :: fr) :=
 ⟨C.ok, ⟨trivial, C.fok⟩, by simpa [T.owns, T.own] using C.nd, by simpa [T.owns, T.own, T.ros, T.ro] using C.sep, by simpa [T.owns, T.own] using C.rd, by simpa [T.owns, T.own] using C.g, C.bg, C.bor, C.ixs, C.sl, C.hdi, C.hdx, C.len, C.hdn⟩
theorem Cf.less {fr' : List T} {x : List Addr} (C : Cf R ix hd H σ ts fr) (ho : T.oks H fr') (h1 : (T.owns fr).Perm (T.owns fr' ++ x)) (h2 : ∀ a, a ∈ T.ros fr' → a ∈ T.ros fr ∨ a ∈ roS ts ∨ a ∈ x) : Cf R ix hd H σ ts fr' := by
 have m1 : ∀ a, a ∈ T.owns fr' → a ∈ T.owns fr := fun a z => h1.mem_iff.mpr (List.mem_append_left _ z)
 have nd := (List.Perm.append_left (ownS ts) h1).nodup_iff.mp C.nd
 rw [← List.append_assoc] at nd
 have nd1 := (List.nodup_append.mp nd)
 refine ⟨C.ok, ho, nd1.1, fun a z => ?_, fun a z => ⟨(C.rd a z).1, fun q => (C.rd a z).2 (m1 a q)⟩, fun a z => ⟨(C.g a z).1, (C.g a z).2.1, (C.g a z).2.2.1, fun q => (C.g a z).2.2.2 (m1 a q)⟩, C.bg, C.bor, C.ixs, C.sl, C.hdi, C.hdx, C.len, C.hdn⟩
 have old : a ∈ roS ts ∨ a ∈ T.ros fr → a ∉ ownS ts ∧ a ∉ T.owns fr' ∧ ¬ R.B a := fun z => ⟨(C.sep a z).1, fun q => (C.sep a z).2.1 (m1 a q), (C.sep a z).2.2⟩
 rcases z with z | z
 ·exact old (.inl z)
 ·rcases h2 a z with z | z | z
  ·exact old (.inr z)
  ·exact old (.inl z)
  ·refine ⟨fun q => nd1.2.2 a (List.mem_append_left _ q) a z rfl, fun q => nd1.2.2 a (List.mem_append_right _ q) a z rfl, fun q => ?_⟩
   exact (C.g a (C.bg a q)).2.2.2 (h1.mem_iff.mpr (List.mem_append_right _ z))
theorem Cf.drop {t : T} (C : Cf R ix hd H σ ts (t :: fr)) : Cf R ix hd H σ ts fr :=
 C.less (x := t.own) C.fok.2 (by rw [T.owns_cons]; exact List.perm_append_comm) fun a z => .inl (by rw [T.ros_cons]; exact List.mem_append_right _ z)
theorem Cf.drops {l : List T} (C : Cf R ix hd H σ ts (l ++ fr)) : Cf R ix hd H σ ts fr := by
 induction l with
 | nil => exact C
 | cons t r ih => exact ih C.drop
end
end RM
set_option Elab.async false
set_option linter.all false
set_option maxRecDepth 100000

namespace RM
open PySem PySem.Spec PyProof.Rows L2
inductive ER (α : Type) where
 | ok (a : α) (s : Sd) | ex (C : Str) (s : Sd) | no
inductive SR where
 | nx (s : Sd) | rt (r : DV) (s : Sd) | bk (s : Sd) | ct (s : Sd) | ex (C : Str) (s : Sd) | no
noncomputable abbrev EF := Sd → ER DV
noncomputable abbrev AF := Sd → ER (List DV)
noncomputable abbrev BF := Sd → ER Bool
noncomputable abbrev SF := Sd → SR
noncomputable def trs (tvs : List TV) : List T := tvs.flatMap TV.tr
inductive TvsOk (ts : Ts) : List V → List TV → Prop where
 | nil : TvsOk ts [] []
 | cons {v : V} {tv : TV} {vs : List V} {tvs : List TV} : TvOk ts v tv → TvsOk ts vs tvs → TvsOk ts (v :: vs) (tv :: tvs)
section
variable (R : RC) (ix : List Nat)
noncomputable def lE (f : EF) : TE := fun σ H Q => ∃ hd ts fr, Cf R ix hd H σ ts fr ∧ match f (ts.map TL.er) with
 | .ok r s' => ∀ H' ts' tv v, ts'.map TL.er = s' → tv.er = r → TvOk ts' v tv → Cf R ix hd H' σ ts' (tv.tr ++ fr) → Q v H'
 | .ex C s' => ∀ H' ts', ts'.map TL.er = s' → Cf R ix hd H' σ ts' fr → R.EX σ (.ref (R.ad C)) none H'
 | .no => False
noncomputable def lA (f : AF) : TA := fun σ H Q => ∃ hd ts fr, Cf R ix hd H σ ts fr ∧ match f (ts.map TL.er) with
 | .ok r s' => ∀ H' ts' tvs vs, ts'.map TL.er = s' → tvs.map TV.er = r → TvsOk ts' vs tvs → Cf R ix hd H' σ ts' (trs tvs ++ fr) → Q vs H'
 | .ex C s' => ∀ H' ts', ts'.map TL.er = s' → Cf R ix hd H' σ ts' fr → R.EX σ (.ref (R.ad C)) none H'
 | .no => False
noncomputable def lT (f : BF) : TT := fun σ H Q => ∃ hd ts fr, Cf R ix hd H σ ts fr ∧ match f (ts.map TL.er) with
 | .ok r s' => ∀ H' ts', ts'.map TL.er = s' → Cf R ix hd H' σ ts' fr → Q r H'
 | .ex C s' => ∀ H' ts', ts'.map TL.er = s' → Cf R ix hd H' σ ts' fr → R.EX σ (.ref (R.ad C)) none H'
 | .no => False
noncomputable def lS (f : SF) : L2.TS := fun D σ H => ∃ hd ts fr, Cf R ix hd H σ ts fr ∧ match f (ts.map TL.er) with
 | .nx s' => ∀ H' σ' ts', ts'.map TL.er = s' → Cf R ix hd H' σ' ts' fr → D.nx σ' H'
 | .rt r s' => ∀ H' σ' ts' tv v, ts'.map TL.er = s' → tv.er = r → TvOk ts' v tv → Cf R ix hd H' σ' ts' (tv.tr ++ fr) → D.rt v H'
 | .bk s' => ∀ H' σ' ts', ts'.map TL.er = s' → Cf R ix hd H' σ' ts' fr → D.bk σ' H'
 | .ct s' => ∀ H' σ' ts', ts'.map TL.er = s' → Cf R ix hd H' σ' ts' fr → D.ct σ' H'
 | .ex C s' => ∀ H' σ' ts', ts'.map TL.er = s' → Cf R ix hd H' σ' ts' fr → R.EX σ' (.ref (R.ad C)) none H'
 | .no => False
end
section
variable {X : Cx} {e : Expr} {es : List Expr} {st : Stmt} {sts : List Stmt}
theorem peM {t t' : TE} (h : PE X e t) (m : ∀ σ H Q, t' σ H Q → t σ H Q) : PE X e t' := fun pins s σ H Q I q => h pins s σ H Q I (m _ _ _ q)
theorem paM {t t' : TA} (h : PA X es t) (m : ∀ σ H Q, t' σ H Q → t σ H Q) : PA X es t' := fun pos pins s σ H Q I q => h pos pins s σ H Q I (m _ _ _ q)
theorem ptM {t t' : TT} (h : PT X e t) (m : ∀ σ H Q, t' σ H Q → t σ H Q) : PT X e t' := fun pins s σ H Q I q => h pins s σ H Q I (m _ _ _ q)
theorem psM {t t' : L2.TS} (h : PS X st t) (m : ∀ D σ H, t' D σ H → t D σ H) : PS X st t' := fun pins s σ H D I q => h pins s σ H D I (m _ _ _ q)
theorem pssM {t t' : L2.TS} (h : PSs X sts t) (m : ∀ D σ H, t' D σ H → t D σ H) : PSs X sts t' := fun pins s σ H D I q => h pins s σ H D I (m _ _ _ q)
end

noncomputable def eC (v : V) : EF := fun s => .ok (.val (.at v)) s
section
variable {R : RC} {ix : List Nat} {hd : List (Nat × Addr)} {X : Cx} {e : Expr}
theorem lE_C {v : V} (hc : cl v = v) (σ : L2.St) (H : Hp) (Q : VK) (h : lE R ix (eC v) σ H Q) : tC v σ H Q := by
 obtain ⟨hd, ts, fr, C, h⟩ := h
 exact h H ts (.val (.at v)) v rfl (by simp only [TV.er, T.er, hc]) rfl (C.at v)
theorem re_C {v : V} (h : PE X e (tC v)) (hc : cl v = v := by rfl) : PE X e (lE R ix (eC v)) := peM h (lE_C hc)

noncomputable def dref (s : Sd) : DV → Option D
 | .val d => some d
 | .plc k p => match s[k]? with | some (.own _ d) => d.get p | _ => none
theorem Z73 {H : Hp} {σ : L2.St} {ts : Ts} {fr : List T} {tv : TV} {v : V} {d : D} (C : Cf R ix hd H σ ts fr) (hv : TvOk ts v tv) (ho : T.oks H tv.tr) (h : dref (ts.map TL.er) tv.er = some d) :
  ∃ t : T, t.er = d ∧ t.val = v ∧ t.ok H ∧ (tv = .val t ∨ ∃ k p a w u, tv = .plc k p a ∧ ts[k]? = some (TL.own w u) ∧ u.get p = some t) := by
 cases tv with
 | val t =>
  cases h
  exact ⟨t, rfl, hv.symm, ho.1, .inl rfl⟩
 | plc k p a =>
  obtain ⟨rfl, w, t, s, h1, h2, h3⟩ := hv
  simp only [TV.er, dref, List.getElem?_map, h1, Option.map_some, TL.er, T.get_er, h2, Option.some.injEq] at h
  exact ⟨s, h, h3, T.get_ok h2 (C.ok w t (List.mem_of_getElem? h1)), .inr ⟨k, p, a, w, t, rfl, h1, h2⟩⟩

noncomputable def mkV (k : Nat) (p : List Nat) (d : D) : DV := if d.imm then .val d else .plc k p
noncomputable def eVar (j : Nat) : EF := fun s => match s[j]? with
 | some (.own _ d) => .ok (mkV j [] d) s
 | some (.bor k p) => match dref s (.plc k p) with | some d => .ok (mkV k p d) s | none => .no
 | _ => .no
theorem Cf.copy {H : Hp} {σ : L2.St} {ts : Ts} {fr : List T} {w : Bool} {t s : T} (C : Cf R ix hd H σ ts fr) (hm : TL.own w t ∈ ts) {p : List Nat} (hp : t.get p = some s) (hi : s.own = []) : Cf R ix hd H σ ts (s :: fr) := by
 have ho : s.ok H := T.get_ok hp (C.ok w t hm)
 obtain ⟨c, r, K⟩ := T.ctx hp
 have hro : ∀ a, a ∈ s.ro → a ∈ roS ts := fun a z => Z327.mpr ⟨w, t, hm, K.ro.mem_iff.mpr (List.mem_append_right _ z)⟩
 refine ⟨C.ok, ⟨ho, C.fok⟩, ?_, fun a z => ?_, ?_, ?_, C.bg, C.bor, C.ixs, C.sl, C.hdi, C.hdx, C.len, C.hdn⟩
 ·rw [T.owns_cons, hi]; exact C.nd
 ·rw [T.owns_cons, hi]
  refine C.sep a ?_
  rcases z with z | z
  ·exact .inl z
  ·rw [T.ros_cons] at z
   rcases List.mem_append.mp z with z | z
   ·exact .inl (hro a z)
   ·exact .inr z
 ·rw [T.owns_cons, hi]; exact C.rd
 ·rw [T.owns_cons, hi]; exact C.g
theorem Z660 (t : T) (h : t.er.imm = false) : ∃ a, t.val = .ref a := by
 cases t with
 | «at» v => cases h
 | nd a k l => exact ⟨a, rfl⟩
theorem mk_ok {H : Hp} {σ : L2.St} {ts : Ts} {fr : List T} {w : Bool} {t s : T} {k : Nat} {p : List Nat} (C : Cf R ix hd H σ ts fr) (h1 : ts[k]? = some (TL.own w t)) (hp : t.get p = some s) :
  ∃ tv, tv.er = mkV k p s.er ∧ TvOk ts s.val tv ∧ Cf R ix hd H σ ts (tv.tr ++ fr) := by
 unfold mkV
 cases hi : s.er.imm with
 | true => exact ⟨.val s, rfl, rfl, C.copy (List.mem_of_getElem? h1) hp (T.imm_own hi)⟩
 | false =>
  obtain ⟨a, ha⟩ := Z660 s hi
  exact ⟨.plc k p a, rfl, ⟨ha, w, t, s, h1, hp, ha⟩, C⟩
theorem Z272 {i j : Nat} (hix : ix[i]? = some j) (σ : L2.St) (H : Hp) (Q : VK) (h : lE R ix (eVar j) σ H Q) : tVar i σ H Q := by
 obtain ⟨hd, ts, fr, C, h⟩ := h
 unfold eVar at h
 rw [List.getElem?_map] at h
 cases e : ts[j]? with
 | none => rw [e] at h; exact h.elim
 | some s =>
  rw [e] at h
  cases s with
  | non => exact h.elim
  | own w t =>
   obtain ⟨tv, e1, e2, e3⟩ := mk_ok C e (show t.get [] = some t from rfl)
   exact ⟨t.val, C.sl i j _ _ hix e rfl, h H ts tv t.val rfl e1 e2 e3⟩
  | bor k p a =>
   obtain ⟨w, t, s, h1, h2, h3⟩ := C.bor j k p a e
   have hd : dref (ts.map TL.er) (.plc k p) = some s.er := by simp only [dref, List.getElem?_map, h1, Option.map_some, TL.er, T.get_er, h2]
   simp only [Option.map_some, TL.er, hd] at h
   obtain ⟨tv, e1, e2, e3⟩ := mk_ok C h1 h2
   rw [h3] at e2
   exact ⟨.ref a, C.sl i j _ _ hix e rfl, h H ts tv (.ref a) rfl e1 e2 e3⟩
theorem Z481 {i j : Nat} (h : PE X e (tVar i)) (hix : ix[i]? = some j) : PE X e (lE R ix (eVar j)) := peM h (Z272 hix)
end
end RM
set_option Elab.async false
set_option linter.all false
set_option maxRecDepth 100000

namespace RM
open PySem PySem.Spec PyProof.Rows L2

noncomputable def aNil : AF := fun s => .ok [] s
noncomputable def unh (n k : Nat) (p : List Nat) (s : Sd) : Option Sd := match s.getLast? with
 | some (.bor k' p') => if k' = k ∧ p' = p ∧ s.length = n + 1 then some s.dropLast else none
 | _ => none
noncomputable def unx (n : Nat) (s : Sd) : Option Sd := match s.getLast? with
 | some (.own _ _) => none
 | some _ => if s.length = n + 1 then some s.dropLast else none
 | none => none
noncomputable def aCons (f : EF) (g : AF) : AF := fun s => match f s with
 | .ok (.val d) s1 => (match g s1 with | .ok rs s2 => .ok (.val d :: rs) s2 | .ex C s2 => .ex C s2 | .no => .no)
 | .ok (.plc k p) s1 => (match g (s1 ++ [.bor k p]) with
  | .ok rs s2 => (match unh s1.length k p s2 with | some s3 => .ok (.plc k p :: rs) s3 | none => .no)
  | .ex C s2 => (match unx s1.length s2 with | some s3 => .ex C s3 | none => .no) | .no => .no)
 | .ex C s1 => .ex C s1
 | .no => .no
section
variable {R : RC} {ix : List Nat} {hd : List (Nat × Addr)} {X : Cx} {e : Expr} {H : Hp} {σ : L2.St} {ts : Ts} {fr : List T}
theorem Z391 (a b : Ts) : ownS (a ++ b) = ownS a ++ ownS b := by simp [ownS]
theorem Z496 (a b : Ts) : roS (a ++ b) = roS a ++ roS b := by simp [roS]
theorem Z462 (a b : Ts) : rdS (a ++ b) = rdS a ++ rdS b := by simp [rdS]
theorem PlOk.app {a : Ts} {k : Nat} {p : List Nat} {x : Addr} (h : PlOk a k p x) (b : Ts) : PlOk (a ++ b) k p x := by
 obtain ⟨w, t, s, h1, h2, h3⟩ := h
 exact ⟨w, t, s, by rw [List.getElem?_append_left (List.getElem?_eq_some_iff.mp h1).1]; exact h1, h2, h3⟩
theorem Cf.hide {k : Nat} {p : List Nat} {a : Addr} (C : Cf R ix hd H σ ts fr) (h : PlOk ts k p a) : Cf R ix (hd ++ [(ts.length, a)]) H σ (ts ++ [.bor k p a]) fr := by
 have e1 : ownS (ts ++ [.bor k p a]) = ownS ts := by rw [Z391]; simp [ownS, TL.own1]
 have e2 : roS (ts ++ [.bor k p a]) = roS ts := by rw [Z496]; simp [roS, TL.ro1]
 have e3 : rdS (ts ++ [.bor k p a]) = rdS ts := by rw [Z462]; simp [rdS, TL.rd1]
 refine ⟨fun w t z => ?_, C.fok, by rw [e1]; exact C.nd, by rw [e1, e2]; exact C.sep, by rw [e1, e3]; exact C.rd, by rw [e1]; exact C.g, C.bg, fun j k' p' a' z => ?_, fun j z => by simpa using Nat.lt_succ_of_lt (C.ixs j z), fun i j s v z1 z2 z3 => ?_, fun j b z => ?_, fun j b z => ?_, C.len, fun j b z s v z2 z3 => ?_⟩
 ·rcases List.mem_append.mp z with z | z
  ·exact C.ok w t z
  ·simp at z
 ·by_cases hj : j < ts.length
  ·rw [List.getElem?_append_left hj] at z
   exact (C.bor j k' p' a' z).app _
  ·rw [List.getElem?_append_right (by omega)] at z
   have : j - ts.length = 0 := by
    have := (List.getElem?_eq_some_iff.mp z).1
    simp at this; omega
   rw [this] at z
   cases z
   exact h.app _
 ·have := C.ixs j (List.mem_of_getElem? z1)
  rw [List.getElem?_append_left this] at z2
  exact C.sl i j s v z1 z2 z3
 ·rcases List.mem_append.mp z with z | z
  ·simpa using Nat.lt_succ_of_lt (C.hdi j b z)
  ·simp only [List.mem_singleton, Prod.mk.injEq] at z
   simp [z.1]
 ·rcases List.mem_append.mp z with z | z
  ·exact C.hdx j b z
  ·simp only [List.mem_singleton, Prod.mk.injEq] at z
   rw [z.1]
   exact fun q => absurd (C.ixs _ q) (Nat.lt_irrefl _)
 ·rcases List.mem_append.mp z with z | z
  ·by_cases hj : j < ts.length
   ·rw [List.getElem?_append_left hj] at z2
    exact C.hdn j b z s v z2 z3
   ·exact absurd (C.hdi j b z) hj
  ·simp only [List.mem_singleton, Prod.mk.injEq] at z
   obtain ⟨rfl, rfl⟩ := z
   rw [List.getElem?_append_right (Nat.le_refl _), Nat.sub_self] at z2
   cases z2
   cases z3
   rfl
theorem Cf.pop {x : TL} {hm : List (Nat × Addr)} (C : Cf R ix (hd ++ hm) H σ (ts ++ [x]) fr) (hx : ∀ w t, x ≠ .own w t) (hi : ∀ j ∈ ix, j < ts.length) (hj : ∀ j a, (j, a) ∈ hd → j < ts.length) : Cf R ix hd H σ ts fr ∧ ∀ k p a, x = .bor k p a → PlOk ts k p a := by
 have e1 : ownS (ts ++ [x]) = ownS ts := by rw [Z391]; cases x <;> simp_all [ownS, TL.own1]
 have e2 : roS (ts ++ [x]) = roS ts := by rw [Z496]; cases x <;> simp_all [roS, TL.ro1]
 have e3 : rdS (ts ++ [x]) = rdS ts := by rw [Z462]; cases x <;> simp_all [rdS, TL.rd1]
 have dn : ∀ {k' : Nat} {p' : List Nat} {a' : Addr}, PlOk (ts ++ [x]) k' p' a' → PlOk ts k' p' a' := by
  rintro k' p' a' ⟨w, t, s, h1, h2, h3⟩
  refine ⟨w, t, s, ?_, h2, h3⟩
  by_cases hj : k' < ts.length
  ·rwa [List.getElem?_append_left hj] at h1
  ·rw [List.getElem?_append_right (by omega)] at h1
   have : k' - ts.length = 0 := by
    have := (List.getElem?_eq_some_iff.mp h1).1
    simp at this; omega
   rw [this] at h1
   exact absurd (Option.some.inj h1) (hx w t)
 refine ⟨⟨fun w t z => C.ok w t (List.mem_append_left _ z), C.fok, by rw [← e1]; exact C.nd, by rw [← e1, ← e2]; exact C.sep, by rw [← e1, ← e3]; exact C.rd, by rw [← e1]; exact C.g, C.bg, fun j k' p' a' z => ?_, hi, fun i j s v z1 z2 z3 => ?_, hj, fun j b z => C.hdx j b (List.mem_append_left _ z), C.len, fun j b z s v z2 z3 => C.hdn j b (List.mem_append_left _ z) s v (by rw [List.getElem?_append_left (List.getElem?_eq_some_iff.mp z2).1]; exact z2) z3⟩, ?_⟩
 ·refine dn (C.bor j k' p' a' ?_)
  rw [List.getElem?_append_left (List.getElem?_eq_some_iff.mp z).1]; exact z
 ·refine C.sl i j s v z1 ?_ z3
  rw [List.getElem?_append_left (List.getElem?_eq_some_iff.mp z2).1]; exact z2
 ·rintro k p a rfl
  refine dn (C.bor ts.length k p a ?_)
  rw [List.getElem?_append_right (Nat.le_refl _), Nat.sub_self]; rfl
theorem Z85 {s : Sd} {l : DL} (h : ts.map TL.er = s ++ [l]) : ∃ ts0 t, ts = ts0 ++ [t] ∧ ts0.map TL.er = s ∧ t.er = l := by
 have hne : ts ≠ [] := by rintro rfl; simp at h
 refine ⟨ts.dropLast, ts.getLast hne, (List.dropLast_concat_getLast hne).symm, ?_, ?_⟩
 ·rw [List.map_dropLast, h]; simp
 ·have := congrArg List.getLast? h
  rw [List.getLast?_map, List.getLast?_eq_some_getLast hne] at this
  simpa using this
theorem Z599 {s s' : Sd} {n k : Nat} {p : List Nat} (h : unh n k p s = some s') : s = s' ++ [.bor k p] ∧ s'.length = n := by
 unfold unh at h
 split at h
 case h_1 k' p' e =>
  split at h
  case isTrue q =>
   obtain ⟨rfl, rfl, q⟩ := q
   cases h
   obtain ⟨l, rfl⟩ := List.getLast?_eq_some_iff.mp e
   simp at q ⊢
   exact q
  case isFalse => cases h
 case h_2 => cases h
theorem Z603 {n : Nat} {s s' : Sd} (h : unx n s = some s') : ∃ x, s = s' ++ [x] ∧ (∀ w d, x ≠ .own w d) ∧ s'.length = n := by
 unfold unx at h
 split at h
 case h_1 => cases h
 case h_2 x e q =>
  split at h
  case isTrue z =>
   cases h
   obtain ⟨l, rfl⟩ := List.getLast?_eq_some_iff.mp q
   simp at z
   exact ⟨x, by simp, e, by simp [z]⟩
  case isFalse => cases h
 case h_3 => cases h
theorem Z86 {t : TL} (h : ∀ w d, t.er ≠ .own w d) : ∀ w u, t ≠ .own w u := by
 rintro w u rfl
 exact h w u.er rfl
theorem TvOk.pop {x : TL} {v : V} {tv : TV} (h : TvOk (ts ++ [x]) v tv) (hx : ∀ w t, x ≠ .own w t) : TvOk ts v tv := by
 cases tv with
 | val t => exact h
 | plc k p a =>
  obtain ⟨rfl, w, t, s, h1, h2, h3⟩ := h
  refine ⟨rfl, w, t, s, ?_, h2, h3⟩
  by_cases hj : k < ts.length
  ·rwa [List.getElem?_append_left hj] at h1
  ·rw [List.getElem?_append_right (by omega)] at h1
   have : k - ts.length = 0 := by
    have := (List.getElem?_eq_some_iff.mp h1).1
    simp at this; omega
   rw [this] at h1
   exact absurd (Option.some.inj h1) (hx w t)
theorem TvsOk.pop {x : TL} (hx : ∀ w t, x ≠ .own w t) : ∀ {vs : List V} {tvs : List TV}, TvsOk (ts ++ [x]) vs tvs → TvsOk ts vs tvs
 | _, _, .nil => .nil
 | _, _, .cons h r => .cons (h.pop hx) (TvsOk.pop hx r)
theorem Z302 {s : Sd} (h : ts.map TL.er = s) : ts.length = s.length := by rw [← h]; simp
theorem Z265 (σ : L2.St) (H : Hp) (Q : List V → Hp → Prop) (h : lA R ix aNil σ H Q) : tNil σ H Q := by
 obtain ⟨hd, ts, fr, C, h⟩ := h
 exact h H ts [] [] rfl rfl .nil C
theorem Z262 {f : EF} {g : AF} (σ : L2.St) (H : Hp) (Q : List V → Hp → Prop) (h : lA R ix (aCons f g) σ H Q) : tCons (lE R ix f) (lA R ix g) σ H Q := by
 obtain ⟨hd, ts, fr, C, h⟩ := h
 refine ⟨hd, ts, fr, C, ?_⟩
 unfold aCons at h
 cases ef : f (ts.map TL.er) with
 | no => rw [ef] at h; exact h
 | ex E s1 => rw [ef] at h; exact h
 | ok r s1 =>
  rw [ef] at h
  intro H1 ts1 tv v e1 e2 hv C1
  cases r with
  | val d =>
   obtain ⟨t, rfl, rfl, rfl⟩ := hv.er_val e2
   refine ⟨hd, ts1, t :: fr, C1, ?_⟩
   rw [e1]
   dsimp only at h
   cases eg : g s1 with
   | no => rw [eg] at h; exact h
   | ex E s2 => rw [eg] at h; intro H2 ts2 e3 C2; exact h H2 ts2 e3 C2.drop
   | ok rs s2 =>
    rw [eg] at h
    intro H2 ts2 tvs vs e3 e4 hvs C2
    refine h H2 ts2 (.val t :: tvs) (t.val :: vs) e3 (by simp [TV.er, e4]) (.cons rfl hvs) ?_
    refine C2.less (x := []) ?_ ?_ ?_
    ·exact ⟨(T.oks_app.mp C2.fok).2.1, T.oks_app.mpr ⟨(T.oks_app.mp C2.fok).1, (T.oks_app.mp C2.fok).2.2⟩⟩
    ·show (T.owns (trs tvs ++ t :: fr)).Perm (T.owns (t :: (trs tvs ++ fr)) ++ [])
     rw [List.append_nil, T.owns_app, T.owns_cons, T.owns_cons, T.owns_app]
     rw [← List.append_assoc, ← List.append_assoc]
     exact List.Perm.append_right _ List.perm_append_comm
    ·intro a z
     left
     have z : a ∈ T.ros (t :: (trs tvs ++ fr)) := z
     rw [T.ros_app, T.ros_cons]
     rw [T.ros_cons, T.ros_app] at z
     simp only [List.mem_append] at z ⊢
     rcases z with z | z | z <;> simp [z]
  | plc k p =>
   obtain ⟨a, rfl, rfl, hp⟩ := hv.er_plc e2
   refine ⟨hd ++ [(ts1.length, a)], ts1 ++ [.bor k p a], fr, C1.hide hp, ?_⟩
   rw [List.map_append, e1]
   show (match g (s1 ++ [.bor k p]) with | .ok r s' => _ | .ex C s' => _ | .no => _)
   dsimp only at h
   cases eg : g (s1 ++ [.bor k p]) with
   | no => rw [eg] at h; exact h
   | ex E s2 =>
    rw [eg] at h
    intro H2 ts2 e3 C2
    dsimp only at h
    cases eu : unx s1.length s2 with
    | none => rw [eu] at h; exact h.elim
    | some s3 =>
     rw [eu] at h
     obtain ⟨x, rfl, hx', hn⟩ := Z603 eu
     obtain ⟨ts3, y, rfl, e4, rfl⟩ := Z85 e3
     have hln : ts3.length = ts1.length := by rw [Z302 e4, hn, Z302 e1]
     exact h H2 ts3 e4 (C2.pop (Z86 hx') (fun j hj => by rw [hln]; exact C1.ixs j hj) fun j b hj => by rw [hln]; exact C1.hdi j b hj).1
   | ok rs s2 =>
    rw [eg] at h
    intro H2 ts2 tvs vs e3 e4 hvs C2
    dsimp only at h
    cases eu : unh s1.length k p s2 with
    | none => rw [eu] at h; exact h.elim
    | some s3 =>
     rw [eu] at h
     obtain ⟨rfl, hn⟩ := Z599 eu
     obtain ⟨ts3, y, rfl, e5, e6⟩ := Z85 e3
     obtain ⟨b, rfl⟩ : ∃ b, y = .bor k p b := by
      cases y with
      | bor k' p' b => simp only [TL.er, DL.bor.injEq] at e6; obtain ⟨rfl, rfl⟩ := e6; exact ⟨b, rfl⟩
      | _ => simp [TL.er] at e6
     have hln : ts3.length = ts1.length := by rw [Z302 e5, hn, Z302 e1]
     obtain rfl : b = a := by
      have := C2.hdn ts1.length a (List.mem_append_right _ (by simp)) (.bor k p b) (.ref b) (by rw [← hln, List.getElem?_append_right (Nat.le_refl _), Nat.sub_self]; rfl) rfl
      cases this
      rfl
     obtain ⟨C3, hpl⟩ := C2.pop (by intro w t z; cases z) (fun j hj => by rw [hln]; exact C1.ixs j hj) fun j b hj => by rw [hln]; exact C1.hdi j b hj
     exact h H2 ts3 (.plc k p b :: tvs) (.ref b :: vs) e5 (by simp [TV.er, e4]) (.cons ⟨rfl, hpl k p b rfl⟩ (hvs.pop (by intro w t z; cases z))) C3
theorem Z459 : PA X [] (lA R ix aNil) := paM Z394 Z265
theorem Z458 {es : List Expr} {f : EF} {g : AF} (he : PE X e (lE R ix f)) (hr : PA X es (lA R ix g)) (hs : starEach (e :: es) X.env = (false, eval e X.env) :: starEach es X.env := by rfl) : PA X (e :: es) (lA R ix (aCons f g)) :=
 paM (Z393 he hr hs) Z262
end
end RM
set_option Elab.async false
set_option linter.all false
set_option maxRecDepth 100000

namespace RM
open PySem PySem.Spec PyProof.Rows L2
noncomputable def drefs (s : Sd) : List DV → Option (List D)
 | [] => some []
 | r :: rs => match dref s r, drefs s rs with | some d, some ds => some (d :: ds) | _, _ => none
structure NewOk (H H' : Hp) (l : List T) (t : T) : Prop where
 ok : t.ok H'
 nd : t.own.Nodup
 own : ∀ a ∈ t.own, H a = none
 ro : ∀ a ∈ t.ro, H a = none ∨ a ∈ T.ros l
 sep : ∀ a ∈ t.ro, a ∉ t.own
 keep : ∀ a, H a ≠ none → H' a = H a
noncomputable def gNw (h : List D → Option D) : List V → Hp → VK → Prop := fun vs H Q => ∃ l : List T, T.oks H l ∧ l.map T.val = vs ∧ ∃ d, h (T.ers l) = some d ∧ ∀ t H', t.er = d → NewOk H H' l t → Q t.val H'
noncomputable def eNw (h : List D → Option D) (f : AF) : EF := fun s => match f s with
 | .ok rs s1 => (match drefs s1 rs with | some ds => (match h ds with | some d => .ok (.val d) s1 | none => .no) | none => .no)
 | .ex C s1 => .ex C s1
 | .no => .no
section
variable {R : RC} {ix : List Nat} {hd : List (Nat × Addr)} {X : Cx} {e : Expr} {H H' : Hp} {σ : L2.St} {ts : Ts} {fr : List T}
theorem NewOk.atom {l : List T} (v : V) : NewOk H H l (.at v) := ⟨trivial, List.nodup_nil, by simp [T.own], by simp [T.ro], by simp [T.ro], fun _ _ => rfl⟩
theorem Z75 (C : Cf R ix hd H σ ts fr) : ∀ {tvs : List TV} {vs : List V} {ds : List D}, TvsOk ts vs tvs → T.oks H (trs tvs) → drefs (ts.map TL.er) (tvs.map TV.er) = some ds →
  ∃ l : List T, T.ers l = ds ∧ l.map T.val = vs ∧ T.oks H l ∧ ∀ a ∈ T.ros l, a ∈ roS ts ∨ a ∈ T.ros (trs tvs)
 | [], _, _, .nil, _, h => by cases h; exact ⟨[], rfl, rfl, trivial, by simp [T.ros]⟩
 | tv :: tvs, _, _, .cons hv hr, ho, h => by
  simp only [List.map_cons, drefs] at h
  cases e1 : dref (ts.map TL.er) tv.er with
  | none => simp [e1] at h
  | some d =>
   cases e2 : drefs (ts.map TL.er) (tvs.map TV.er) with
   | none => simp [e1, e2] at h
   | some ds =>
    simp only [e1, e2, Option.some.injEq] at h
    subst h
    have ho' : T.oks H (tv.tr ++ trs tvs) := ho
    obtain ⟨t, t1, t2, t3, t4⟩ := Z73 C hv (T.oks_app.mp ho').1 e1
    obtain ⟨l, l1, l2, l3, l4⟩ := Z75 C hr (T.oks_app.mp ho').2 e2
    refine ⟨t :: l, by rw [T.ers, t1, l1], by simp [t2, l2], ⟨t3, l3⟩, fun a z => ?_⟩
    show a ∈ roS ts ∨ a ∈ T.ros (tv.tr ++ trs tvs)
    rw [T.ros_app, List.mem_append]
    rw [T.ros_cons] at z
    rcases List.mem_append.mp z with z | z
    ·rcases t4 with rfl | ⟨k, p, b, w, u, rfl, h1, h2⟩
     ·exact .inr (.inl (by simpa [TV.tr, T.ros] using z))
     ·obtain ⟨c, r, K⟩ := T.ctx h2
      exact .inl (Z327.mpr ⟨w, u, List.mem_of_getElem? h1, K.ro.mem_iff.mpr (List.mem_append_right _ z)⟩)
    ·rcases l4 a z with z | z
     ·exact .inl z
     ·exact .inr (.inr z)
theorem Cf.new {l m : List T} {t : T} (C : Cf R ix hd H σ ts (m ++ fr)) (N : NewOk H H' l t) (hl : ∀ a ∈ T.ros l, a ∈ roS ts ∨ a ∈ T.ros m) : Cf R ix hd H' σ ts (t :: fr) := by
 have Cd := C.drops
 have kp : ∀ a, H a ≠ none → H' a = H a := N.keep
 have nown : ∀ a ∈ t.own, a ∉ ownS ts ∧ a ∉ roS ts ∧ a ∉ rdS ts ∧ a ∉ T.owns fr ∧ a ∉ T.ros fr ∧ ¬ R.G a := fun a z => Cd.fresh (N.own a z)
 refine ⟨fun w u z => T.keep (C.ok w u z) fun a q => kp a (T.there (C.ok w u z) q), ⟨N.ok, T.keeps Cd.fok fun a q => kp a (T.theres Cd.fok q)⟩, ?_, fun a z => ?_, fun a z => ?_, fun a z => ?_, C.bg, C.bor, C.ixs, C.sl, C.hdi, C.hdx, C.len, C.hdn⟩
 ·rw [T.owns_cons]
  have h1 := List.nodup_append.mp Cd.nd
  refine List.nodup_append.mpr ⟨h1.1, List.nodup_append.mpr ⟨N.nd, h1.2.1, fun a za b zb e => (nown a za).2.2.2.1 (by rw [e]; exact zb)⟩, fun a za b zb e => ?_⟩
  rcases List.mem_append.mp zb with zb | zb
  ·exact (nown b zb).1 (by rw [← e]; exact za)
  ·exact h1.2.2 a za b zb e
 ·rw [T.owns_cons, List.mem_append]
  have old : a ∈ roS ts ∨ a ∈ T.ros (m ++ fr) → a ∉ ownS ts ∧ ¬ (a ∈ t.own ∨ a ∈ T.owns fr) ∧ ¬ R.B a := fun z => by
   obtain ⟨h1, h2, h3⟩ := C.sep a z
   refine ⟨h1, fun q => ?_, h3⟩
   rcases q with q | q
   ·rcases z with z | z
    ·exact (nown a q).2.1 z
    ·have := T.theres C.fok (.inr z)
     exact this (N.own a q)
   ·exact h2 (by rw [T.owns_app]; exact List.mem_append_right _ q)
  rcases z with z | z
  ·exact old (.inl z)
  ·rw [T.ros_cons] at z
   rcases List.mem_append.mp z with z | z
   ·rcases N.ro a z with z' | z'
    ·obtain ⟨f1, f2, f3, f4, f5, f6⟩ := Cd.fresh z'
     exact ⟨f1, fun q => q.elim (N.sep a z) f4, fun q => f6 (C.bg a q)⟩
    ·rcases hl a z' with q | q
     ·exact old (.inl q)
     ·exact old (.inr (by rw [T.ros_app]; exact List.mem_append_left _ q))
   ·exact old (.inr (by rw [T.ros_app]; exact List.mem_append_right _ z))
 ·rw [T.owns_cons, List.mem_append]
  exact ⟨(Cd.rd a z).1, fun q => q.elim (fun q => (nown a q).2.2.1 z) (Cd.rd a z).2⟩
 ·rw [T.owns_cons, List.mem_append]
  obtain ⟨g1, g2, g3, g4⟩ := Cd.g a z
  exact ⟨(kp a g2).trans g1, by rw [kp a g2]; exact g2, g3, fun q => q.elim (fun q => (nown a q).2.2.2.2.2 z) g4⟩
theorem lA_nw {h : List D → Option D} {f : AF} (σ : L2.St) (H : Hp) (Q : VK) (q : lE R ix (eNw h f) σ H Q) : lA R ix f σ H fun vs H1 => gNw h vs H1 Q := by
 obtain ⟨hd, ts, fr, C, q⟩ := q
 refine ⟨hd, ts, fr, C, ?_⟩
 unfold eNw at q
 cases ef : f (ts.map TL.er) with
 | no => rw [ef] at q; exact q
 | ex E s1 => rw [ef] at q; exact q
 | ok rs s1 =>
  rw [ef] at q
  intro H1 ts1 tvs vs e1 e2 hv C1
  subst e1 e2
  dsimp only at q
  cases ed : drefs (ts1.map TL.er) (tvs.map TV.er) with
  | none => rw [ed] at q; exact q.elim
  | some ds =>
   rw [ed] at q
   dsimp only at q
   cases eh : h ds with
   | none => rw [eh] at q; exact q.elim
   | some d =>
    rw [eh] at q
    obtain ⟨l, l1, l2, l3, l4⟩ := Z75 C1 hv (T.oks_app.mp C1.fok).1 ed
    exact ⟨l, l3, l2, d, by rw [l1]; exact eh, fun t H' e N => q H' ts1 (.val t) t.val rfl (by rw [← e]; rfl) rfl (C1.new N l4)⟩
theorem Z271 {f : EF} {Q Q' : VK} (m : ∀ v H, Q v H → Q' v H) (h : lE R ix f σ H Q) : lE R ix f σ H Q' := by
 obtain ⟨hd, ts, fr, C, h⟩ := h
 refine ⟨hd, ts, fr, C, ?_⟩
 cases ef : f (ts.map TL.er) with
 | no => rw [ef] at h; exact h
 | ex E s1 => rw [ef] at h; exact h
 | ok r s1 => rw [ef] at h; intro H1 ts1 tv v a b c d; exact m _ _ (h H1 ts1 tv v a b c d)
theorem lA_1 {f : EF} {r : List V → Hp → Prop} (h : lA R ix (aCons f aNil) σ H r) : lE R ix f σ H fun x H1 => r [x] H1 := by
 have h1 := Z262 σ H r h
 exact Z271 (fun v H1 q => Z265 σ H1 (fun vs H2 => r (v :: vs) H2) q) h1
theorem lA_2 {f g : EF} {r : List V → Hp → Prop} (h : lA R ix (aCons f (aCons g aNil)) σ H r) : lE R ix f σ H fun x H1 => lE R ix g σ H1 fun y H2 => r [x, y] H2 := by
 have h1 := Z262 σ H r h
 exact Z271 (fun v H1 q => lA_1 (r := fun vs H2 => r (v :: vs) H2) q) h1
theorem lA_3 {f g k : EF} {r : List V → Hp → Prop} (h : lA R ix (aCons f (aCons g (aCons k aNil))) σ H r) : lE R ix f σ H fun x H1 => lE R ix g σ H1 fun y H2 => lE R ix k σ H2 fun z H3 => r [x, y, z] H3 := by
 have h1 := Z262 σ H r h
 exact Z271 (fun v H1 q => lA_2 (r := fun vs H2 => r (v :: vs) H2) q) h1
noncomputable def oNw (h : List D → Option D) : R2 := fun x y H Q => gNw h [x, y] H Q
theorem re_op {a b : Expr} {pos : Pos} {op : Operator} {h : List D → Option D} {fa fb : EF} (ho : OpR X (binaryOp op) (oNw h)) (ha : PE X a (lE R ix fa)) (hb : PE X b (lE R ix fb)) : PE X (.BinOp a op b pos) (lE R ix (eNw h (aCons fa (aCons fb aNil)))) :=
 peM (pe_op ho ha hb) fun σ H Q q => lA_2 (lA_nw σ H Q q)
theorem Z466 {a b : Expr} {pos : Pos} {op : CmpOp} {h : List D → Option D} {fa fb : EF} (ho : OpR X (compareOp op) (oNw h)) (ha : PE X a (lE R ix fa)) (hb : PE X b (lE R ix fb)) (hm : behindInMarks op b = false) : PE X (.Compare a [op] [b] pos) (lE R ix (eNw h (aCons fa (aCons fb aNil)))) :=
 peM (Z402 ho ha hb hm) fun σ H Q q => lA_2 (lA_nw σ H Q q)
theorem opM {f : Value → Value → Sem Value} {r r' : R2} (h : OpR X f r) (m : ∀ x y H Q, r' x y H Q → r x y H Q) : OpR X f r' := fun pins s σ H x y v u Q I rx ry q => h pins s σ H x y v u Q I rx ry (m _ _ _ _ q)
theorem callM {f : Value} {r r' : List V → Hp → VK → Prop} (h : CallR X f r) (m : ∀ vs H Q, r' vs H Q → r vs H Q) : CallR X f r' := fun pins s σ H x u Q I rx q => h pins s σ H x u Q I rx (m _ _ _ q)
end
end RM
set_option Elab.async false
set_option linter.all false
set_option maxRecDepth 100000

namespace RM
open PySem PySem.Spec PyProof.Rows L2
inductive Sel where
 | ch (j : Nat) | ar (m : Nat) | cs (v : V)
noncomputable def pick (rs : List DV) (ds : List D) (s1 : Sd) : Sel → ER DV
 | .ch j => match rs, ds with
  | .val _ :: _, .nd _ l :: _ => (match l[j]? with | some c => .ok (.val c) s1 | none => .no)
  | .plc k p :: _, .nd _ l :: _ => (match l[j]? with | some c => .ok (mkV k (p ++ [j]) c) s1 | none => .no)
  | _, _ => .no
 | .ar m => match rs[m]? with | some r => .ok r s1 | none => .no
 | .cs v => .ok (.val (.at (cl v))) s1
noncomputable def eCh (h : List D → Option Sel) (f : AF) : EF := fun s => match f s with
 | .ok rs s1 => (match drefs s1 rs with | some ds => (match h ds with | some c => pick rs ds s1 c | none => .no) | none => .no)
 | .ex C s1 => .ex C s1
 | .no => .no
noncomputable def selT (l : List T) : Sel → Option V
 | .ch j => match l with | .nd _ _ c :: _ => (c[j]?).map T.val | _ => none
 | .ar m => (l[m]?).map T.val
 | .cs v => some v
noncomputable def gCh (h : List D → Option Sel) : List V → Hp → VK → Prop := fun vs H Q => ∃ l : List T, T.oks H l ∧ l.map T.val = vs ∧ ∃ c v, h (T.ers l) = some c ∧ selT l c = some v ∧ Q v H
section
variable {R : RC} {ix : List Nat} {hd : List (Nat × Addr)} {X : Cx} {e : Expr} {H H' : Hp} {σ : L2.St} {ts : Ts} {fr : List T}
theorem Z587 {m : Nat} {tv : TV} : ∀ {tvs : List TV}, tvs[m]? = some tv → ∃ x, (T.owns (trs tvs)).Perm (T.owns tv.tr ++ x) ∧ (∀ a ∈ T.ros tv.tr, a ∈ T.ros (trs tvs)) ∧ ∀ t ∈ tv.tr, t ∈ trs tvs := by
 induction m with
 | zero =>
  intro tvs h
  match tvs, h with
  | y :: r, h =>
   cases h
   show ∃ x, (T.owns (tv.tr ++ trs r)).Perm _ ∧ _
   exact ⟨T.owns (trs r), by rw [T.owns_app], fun a z => by show a ∈ T.ros (tv.tr ++ trs r); rw [T.ros_app]; exact List.mem_append_left _ z, fun t z => List.mem_append_left _ z⟩
 | succ m ih =>
  intro tvs h
  match tvs, h with
  | y :: r, h =>
   obtain ⟨x, h1, h2, h3⟩ := ih (tvs := r) (by simpa using h)
   refine ⟨T.owns y.tr ++ x, ?_, fun a z => ?_, fun t z => List.mem_append_right _ (h3 t z)⟩
   ·show (T.owns (y.tr ++ trs r)).Perm _
    rw [T.owns_app]
    refine (List.Perm.append_left _ h1).trans ?_
    rw [← List.append_assoc, ← List.append_assoc]
    exact List.Perm.append_right _ List.perm_append_comm
   ·show a ∈ T.ros (y.tr ++ trs r)
    rw [T.ros_app]; exact List.mem_append_right _ (h2 a z)
theorem Cf.one {m : Nat} {tv : TV} {tvs : List TV} (C : Cf R ix hd H σ ts (trs tvs ++ fr)) (h : tvs[m]? = some tv) : Cf R ix hd H σ ts (tv.tr ++ fr) := by
 obtain ⟨x, h1, h2, h3⟩ := Z587 h
 have ok := T.oks_app.mp C.fok
 refine C.less (x := x) (T.oks_app.mpr ⟨T.oks_iff.mpr fun t z => T.oks_iff.mp ok.1 t (h3 t z), ok.2⟩) ?_ fun a z => ?_
 ·rw [T.owns_app, T.owns_app, List.append_assoc]
  refine (List.Perm.append_right _ h1).trans ?_
  rw [List.append_assoc]
  exact List.Perm.append_left _ List.perm_append_comm
 ·rw [T.ros_app] at z ⊢
  rcases List.mem_append.mp z with z | z
  ·exact .inl (List.mem_append_left _ (h2 a z))
  ·exact .inl (List.mem_append_right _ z)
theorem Cf.child {a : Addr} {k : NK} {l : List T} {j : Nat} {c : T} (C : Cf R ix hd H σ ts (.nd a k l :: fr)) (h : l[j]? = some c) : Cf R ix hd H σ ts (c :: fr) := by
 obtain ⟨x, y, e1, e2⟩ := T.owns_get h
 obtain ⟨x', y', f1, f2⟩ := T.ros_get h
 refine C.less (x := (if k.mut then [a] else []) ++ (x ++ y)) ⟨T.oks_iff.mp C.fok.1.2 c (List.mem_of_getElem? h), C.fok.2⟩ ?_ fun b z => ?_
 ·rw [T.owns_cons, T.owns_cons, T.own, e1]
  refine List.perm_iff_count.mpr fun b => ?_
  simp only [List.count_append]; omega
 ·left
  rw [T.ros_cons, T.ro, f1]
  rw [T.ros_cons] at z
  simp only [List.mem_append] at z ⊢
  rcases z with z | z <;> simp [z]
theorem TvsOk.get : ∀ {vs : List V} {tvs : List TV} {m : Nat} {tv : TV}, TvsOk ts vs tvs → tvs[m]? = some tv → ∃ v, vs[m]? = some v ∧ TvOk ts v tv
 | _, _, 0, _, .cons h _, e => by cases e; exact ⟨_, rfl, h⟩
 | _, _, m + 1, _, .cons _ r, e => by simpa using TvsOk.get r (by simpa using e)
theorem lA_ch {h : List D → Option Sel} {f : AF} (σ : L2.St) (H : Hp) (Q : VK) (q : lE R ix (eCh h f) σ H Q) : lA R ix f σ H fun vs H1 => gCh h vs H1 Q := by
 obtain ⟨hd, ts, fr, C, q⟩ := q
 refine ⟨hd, ts, fr, C, ?_⟩
 unfold eCh at q
 cases ef : f (ts.map TL.er) with
 | no => rw [ef] at q; exact q
 | ex E s1 => rw [ef] at q; exact q
 | ok rs s1 =>
  rw [ef] at q
  intro H1 ts1 tvs vs e1 e2 hv C1
  subst e1 e2
  dsimp only at q
  cases ed : drefs (ts1.map TL.er) (tvs.map TV.er) with
  | none => rw [ed] at q; exact q.elim
  | some ds =>
   rw [ed] at q
   dsimp only at q
   cases eh : h ds with
   | none => rw [eh] at q; exact q.elim
   | some c =>
    rw [eh] at q
    obtain ⟨l, l1, l2, l3, l4⟩ := Z75 C1 hv (T.oks_app.mp C1.fok).1 ed
    dsimp only at q
    cases c with
    | cs v => exact ⟨l, l3, l2, _, v, by rw [l1]; exact eh, rfl, q H1 ts1 (.val (.at v)) v rfl rfl rfl (C1.drops.at v)⟩
    | ar m =>
     simp only [pick, List.getElem?_map] at q
     cases em : tvs[m]? with
     | none => rw [em] at q; exact q.elim
     | some tv =>
      rw [em] at q
      obtain ⟨v, v1, v2⟩ := hv.get em
      refine ⟨l, l3, l2, _, v, by rw [l1]; exact eh, ?_, q H1 ts1 tv v rfl rfl v2 (C1.one em)⟩
      rw [← l2, List.getElem?_map] at v1
      exact v1
    | ch j =>
     cases hv with
     | nil => simp only [List.map_nil, pick] at q
     | @cons v tv vs tvs hv hr =>
      simp only [List.map_cons, drefs] at ed
      cases e1 : dref (ts1.map TL.er) tv.er with
      | none => rw [e1] at ed; cases ed
      | some d =>
       cases e2 : drefs (ts1.map TL.er) (tvs.map TV.er) with
       | none => rw [e1, e2] at ed; cases ed
       | some ds' =>
        rw [e1, e2] at ed
        cases ed
        have ho : T.oks H1 (tv.tr ++ trs tvs) := (T.oks_app.mp C1.fok).1
        obtain ⟨t, t1, t2, t3, t4⟩ := Z73 C1 hv (T.oks_app.mp ho).1 e1
        obtain ⟨l', l1', l2', l3', _⟩ := Z75 C1 hr (T.oks_app.mp ho).2 e2
        have C2 : Cf R ix hd H1 σ ts1 (tv.tr ++ fr) := C1.one (m := 0) (tvs := tv :: tvs) rfl
        cases t with
        | «at» v0 =>
         cases t1
         rcases t4 with rfl | ⟨k, p, a, w, u, rfl, _, _⟩ <;> simp only [List.map_cons, TV.er, T.er, pick] at q
        | nd a k ch =>
         simp only [T.er] at t1
         subst t1
         rcases t4 with rfl | ⟨k', p, a', w, u, rfl, h1, h2⟩
         ·simp only [List.map_cons, TV.er, pick, T.ers_eq, List.getElem?_map] at q
          cases ec : ch[j]? with
          | none => rw [ec] at q; exact q.elim
          | some c =>
           rw [ec] at q
           refine ⟨.nd a k ch :: l', ⟨t3, l3'⟩, by simp [t2, l2'], .ch j, c.val, by rw [T.ers, l1']; exact eh, by simp [selT, ec], ?_⟩
           exact q H1 ts1 (.val c) c.val rfl rfl rfl (C2.child ec)
         ·simp only [List.map_cons, TV.er, pick, T.ers_eq, List.getElem?_map] at q
          cases ec : ch[j]? with
          | none => rw [ec] at q; exact q.elim
          | some c =>
           rw [ec] at q
           refine ⟨.nd a k ch :: l', ⟨t3, l3'⟩, by simp [t2, l2'], .ch j, c.val, by rw [T.ers, l1']; exact eh, by simp [selT, ec], ?_⟩
           obtain ⟨tv', f1, f2, f3⟩ := mk_ok (p := p ++ [j]) C2 h1 (by rw [T.get_app, h2]; show T.get [j] (.nd a k ch) = some c; simp only [T.get, ec])
           exact q H1 ts1 tv' c.val rfl f1 f2 f3
end
end RM
set_option Elab.async false
set_option linter.all false
set_option maxRecDepth 100000

namespace RM
open PySem PySem.Spec PyProof.Rows L2
noncomputable def sub : List Nat → List Nat → Option Nat
 | [], i :: _ => some i
 | x :: p, y :: q => if x = y then sub p q else none
 | _, [] => none
theorem Z570 {i : Nat} : ∀ {p q : List Nat}, sub p q = some i → ∃ r, q = p ++ i :: r
 | [], j :: r, h => by cases h; exact ⟨r, rfl⟩
 | x :: p, y :: q, h => by
  unfold sub at h
  split at h
  case isTrue e => subst e; obtain ⟨r, rfl⟩ := Z570 h; exact ⟨r, rfl⟩
  case isFalse => cases h
 | x :: p, [], h => by cases h
 | [], [], h => by cases h
noncomputable def gone (k : Nat) (p : List Nat) (keep : Nat → Bool) (k' : Nat) (q : List Nat) : Bool := decide (k' = k) && (match sub p q with | some i => !keep i | none => false)
noncomputable def killD (k : Nat) (p : List Nat) (keep : Nat → Bool) : DL → DL
 | .bor k' q => if gone k p keep k' q then .non else .bor k' q
 | s => s
noncomputable def killT (k : Nat) (p : List Nat) (keep : Nat → Bool) : TL → TL
 | .bor k' q a => if gone k p keep k' q then .non else .bor k' q a
 | s => s
theorem Z254 {k : Nat} {p : List Nat} {keep : Nat → Bool} {k' : Nat} {q : List Nat} {a : Addr} : killT k p keep (.bor k' q a) = if gone k p keep k' q then .non else .bor k' q a := rfl
theorem Z253 {k : Nat} {p : List Nat} {keep : Nat → Bool} {k' : Nat} {q : List Nat} : killD k p keep (.bor k' q) = if gone k p keep k' q then .non else .bor k' q := rfl
theorem Z256 {k : Nat} {p : List Nat} {keep : Nat → Bool} (s : TL) : (killT k p keep s).er = killD k p keep s.er := by
 cases s with
 | non => rfl
 | own w t => rfl
 | bor k' q a =>
  simp only [TL.er]
  rw [Z254, Z253]
  cases gone k p keep k' q <;> rfl
theorem Z255 {k : Nat} {p : List Nat} {keep : Nat → Bool} (s : TL) : killT k p keep s = s ∨ (killT k p keep s = .non ∧ ∃ k' q a, s = .bor k' q a) := by
 cases s with
 | non => exact .inl rfl
 | own w t => exact .inl rfl
 | bor k' q a =>
  rw [Z254]
  cases gone k p keep k' q
  ·exact .inl rfl
  ·exact .inr ⟨rfl, _, _, _, rfl⟩
theorem Z160 {α : Type} {f : TL → List α} {k : Nat} {y : TL} : ∀ {ts : Ts}, ts[k]? = some y → ∃ x z, ts.flatMap f = x ++ (f y ++ z) ∧ ∀ y', (ts.set k y').flatMap f = x ++ (f y' ++ z) := by
 induction k with
 | zero =>
  intro ts h
  match ts, h with
  | t :: r, h => cases h; exact ⟨[], r.flatMap f, rfl, fun y' => rfl⟩
 | succ k ih =>
  intro ts h
  match ts, h with
  | t :: r, h =>
   obtain ⟨x, z, e1, e2⟩ := ih (ts := r) (by simpa using h)
   exact ⟨f t ++ x, z, by simp [e1], fun y' => by simp [e2 y']⟩
theorem Z257 {α : Type} {f : TL → List α} {k : Nat} {p : List Nat} {keep : Nat → Bool} (hb : ∀ k q a, f (.bor k q a) = f .non) (ts : Ts) : (ts.map (killT k p keep)).flatMap f = ts.flatMap f := by
 induction ts with
 | nil => rfl
 | cons t r ih =>
  simp only [List.map_cons, List.flatMap_cons, ih]
  rcases Z255 (k := k) (p := p) (keep := keep) t with e | ⟨e, k', q, a, rfl⟩
  ·rw [e]
  ·rw [e, hb]
theorem Z166 {s s' : T} : ∀ {p q : List Nat} {t u : T}, t.get p = some s → s'.val = s.val → sub p q = none → t.get q = some u → ∃ u', (T.put s' p t).get q = some u' ∧ u'.val = u.val
 | [], [], t, u, h1, h2, _, h4 => by cases h1; cases h4; exact ⟨s', rfl, h2⟩
 | [], j :: q, t, u, _, _, h3, _ => by cases h3
 | i :: p, [], t, u, h1, h2, _, h4 => by cases h4; exact ⟨_, rfl, T.put_val h1 h2⟩
 | i :: p, j :: q, .at v, u, h1, _, _, _ => by cases h1
 | i :: p, j :: q, .nd a k l, u, h1, h2, h3, h4 => by
  simp only [T.get] at h1 h4
  cases e : l[i]? with
  | none => rw [e] at h1; cases h1
  | some c =>
   rw [e] at h1
   simp only [T.put, e, T.get]
   unfold sub at h3
   by_cases hij : i = j
   ·subst hij
    rw [if_pos rfl] at h3
    rw [e] at h4
    rw [List.getElem?_set, if_pos rfl, if_pos (List.getElem?_eq_some_iff.mp e).1]
    exact Z166 h1 h2 h3 h4
   ·rw [List.getElem?_set, if_neg hij]
    exact ⟨u, h4, rfl⟩
theorem Z163 {s s' : T} : ∀ {p r : List Nat} {t : T}, t.get p = some s → (T.put s' p t).get (p ++ r) = s'.get r
 | [], r, t, _ => rfl
 | i :: p, r, .at v, h => by cases h
 | i :: p, r, .nd a k l, h => by
  simp only [T.get] at h
  cases e : l[i]? with
  | none => rw [e] at h; cases h
  | some c =>
   rw [e] at h
   simp only [T.put, e, List.cons_append, T.get]
   rw [List.getElem?_set, if_pos rfl, if_pos (List.getElem?_eq_some_iff.mp e).1]
   exact Z163 h
section
variable {R : RC} {ix : List Nat} {hd : List (Nat × Addr)} {X : Cx} {e : Expr} {H H' : Hp} {σ : L2.St} {ts : Ts} {fr : List T}
theorem Cf.write {k : Nat} {t : T} {p : List Nat} {a : Addr} {kd kd' : NK} {l l' fr' : List T} {x : List Addr} {o : HO} {keep : Nat → Bool} (C : Cf R ix hd H σ ts fr) (hk : ts[k]? = some (.own true t)) (hp : t.get p = some (.nd a kd l)) (hm : kd.mut = true) (hm' : kd'.mut = true)
  (ho : (T.nd a kd' l').ok (upd H a o)) (hf : T.oks (upd H a o) fr') (hown : (T.owns l ++ T.owns fr).Perm (T.owns l' ++ T.owns fr' ++ x))
  (hro : ∀ b, b ∈ T.ros l' ∨ b ∈ T.ros fr' → b ∈ T.ros l ∨ b ∈ T.ros fr ∨ b ∈ roS ts ∨ b ∈ x) (hkeep : ∀ (i : Nat) (c : T), keep i = true → l[i]? = some c → l'[i]? = some c) :
  Cf R ix hd (upd H a o) σ ((ts.set k (.own true (T.put (.nd a kd' l') p t))).map (killT k p keep)) fr' := by
 obtain ⟨c, r, K⟩ := T.ctx hp
 obtain ⟨x1, z1, o1, o2⟩ := Z160 (f := TL.own1) hk
 obtain ⟨x2, z2, r1, r2⟩ := Z160 (f := TL.ro1) hk
 obtain ⟨x3, z3, d1, d2⟩ := Z160 (f := TL.rd1) hk
 have own_nd : (T.nd a kd l).own = a :: T.owns l := by simp [T.own, hm]
 have own_nd' : (T.nd a kd' l').own = a :: T.owns l' := by simp [T.own, hm']
 have ro_nd : (T.nd a kd l).ro = T.ros l := by simp [T.ro, hm]
 have ro_nd' : (T.nd a kd' l').ro = T.ros l' := by simp [T.ro, hm']
 generalize hs' : T.nd a kd' l' = s' at *
 have hv : s'.val = (T.nd a kd l).val := by rw [← hs']; rfl
 generalize ht' : T.put s' p t = t'
 have eO : ownS ((ts.set k (.own true t')).map (killT k p keep)) = x1 ++ (t'.own ++ z1) := by
  unfold ownS; rw [Z257 (by intros; rfl), o2]; rfl
 have eR : roS ((ts.set k (.own true t')).map (killT k p keep)) = x2 ++ (t'.ro ++ z2) := by
  unfold roS; rw [Z257 (by intros; rfl), r2]; rfl
 have eD : rdS ((ts.set k (.own true t')).map (killT k p keep)) = rdS ts := by
  unfold rdS; rw [Z257 (by intros; rfl), d2, d1]; rfl
 have fO : ownS ts = x1 ++ (t.own ++ z1) := o1
 have fR : roS ts = x2 ++ (t.ro ++ z2) := r1
 have pm : (ownS ts ++ T.owns fr).Perm ((x1 ++ (t'.own ++ z1) ++ T.owns fr') ++ x) := by
  rw [fO]
  refine List.perm_iff_count.mpr fun b => ?_
  have q1 := (List.perm_iff_count.mp K.own b)
  have q2 := (List.perm_iff_count.mp (K.own' s') b)
  have q3 := (List.perm_iff_count.mp hown b)
  rw [ht'] at q2
  rw [own_nd] at q1
  rw [own_nd'] at q2
  simp only [List.count_append, List.count_cons] at q1 q2 q3 ⊢
  omega
 have nd2 := pm.nodup_iff.mp C.nd
 have nd3 := List.nodup_append.mp nd2
 have sub1 : ∀ b, b ∈ x1 ++ (t'.own ++ z1) ∨ b ∈ T.owns fr' → b ∈ ownS ts ∨ b ∈ T.owns fr := fun b z => by
  have : b ∈ ownS ts ++ T.owns fr := pm.mem_iff.mpr (List.mem_append_left _ (by rcases z with z | z; exact List.mem_append_left _ z; exact List.mem_append_right _ z))
  exact List.mem_append.mp this
 have subx : ∀ b, b ∈ x → b ∈ ownS ts ∨ b ∈ T.owns fr := fun b z => List.mem_append.mp (pm.mem_iff.mpr (List.mem_append_right _ z))
 have ina : a ∈ t.own := K.own.mem_iff.mpr (List.mem_append_right _ (by rw [own_nd]; exact List.mem_cons_self))
 have inS : a ∈ ownS ts := by rw [fO]; simp [ina]
 have hn1 := (List.nodup_append.mp C.nd).1
 rw [fO] at hn1
 have up : ∀ b, b ≠ a → upd H a o b = H b := fun b hb => Z604 hb
 have other : ∀ (j : Nat) w u, j ≠ k → ts[j]? = some (TL.own w u) → u.ok (upd H a o) := by
  intro j w u hj hu
  have hm := List.mem_of_getElem? hu
  refine T.keep (C.ok w u hm) fun b hb => up b ?_
  rintro rfl
  rcases hb with hb | hb
  ·cases w with
   | false => exact (C.rd b (Z326.mpr ⟨u, hm, hb⟩)).1 inS
   | true =>
    have h1 : b ∈ ownS (ts.set k .non) := Z324.mpr ⟨u, List.mem_of_getElem? (by rw [List.getElem?_set, if_neg (Ne.symm hj)]; exact hu), hb⟩
    unfold ownS at h1
    rw [o2] at h1
    have h2 := List.nodup_append.mp hn1
    have h3 := List.nodup_append.mp h2.2.1
    simp only [TL.own1, List.nil_append, List.mem_append] at h1
    rcases h1 with h1 | h1
    ·exact h2.2.2 b h1 b (List.mem_append_left _ ina) rfl
    ·exact h3.2.2 b ina b h1 rfl
  ·exact (C.sep b (.inl (Z327.mpr ⟨w, u, hm, hb⟩))).1 inS
 have tok' : t'.ok (upd H a o) := by
  rw [← ht']
  refine K.ok (C.ok true t (List.mem_of_getElem? hk)) (fun b hb => up b ?_) ho hv
  rintro rfl
  rcases hb with hb | hb
  ·have h2 := (List.nodup_append.mp hn1).2.1
   have h3 := (List.nodup_append.mp h2).1
   have h4 := K.own.nodup_iff.mp h3
   exact (List.nodup_append.mp h4).2.2 b hb b (by rw [own_nd]; exact List.mem_cons_self) rfl
  ·exact (C.sep b (.inl (by rw [fR]; simp [K.ro.mem_iff.mpr (List.mem_append_left _ hb)]))).1 inS
 have slot : ∀ (j : Nat) (y : TL), ((ts.set k (.own true t')).map (killT k p keep))[j]? = some y → (j = k ∧ y = .own true t') ∨ (j ≠ k ∧ ∃ y0, ts[j]? = some y0 ∧ y = killT k p keep y0) := by
  intro j y hy
  rw [List.getElem?_map, List.getElem?_set] at hy
  by_cases hj : k = j
  ·subst hj
   rw [if_pos rfl, if_pos (List.getElem?_eq_some_iff.mp hk).1] at hy
   cases hy
   exact .inl ⟨rfl, rfl⟩
  ·rw [if_neg hj] at hy
   cases ey : ts[j]? with
   | none => rw [ey] at hy; cases hy
   | some y0 => rw [ey] at hy; cases hy; exact .inr ⟨Ne.symm hj, y0, rfl, rfl⟩
 have tv' : t'.val = t.val := by rw [← ht']; exact T.put_val hp hv
 have slv : ∀ (j : Nat) (y : TL) (v : V), ((ts.set k (.own true t')).map (killT k p keep))[j]? = some y → y.v = some v → ∃ y0, ts[j]? = some y0 ∧ y0.v = some v := by
  intro j y v hy hv
  rcases slot j y hy with ⟨rfl, rfl⟩ | ⟨hj, y0, h0, rfl⟩
  ·exact ⟨_, hk, by rw [← hv]; simp only [TL.v, tv']⟩
  ·refine ⟨y0, h0, ?_⟩
   rcases Z255 (k := k) (p := p) (keep := keep) y0 with e | ⟨e, _⟩
   ·rwa [e] at hv
   ·rw [e] at hv; cases hv
 have len : ((ts.set k (.own true t')).map (killT k p keep)).length = ts.length := by simp
 refine ⟨fun w u hu => ?_, hf, by rw [eO]; exact nd3.1, fun b z => ?_, fun b z => ?_, fun b z => ?_, C.bg, fun j k' q b hj => ?_, fun j hj => by rw [len]; exact C.ixs j hj, fun i j y v h1 h2 h3 => ?_, fun j b hj => by rw [len]; exact C.hdi j b hj, C.hdx, C.len, fun j b hj y v h2 h3 => ?_⟩
 ·obtain ⟨j, hj⟩ := List.mem_iff_getElem?.mp hu
  rcases slot j _ hj with ⟨rfl, e⟩ | ⟨hjk, y0, h0, e⟩
  ·cases e; exact tok'
  ·rcases Z255 (k := k) (p := p) (keep := keep) y0 with e' | ⟨e', _⟩
   ·rw [e'] at e; subst e; exact other j w u hjk h0
   ·rw [e'] at e; cases e
 ·have old : b ∈ roS ts ∨ b ∈ T.ros fr → b ∉ x1 ++ (t'.own ++ z1) ∧ b ∉ T.owns fr' ∧ ¬ R.B b := fun z => by
   obtain ⟨h1, h2, h3⟩ := C.sep b z
   exact ⟨fun q => (sub1 b (.inl q)).elim h1 h2, fun q => (sub1 b (.inr q)).elim h1 h2, h3⟩
  have new : b ∈ T.ros l' ∨ b ∈ T.ros fr' → b ∉ x1 ++ (t'.own ++ z1) ∧ b ∉ T.owns fr' ∧ ¬ R.B b := fun z => by
   rcases hro b z with q | q | q | q
   ·exact old (.inl (by rw [fR]; simp [K.ro.mem_iff.mpr (List.mem_append_right _ (by rw [ro_nd]; exact q))]))
   ·exact old (.inr q)
   ·exact old (.inl q)
   ·refine ⟨fun y => nd3.2.2 b (List.mem_append_left _ y) b q rfl, fun y => nd3.2.2 b (List.mem_append_right _ y) b q rfl, fun y => ?_⟩
    obtain ⟨_, _, g3, g4⟩ := C.g b (C.bg b y)
    exact (subx b q).elim g3 g4
  rw [eO]
  rw [eR] at z
  rcases z with z | z
  ·simp only [List.mem_append] at z
   rcases z with z | z | z
   ·exact old (.inl (by rw [fR]; simp [z]))
   ·have z' := (K.ro' s').mem_iff.mp (by rw [ht']; exact z)
    rcases List.mem_append.mp z' with z' | z'
    ·exact old (.inl (by rw [fR]; simp [K.ro.mem_iff.mpr (List.mem_append_left _ z')]))
    ·rw [ro_nd'] at z'; exact new (.inl z')
   ·exact old (.inl (by rw [fR]; simp [z]))
  ·exact new (.inr z)
 ·rw [eD] at z
  rw [eO]
  obtain ⟨h1, h2⟩ := C.rd b z
  exact ⟨fun q => (sub1 b (.inl q)).elim h1 h2, fun q => (sub1 b (.inr q)).elim h1 h2⟩
 ·rw [eO]
  obtain ⟨g1, g2, g3, g4⟩ := C.g b z
  have hb : b ≠ a := by rintro rfl; exact g3 inS
  rw [up b hb]
  exact ⟨g1, g2, fun q => (sub1 b (.inl q)).elim g3 g4, fun q => (sub1 b (.inr q)).elim g3 g4⟩
 ·
  rcases slot j _ hj with ⟨rfl, e⟩ | ⟨hjk, y0, h0, e⟩
  ·cases e
  ·rcases Z255 (k := k) (p := p) (keep := keep) y0 with e' | ⟨e', _⟩
   ·rw [e'] at e
    subst e
    obtain ⟨w, u, s, h1, h2, h3⟩ := C.bor j k' q b h0
    by_cases hkk : k' = k
    ·subst hkk
     rw [hk] at h1
     cases h1
     have at' : ((ts.set k' (.own true t')).map (killT k' p keep))[k']? = some (.own true t') := by
      rw [List.getElem?_map, List.getElem?_set, if_pos rfl, if_pos (List.getElem?_eq_some_iff.mp hk).1]; rfl
     cases hs : sub p q with
     | none =>
      obtain ⟨u', q1, q2⟩ := Z166 (s' := s') hp hv hs h2
      rw [ht'] at q1
      exact ⟨true, t', u', at', q1, q2.trans h3⟩
     | some i =>
      have hki : keep i = true := by
       rw [Z254] at e'
       cases hg : keep i with
       | true => rfl
       | false =>
        have : gone k' p keep k' q = true := by simp [gone, hs, hg]
        rw [this] at e'
        cases e'
      obtain ⟨r', rfl⟩ := Z570 hs
      refine ⟨true, t', s, at', ?_, h3⟩
      rw [← ht', Z163 hp, ← hs']
      rw [T.get_app, hp] at h2
      have h2' : T.get (i :: r') (.nd a kd l) = some s := h2
      simp only [T.get] at h2' ⊢
      cases el : l[i]? with
      | none => rw [el] at h2'; cases h2'
      | some ch => rw [el] at h2'; rw [hkeep i ch hki el]; exact h2'
    ·refine ⟨w, u, s, ?_, h2, h3⟩
     rw [List.getElem?_map, List.getElem?_set, if_neg (Ne.symm hkk), h1]; rfl
   ·rw [e'] at e; cases e
 ·obtain ⟨y0, q1, q2⟩ := slv j y v h2 h3
  exact C.sl i j y0 v h1 q1 q2
 ·obtain ⟨y0, q1, q2⟩ := slv j y v h2 h3
  exact C.hdn j b hj y0 v q1 q2
end
end RM
set_option Elab.async false
set_option linter.all false
set_option maxRecDepth 100000

namespace RM
open PySem PySem.Spec PyProof.Rows L2
inductive Mu where
 | add (kd : NK) (m : Nat)
 | set (j m : Nat)
noncomputable def HoOk (o : HO) : NK → List V → Prop
 | .lst true, vs => o = .lst vs
 | .dic true ks, vs => ks.length = vs.length ∧ ks.Nodup ∧ o = .dK (ks.zip vs)
 | .dit true ks, vs => ks.length = vs.length ∧ ks.Nodup ∧ o = .dT (ks.zip vs)
 | .ins true C ns, vs => ns.length = vs.length ∧ ∃ dx, o = .ins C dx (ns.zip vs)
 | _, _ => False
theorem HoOk.node {o : HO} {kd : NK} {vs : List V} {H : Hp} {a : Addr} (h : HoOk o kd vs) : NodeOk (upd H a o) a kd vs ∧ kd.mut = true := by
 cases kd with
 | tup => exact h.elim
 | lst m => cases m with
  | true => cases h; exact ⟨Z605, rfl⟩
  | false => exact h.elim
 | dic m ks => cases m with
  | true => obtain ⟨h1, h2, rfl⟩ := h; exact ⟨⟨h1, h2, Z605⟩, rfl⟩
  | false => exact h.elim
 | dit m ks => cases m with
  | true => obtain ⟨h1, h2, rfl⟩ := h; exact ⟨⟨h1, h2, Z605⟩, rfl⟩
  | false => exact h.elim
 | ins m C ns => cases m with
  | true => obtain ⟨h1, dx, rfl⟩ := h; exact ⟨⟨h1, dx, Z605⟩, rfl⟩
  | false => exact h.elim
 | kst K => exact h.elim
noncomputable def wr (s : Sd) (k : Nat) (p : List Nat) (n : D) (keep : Nat → Bool) : Sd := match s[k]? with
 | some (.own true d) => (s.set k (.own true (D.put n p d))).map (killD k p keep)
 | _ => s
noncomputable def eMu (ri : Nat) (h : List D → Option Mu) (f : AF) : EF := fun s => match f s with
 | .ok rs s1 => (match drefs s1 rs, rs[ri]? with
  | some ds, some (.plc k p) => (match s1[k]?, ds[ri]?, h ds with
   | some (.own true _), some (.nd kd l), some (.add kd' m) => if kd.mut then (match rs[m]? with | some (.val x) => .ok (.val (.at .non)) (wr s1 k p (.nd kd' (l ++ [x])) fun _ => true) | _ => .no) else .no
   | some (.own true _), some (.nd kd l), some (.set j m) => if kd.mut ∧ j < l.length then (match rs[m]? with | some (.val x) => .ok (.val (.at .non)) (wr s1 k p (.nd kd (l.set j x)) fun i => i != j) | _ => .no) else .no
   | _, _, _ => .no)
  | _, _ => .no)
 | .ex C s1 => .ex C s1
 | .no => .no
noncomputable def gMu (ri : Nat) (h : List D → Option Mu) : List V → Hp → (Hp → Prop) → Prop := fun vs H Q => ∃ l : List T, T.oks H l ∧ l.map T.val = vs ∧ ∃ a kd ch op, l[ri]? = some (.nd a kd ch) ∧ kd.mut = true ∧ h (T.ers l) = some op ∧ match op with
 | .add kd' m => ∃ x, l[m]? = some x ∧ ∀ o, HoOk o kd' (ch.map T.val ++ [x.val]) → Q (upd H a o)
 | .set j m => ∃ x, l[m]? = some x ∧ j < ch.length ∧ ∀ o, HoOk o kd ((ch.map T.val).set j x.val) → Q (upd H a o)
section
variable {R : RC} {ix : List Nat} {hd : List (Nat × Addr)} {X : Cx} {e : Expr} {H H' : Hp} {σ : L2.St} {ts : Ts} {fr : List T}
theorem Z74 (C : Cf R ix hd H σ ts fr) : ∀ {tvs : List TV} {vs : List V} {ds : List D}, TvsOk ts vs tvs → T.oks H (trs tvs) → drefs (ts.map TL.er) (tvs.map TV.er) = some ds →
  ∃ l : List T, T.ers l = ds ∧ l.map T.val = vs ∧ T.oks H l ∧ l.length = tvs.length ∧ ∀ (m : Nat) tv t, tvs[m]? = some tv → l[m]? = some t → (tv = .val t ∨ ∃ k p a w u, tv = .plc k p a ∧ ts[k]? = some (TL.own w u) ∧ u.get p = some t)
 | [], _, _, .nil, _, h => by cases h; exact ⟨[], rfl, rfl, trivial, rfl, by simp⟩
 | tv :: tvs, _, _, .cons hv hr, ho, h => by
  simp only [List.map_cons, drefs] at h
  cases e1 : dref (ts.map TL.er) tv.er with
  | none => simp [e1] at h
  | some d =>
   cases e2 : drefs (ts.map TL.er) (tvs.map TV.er) with
   | none => simp [e1, e2] at h
   | some ds =>
    simp only [e1, e2, Option.some.injEq] at h
    subst h
    have ho' : T.oks H (tv.tr ++ trs tvs) := ho
    obtain ⟨t, t1, t2, t3, t4⟩ := Z73 C hv (T.oks_app.mp ho').1 e1
    obtain ⟨l, l1, l2, l3, l4, l5⟩ := Z74 C hr (T.oks_app.mp ho').2 e2
    refine ⟨t :: l, by rw [T.ers, t1, l1], by simp [t2, l2], ⟨t3, l3⟩, by simp [l4], fun m y z h1 h2 => ?_⟩
    cases m with
    | zero => cases h1; cases h2; exact t4
    | succ m => exact l5 m y z (by simpa using h1) (by simpa using h2)
theorem wr_er {k : Nat} {p : List Nat} {t s' : T} {keep : Nat → Bool} (hk : ts[k]? = some (.own true t)) : ((ts.set k (.own true (T.put s' p t))).map (killT k p keep)).map TL.er = wr (ts.map TL.er) k p s'.er keep := by
 unfold wr
 rw [List.getElem?_map, hk]
 show _ = ((ts.map TL.er).set k (.own true (D.put s'.er p t.er))).map (killD k p keep)
 rw [← T.put_er, show DL.own true (T.put s' p t).er = (TL.own true (T.put s' p t)).er from rfl, ← List.map_set, List.map_map, List.map_map]
 exact List.map_congr_left fun s _ => Z256 s
set_option maxHeartbeats 2000000 in
theorem lA_mu {ri : Nat} {h : List D → Option Mu} {f : AF} (σ : L2.St) (H : Hp) (Q : VK) (q : lE R ix (eMu ri h f) σ H Q) : lA R ix f σ H fun vs H1 => gMu ri h vs H1 (Q .non) := by
 obtain ⟨hd, ts, fr, C, q⟩ := q
 refine ⟨hd, ts, fr, C, ?_⟩
 unfold eMu at q
 cases ef : f (ts.map TL.er) with
 | no => rw [ef] at q; exact q
 | ex E s1 => rw [ef] at q; exact q
 | ok rs s1 =>
  rw [ef] at q
  intro H1 ts1 tvs vs e1 e2 hv C1
  subst e1 e2
  dsimp only at q
  cases ed : drefs (ts1.map TL.er) (tvs.map TV.er) with
  | none => rw [ed] at q; exact q.elim
  | some ds =>
   rw [ed, List.getElem?_map] at q
   obtain ⟨l, l1, l2, l3, l4, l5⟩ := Z74 C1 hv (T.oks_app.mp C1.fok).1 ed
   cases er : tvs[ri]? with
   | none => rw [er] at q; exact q.elim
   | some tr =>
    rw [er] at q
    cases tr with
    | val t => exact q.elim
    | plc k p a =>
     simp only [Option.map_some, TV.er, List.getElem?_map] at q
     have hri : ri < l.length := by rw [l4]; exact (List.getElem?_eq_some_iff.mp er).1
     obtain ⟨tn, hn⟩ : ∃ tn, l[ri]? = some tn := ⟨l[ri], List.getElem?_eq_getElem hri⟩
     have hnd : ds[ri]? = some tn.er := by rw [← l1, T.ers_eq, List.getElem?_map, hn]; rfl
     rcases l5 ri _ tn er hn with z | ⟨k', p', a', w, u, z, hk, hp⟩
     ·cases z
     ·cases z
      rw [hk, hnd] at q
      simp only [Option.map_some, TL.er] at q
      cases w with
      | false => exact q.elim
      | true =>
       cases tn with
       | «at» v => exact q.elim
       | nd a2 kd ch =>
        simp only [T.er] at q
        have hkn : kd.mut = true ∧ True := ⟨by
         cases hm : kd.mut with
         | true => rfl
         | false =>
          exfalso
          cases eh : h ds with
          | none => rw [eh] at q; exact q
          | some op => cases op with
           | add kd' m => rw [eh] at q; dsimp only at q; rw [hm] at q; exact q
           | set j m =>
            rw [eh] at q
            dsimp only at q
            rw [hm] at q
            rw [if_neg (by rintro ⟨z, _⟩; cases z)] at q
            exact q, trivial⟩
        refine ⟨l, l3, l2, a2, kd, ch, ?_⟩
        have ok := T.oks_app.mp C1.fok
        have hok : (T.nd a2 kd ch).ok H1 := T.oks_iff.mp l3 _ (List.mem_of_getElem? hn)
        have ha2 : a2 ∈ ownS ts1 := by
         obtain ⟨c, r, K⟩ := T.ctx hp
         exact Z324.mpr ⟨u, List.mem_of_getElem? hk, K.own.mem_iff.mpr (List.mem_append_right _ (by simp [T.own, hkn.1]))⟩
        have stay : ∀ (o : HO) (y : T), y ∈ trs tvs ++ fr → y.ok (upd H1 a2 o) := fun o y hy => T.keep (T.oks_iff.mp C1.fok y hy) fun b hb => Z604 (by
         rintro rfl
         rcases hb with hb | hb
         ·have := (List.nodup_append.mp C1.nd).2.2 b ha2 b (T.mem_owns.mpr ⟨y, hy, hb⟩)
          exact this rfl
         ·exact (C1.sep b (.inr (T.mem_ros.mpr ⟨y, hy, hb⟩))).1 ha2)
        have kid : ∀ (o : HO) (y : T), y ∈ ch → y.ok (upd H1 a2 o) := fun o y hy => T.keep (T.oks_iff.mp hok.2 y hy) fun b hb => Z604 (by
         rintro rfl
         obtain ⟨c, r, K⟩ := T.ctx hp
         rcases hb with hb | hb
         ·have n1 := (List.nodup_append.mp C1.nd).1
          obtain ⟨x1, z1, o1, _⟩ := Z160 (f := TL.own1) hk
          unfold ownS at n1
          rw [o1] at n1
          have n2 := (List.nodup_append.mp ((List.nodup_append.mp n1).2.1)).1
          have n3 := (List.nodup_append.mp (K.own.nodup_iff.mp n2)).2.1
          simp only [T.own, hkn.1, if_true, List.singleton_append, List.nodup_cons] at n3
          exact n3.1 (T.mem_owns.mpr ⟨y, hy, hb⟩)
         ·refine (C1.sep b (.inl (Z327.mpr ⟨true, u, List.mem_of_getElem? hk, K.ro.mem_iff.mpr (List.mem_append_right _ ?_)⟩))).1 ha2
          simp only [T.ro, hkn.1, if_true, List.nil_append]
          exact T.mem_ros.mpr ⟨y, hy, hb⟩)
        cases eh : h ds with
        | none => rw [eh] at q; exact q.elim
        | some op =>
         rw [eh] at q
         have arg : ∀ {m : Nat} {x : D} , (tvs[m]?).map TV.er = some (.val x) → ∃ t, tvs[m]? = some (.val t) ∧ l[m]? = some t ∧ t.er = x := by
          intro m x hx
          cases em : tvs[m]? with
          | none => rw [em] at hx; cases hx
          | some tv =>
           rw [em] at hx
           cases tv with
           | plc _ _ _ => cases hx
           | val t =>
            cases hx
            have hml : m < l.length := by rw [l4]; exact (List.getElem?_eq_some_iff.mp em).1
            rcases l5 m _ _ em (List.getElem?_eq_getElem hml) with z | ⟨_, _, _, _, _, z, _⟩
            ·cases z; exact ⟨l[m], rfl, List.getElem?_eq_getElem hml, rfl⟩
            ·cases z
         cases op with
         | add kd' m =>
          simp only [hkn.1, if_true] at q
          cases em : (tvs[m]?).map TV.er with
          | none => rw [em] at q; exact q.elim
          | some r =>
           rw [em] at q
           cases r with
           | plc _ _ => exact q.elim
           | val x =>
            obtain ⟨t, t1, t2, rfl⟩ := arg em
            refine ⟨.add kd' m, hn, hkn.1, by rw [l1]; exact eh, t, t2, fun o ho => ?_⟩
            obtain ⟨n1, n2⟩ := HoOk.node (H := H1) (a := a2) ho
            obtain ⟨x, p1, p2, p3⟩ := Z587 t1
            have W := Cf.write (kd' := kd') (l' := ch ++ [t]) (fr' := fr) (x := x) (o := o) (keep := fun _ => true) C1 hk hp hkn.1 n2
             ⟨by simpa using n1, T.oks_app.mpr ⟨T.oks_iff.mpr (kid o), stay o t (List.mem_append_left _ (p3 t (by simp [TV.tr]))), trivial⟩⟩ (T.oks_iff.mpr fun y hy => stay o y (List.mem_append_right _ hy))
             (by
              rw [T.owns_app, T.owns_app]
              refine List.perm_iff_count.mpr fun b => ?_
              have := List.perm_iff_count.mp p1 b
              simp only [TV.tr, T.owns, List.count_append, List.count_nil] at this ⊢
              omega)
             (fun b hb => by
              rw [T.ros_app] at hb ⊢
              rcases hb with hb | hb
              ·rcases List.mem_append.mp hb with hb | hb
               ·exact .inl hb
               ·exact .inr (.inl (List.mem_append_left _ (p2 b (by simpa [TV.tr] using hb))))
              ·exact .inr (.inl (List.mem_append_right _ hb)))
             (fun i c _ hc => by rw [List.getElem?_append_left (List.getElem?_eq_some_iff.mp hc).1]; exact hc)
            refine q _ _ (.val (.at .non)) .non ?_ rfl rfl (W.at .non)
            rw [wr_er hk]
            simp only [T.er, T.ers_eq, List.map_append, List.map_cons, List.map_nil]
         | set j m =>
          simp only [hkn.1, true_and] at q
          by_cases hj : j < (T.ers ch).length
          case neg => rw [if_neg hj] at q; exact q.elim
          rw [if_pos hj] at q
          have hj : j < ch.length := by simpa [T.ers_eq] using hj
          cases em : (tvs[m]?).map TV.er with
          | none => rw [em] at q; exact q.elim
          | some r =>
           rw [em] at q
           cases r with
           | plc _ _ => exact q.elim
           | val x =>
            obtain ⟨t, t1, t2, rfl⟩ := arg em
            refine ⟨.set j m, hn, hkn.1, by rw [l1]; exact eh, t, t2, hj, fun o ho => ?_⟩
            obtain ⟨n1, n2⟩ := HoOk.node (H := H1) (a := a2) ho
            obtain ⟨x, p1, p2, p3⟩ := Z587 t1
            obtain ⟨x0, y0, c1, c2⟩ := T.owns_get (List.getElem?_eq_getElem hj)
            have W := Cf.write (kd' := kd) (l' := ch.set j t) (fr' := fr) (x := ch[j].own ++ x) (o := o) (keep := fun i => i != j) C1 hk hp hkn.1 n2
             ⟨by rw [List.map_set]; exact n1, T.oks_iff.mpr fun y hy => by
              rcases List.mem_or_eq_of_mem_set hy with hy | rfl
              ·exact kid o y hy
              ·exact stay o _ (List.mem_append_left _ (p3 _ (by simp [TV.tr])))⟩ (T.oks_iff.mpr fun y hy => stay o y (List.mem_append_right _ hy))
             (by
              rw [T.owns_app, c1, c2]
              refine List.perm_iff_count.mpr fun b => ?_
              have := List.perm_iff_count.mp p1 b
              simp only [TV.tr, T.owns, List.count_append, List.count_nil] at this ⊢
              omega)
             (fun b hb => by
              rw [T.ros_app]
              rcases hb with hb | hb
              ·obtain ⟨y, hy, hb2⟩ := T.mem_ros.mp hb
               rcases List.mem_or_eq_of_mem_set hy with hy | hy
               ·exact .inl (T.mem_ros.mpr ⟨y, hy, hb2⟩)
               ·rw [hy] at hb2
                exact .inr (.inl (List.mem_append_left _ (p2 b (by simpa [TV.tr, T.ros] using hb2))))
              ·exact .inr (.inl (List.mem_append_right _ hb)))
             (fun i c hi hc => by
              have : j ≠ i := by rintro rfl; simp at hi
              rw [List.getElem?_set, if_neg this]; exact hc)
            refine q _ _ (.val (.at .non)) .non ?_ rfl rfl (W.at .non)
            rw [wr_er hk]
            simp only [T.er, T.ers_eq, List.map_set]
end
end RM
set_option Elab.async false
set_option linter.all false
set_option maxRecDepth 100000

namespace RM
open PySem PySem.Spec PyProof.Rows L2
noncomputable def unrootD (j : Nat) : DL → DL
 | .bor k q => if k = j then .non else .bor k q
 | s => s
noncomputable def unrootT (j : Nat) : TL → TL
 | .bor k q a => if k = j then .non else .bor k q a
 | s => s
theorem Z601 {j : Nat} (s : TL) : (unrootT j s).er = unrootD j s.er := by
 cases s with
 | bor k q a =>
  show (if k = j then TL.non else _).er = if k = j then DL.non else _
  split <;> rfl
 | _ => rfl
theorem Z600 {j : Nat} (s : TL) : (unrootT j s = s ∧ ∀ q a, s ≠ .bor j q a) ∨ (unrootT j s = .non ∧ ∃ q a, s = .bor j q a) := by
 cases s with
 | bor k q a =>
  by_cases h : k = j
  ·subst h; exact .inr ⟨if_pos rfl, q, a, rfl⟩
  ·exact .inl ⟨if_neg h, fun q' a' z => h (by cases z; rfl)⟩
 | non => exact .inl ⟨rfl, fun _ _ z => by cases z⟩
 | own w t => exact .inl ⟨rfl, fun _ _ z => by cases z⟩
theorem Z602 {α : Type} {f : TL → List α} {j : Nat} (hb : ∀ k q a, f (.bor k q a) = f .non) (ts : Ts) : (ts.map (unrootT j)).flatMap f = ts.flatMap f := by
 induction ts with
 | nil => rfl
 | cons t r ih =>
  simp only [List.map_cons, List.flatMap_cons, ih]
  rcases Z600 (j := j) t with ⟨e, _⟩ | ⟨e, q, a, rfl⟩
  ·rw [e]
  ·rw [e, hb]
noncomputable def asgD (j : Nat) (s : Sd) : DV → Option Sd
 | .val d => some ((s.map (unrootD j)).set j (.own true d))
 | .plc k p => if k = j then (if p = [] then some s else none) else some ((s.map (unrootD j)).set j (.bor k p))
section
variable {R : RC} {ix : List Nat} {hd : List (Nat × Addr)} {X : Cx} {e : Expr} {H H' : Hp} {σ : L2.St} {ts : Ts} {fr : List T}
theorem Cf.slot {i j : Nat} {y : TL} {m : List T} {v : V} (C : Cf R ix hd H σ ts (m ++ fr)) (hix : ix[i]? = some j) (hnd : ix.Nodup) (hv : y.v = some v) (hm : (∃ t, y = .own true t ∧ m = [t]) ∨ (m = [] ∧ ∃ k p a, y = .bor k p a ∧ k ≠ j ∧ PlOk ts k p a)) :
  Cf R ix hd H (σ.set i (some v)) ((ts.map (unrootT j)).set j y) fr := by
 have hj : j < ts.length := C.ixs j (List.mem_of_getElem? hix)
 obtain ⟨y0, hy0⟩ : ∃ y0, ts[j]? = some y0 := ⟨ts[j], List.getElem?_eq_getElem hj⟩
 have hy0' : (ts.map (unrootT j))[j]? = some (unrootT j y0) := by rw [List.getElem?_map, hy0]; rfl
 obtain ⟨x1, z1, o1, o2⟩ := Z160 (f := TL.own1) hy0'
 obtain ⟨x2, z2, r1, r2⟩ := Z160 (f := TL.ro1) hy0'
 obtain ⟨x3, z3, d1, d2⟩ := Z160 (f := TL.rd1) hy0'
 rw [Z602 (by intros; rfl)] at o1 r1 d1
 have e1 : (unrootT j y0).own1 = y0.own1 ∧ (unrootT j y0).ro1 = y0.ro1 ∧ (unrootT j y0).rd1 = y0.rd1 := by
  rcases Z600 (j := j) y0 with ⟨e, _⟩ | ⟨e, q, a, rfl⟩ <;> rw [e] <;> exact ⟨rfl, rfl, rfl⟩
 rw [e1.1] at o1; rw [e1.2.1] at r1; rw [e1.2.2] at d1
 have fO : ownS ts = x1 ++ (y0.own1 ++ z1) := o1
 have fR : roS ts = x2 ++ (y0.ro1 ++ z2) := r1
 have fD : rdS ts = x3 ++ (y0.rd1 ++ z3) := d1
 have gO : ownS ((ts.map (unrootT j)).set j y) = x1 ++ (y.own1 ++ z1) := o2 y
 have gR : roS ((ts.map (unrootT j)).set j y) = x2 ++ (y.ro1 ++ z2) := r2 y
 have gD : rdS ((ts.map (unrootT j)).set j y) = x3 ++ (y.rd1 ++ z3) := d2 y
 have yo : y.own1 = T.owns m := by
  rcases hm with ⟨t, rfl, rfl⟩ | ⟨rfl, k, p, a, rfl, _⟩
  ·simp [TL.own1, T.owns]
  ·rfl
 have yr : y.ro1 = T.ros m := by
  rcases hm with ⟨t, rfl, rfl⟩ | ⟨rfl, k, p, a, rfl, _⟩
  ·simp [TL.ro1, T.ros]
  ·rfl
 have yd : y.rd1 = [] := by
  rcases hm with ⟨t, rfl, rfl⟩ | ⟨rfl, k, p, a, rfl, _⟩ <;> rfl
 have pm : (ownS ts ++ T.owns (m ++ fr)).Perm ((x1 ++ (y.own1 ++ z1) ++ T.owns fr) ++ y0.own1) := by
  rw [fO, T.owns_app, yo]
  refine List.perm_iff_count.mpr fun b => ?_
  simp only [List.count_append]; omega
 have nd2 := List.nodup_append.mp (pm.nodup_iff.mp C.nd)
 have sub1 : ∀ b, b ∈ x1 ++ (y.own1 ++ z1) ∨ b ∈ T.owns fr → b ∈ ownS ts ∨ b ∈ T.owns (m ++ fr) := fun b z => List.mem_append.mp (pm.mem_iff.mpr (List.mem_append_left _ (by
  rcases z with z | z
  ·exact List.mem_append_left _ z
  ·exact List.mem_append_right _ z)))
 have slot : ∀ (j' : Nat) (s : TL), ((ts.map (unrootT j)).set j y)[j']? = some s → (j' = j ∧ s = y) ∨ (j' ≠ j ∧ ∃ s0, ts[j']? = some s0 ∧ s = unrootT j s0) := by
  intro j' s hs
  rw [List.getElem?_set] at hs
  by_cases h : j = j'
  ·subst h
   rw [if_pos rfl, if_pos (by simpa using hj)] at hs
   cases hs; exact .inl ⟨rfl, rfl⟩
  ·rw [if_neg h, List.getElem?_map] at hs
   cases e : ts[j']? with
   | none => rw [e] at hs; cases hs
   | some s0 => rw [e] at hs; cases hs; exact .inr ⟨Ne.symm h, s0, rfl, rfl⟩
 have plk : ∀ {k : Nat} {p : List Nat} {a : Addr}, k ≠ j → PlOk ts k p a → PlOk ((ts.map (unrootT j)).set j y) k p a := by
  rintro k p a hk ⟨w, u, s, h1, h2, h3⟩
  exact ⟨w, u, s, by rw [List.getElem?_set, if_neg (Ne.symm hk), List.getElem?_map, h1]; rfl, h2, h3⟩
 have lenS : ((ts.map (unrootT j)).set j y).length = ts.length := by simp
 have hi : i < σ.length := Nat.lt_of_lt_of_le (List.getElem?_eq_some_iff.mp hix).1 C.len
 refine ⟨fun w u hu => ?_, (T.oks_app.mp C.fok).2, by rw [gO]; exact nd2.1, fun b z => ?_, fun b z => ?_, fun b z => ?_, C.bg, fun j' k q b hj' => ?_, fun j' hj' => by rw [lenS]; exact C.ixs j' hj', fun i' j' s u h1 h2 h3 => ?_, fun j' b hb => by rw [lenS]; exact C.hdi j' b hb, C.hdx, by rw [List.length_set]; exact C.len, fun j' b hb s u h2 h3 => ?_⟩
 ·obtain ⟨j', hj'⟩ := List.mem_iff_getElem?.mp hu
  rcases slot j' _ hj' with ⟨rfl, e⟩ | ⟨_, s0, h0, e⟩
  ·rcases hm with ⟨t, rfl, rfl⟩ | ⟨rfl, k, p, a, rfl, _⟩
   ·cases e; exact (T.oks_app.mp C.fok).1.1
   ·cases e
  ·rcases Z600 (j := j) s0 with ⟨e', _⟩ | ⟨e', _⟩
   ·rw [e'] at e; subst e; exact C.ok w u (List.mem_of_getElem? h0)
   ·rw [e'] at e; cases e
 ·have old : b ∈ roS ts ∨ b ∈ T.ros (m ++ fr) → b ∉ x1 ++ (y.own1 ++ z1) ∧ b ∉ T.owns fr ∧ ¬ R.B b := fun z => by
   obtain ⟨h1, h2, h3⟩ := C.sep b z
   exact ⟨fun q => (sub1 b (.inl q)).elim h1 h2, fun q => (sub1 b (.inr q)).elim h1 h2, h3⟩
  rw [gO]
  rw [gR] at z
  rcases z with z | z
  ·rw [yr] at z
   simp only [List.mem_append] at z
   rcases z with z | z | z
   ·exact old (.inl (by rw [fR]; simp [z]))
   ·exact old (.inr (by rw [T.ros_app]; simp [z]))
   ·exact old (.inl (by rw [fR]; simp [z]))
  ·exact old (.inr (by rw [T.ros_app]; simp [z]))
 ·rw [gO]
  rw [gD, yd] at z
  have z' : b ∈ rdS ts := by
   rw [fD]
   simp only [List.nil_append, List.mem_append] at z ⊢
   rcases z with z | z <;> simp [z]
  obtain ⟨h1, h2⟩ := C.rd b z'
  exact ⟨fun q => (sub1 b (.inl q)).elim h1 h2, fun q => (sub1 b (.inr q)).elim h1 h2⟩
 ·rw [gO]
  obtain ⟨g1, g2, g3, g4⟩ := C.g b z
  exact ⟨g1, g2, fun q => (sub1 b (.inl q)).elim g3 g4, fun q => (sub1 b (.inr q)).elim g3 g4⟩
 ·rcases slot j' _ hj' with ⟨rfl, e⟩ | ⟨_, s0, h0, e⟩
  ·rcases hm with ⟨t, rfl, rfl⟩ | ⟨rfl, k', p', a', rfl, hk, hp⟩
   ·cases e
   ·cases e; exact plk hk hp
  ·rcases Z600 (j := j) s0 with ⟨e', hne⟩ | ⟨e', _⟩
   ·rw [e'] at e
    subst e
    exact plk (fun z => hne q b (by rw [z])) (C.bor j' k q b h0)
   ·rw [e'] at e; cases e
 ·rcases slot j' _ h2 with ⟨rfl, rfl⟩ | ⟨hne, s0, h0, rfl⟩
  ·have : i' = i := by
    have a1 := (List.getElem?_eq_some_iff.mp h1)
    have a2 := (List.getElem?_eq_some_iff.mp hix)
    exact (List.getElem_inj hnd).mp (a1.2.trans a2.2.symm)
   subst this
   rw [hv] at h3
   cases h3
   rw [List.getElem?_set, if_pos rfl, if_pos hi]
  ·have hii : i ≠ i' := by rintro rfl; rw [hix] at h1; cases h1; exact hne rfl
   rw [List.getElem?_set, if_neg hii]
   refine C.sl i' j' s0 u h1 h0 ?_
   rcases Z600 (j := j) s0 with ⟨e', _⟩ | ⟨e', _⟩
   ·rwa [e'] at h3
   ·rw [e'] at h3; cases h3
 ·have hne : j' ≠ j := by rintro rfl; exact C.hdx j' b hb (List.mem_of_getElem? hix)
  rcases slot j' _ h2 with ⟨rfl, rfl⟩ | ⟨_, s0, h0, rfl⟩
  ·exact absurd rfl hne
  ·refine C.hdn j' b hb s0 u h0 ?_
   rcases Z600 (j := j) s0 with ⟨e', _⟩ | ⟨e', _⟩
   ·rwa [e'] at h3
   ·rw [e'] at h3; cases h3
noncomputable def lG (R : RC) (ix : List Nat) (b : Sd → DV → Option Sd) : TG := fun v σ H Q => ∃ hd ts fr tv, Cf R ix hd H σ ts (tv.tr ++ fr) ∧ TvOk ts v tv ∧ ∃ s', b (ts.map TL.er) tv.er = some s' ∧ ∀ σ' ts', ts'.map TL.er = s' → Cf R ix hd H σ' ts' fr → Q σ' H
theorem Z273 {i j : Nat} (hix : ix[i]? = some j) (hnd : ix.Nodup) (v : V) (σ : L2.St) (H : Hp) (Q : L2.St → Hp → Prop) (h : lG R ix (asgD j) v σ H Q) : gName i v σ H Q := by
 obtain ⟨hd, ts, fr, tv, C, hv, s', hs, q⟩ := h
 have er1 : ∀ y : TL, ((ts.map (unrootT j)).set j y).map TL.er = ((ts.map TL.er).map (unrootD j)).set j y.er := fun y => by
  rw [List.map_set, List.map_map, List.map_map]
  exact congrArg (fun l => List.set l j y.er) (List.map_congr_left fun s _ => Z601 s)
 cases tv with
 | val t =>
  cases hv
  cases hs
  exact q _ _ (er1 (.own true t)) (Cf.slot (y := .own true t) C hix hnd rfl (.inl ⟨t, rfl, rfl⟩))
 | plc k p a =>
  obtain ⟨rfl, hp⟩ := hv
  simp only [TV.er, asgD] at hs
  by_cases hk : k = j
  ·subst hk
   rw [if_pos rfl] at hs
   by_cases hp0 : p = []
   ·subst hp0
    rw [if_pos rfl] at hs
    cases hs
    have : σ.set i (some (.ref a)) = σ := by
     obtain ⟨w, t, s, h1, h2, h3⟩ := hp
     cases h2
     have h4 := C.sl i k _ _ hix h1 rfl
     rw [h3] at h4
     refine List.ext_getElem? fun n => ?_
     rw [List.getElem?_set]
     by_cases hn : i = n
     ·subst hn
      rw [if_pos rfl, if_pos (List.getElem?_eq_some_iff.mp h4).1, h4]
     ·rw [if_neg hn]
    show Q (σ.set i (some (.ref a))) H
    rw [this]
    exact q σ ts rfl C
   ·rw [if_neg hp0] at hs; cases hs
  ·rw [if_neg hk] at hs
   cases hs
   exact q _ _ (er1 (.bor k p a)) (Cf.slot (y := .bor k p a) (m := []) C hix hnd rfl (.inr ⟨rfl, k, p, a, rfl, hk, hp⟩))
end
end RM
set_option Elab.async false
set_option linter.all false
set_option maxRecDepth 100000

namespace RM
open PySem PySem.Spec PyProof.Rows L2
noncomputable def bV (f : EF) : BF := fun s => match f s with
 | .ok (.val (.at (.bl b))) s1 => .ok b s1
 | .ok _ _ => .no
 | .ex C s1 => .ex C s1
 | .no => .no
noncomputable def bNot (f : BF) : BF := fun s => match f s with
 | .ok b s1 => .ok (!b) s1
 | r => r
noncomputable def bAnd (f g : BF) : BF := fun s => match f s with
 | .ok true s1 => g s1
 | r => r
noncomputable def bOr (f g : BF) : BF := fun s => match f s with
 | .ok false s1 => g s1
 | r => r
noncomputable def sSeq (f g : SF) : SF := fun s => match f s with
 | .nx s1 => g s1
 | r => r
noncomputable def sIf (c : BF) (a b : SF) : SF := fun s => match c s with
 | .ok true s1 => a s1
 | .ok false s1 => b s1
 | .ex C s1 => .ex C s1
 | .no => .no
noncomputable def sE (f : EF) : SF := fun s => match f s with
 | .ok _ s1 => .nx s1
 | .ex C s1 => .ex C s1
 | .no => .no
noncomputable def sRet (f : EF) : SF := fun s => match f s with
 | .ok r s1 => .rt r s1
 | .ex C s1 => .ex C s1
 | .no => .no
noncomputable def sRetN : SF := fun s => .rt (.val (.at .non)) s
noncomputable def sPass : SF := fun s => .nx s
noncomputable def sBrk : SF := fun s => .bk s
noncomputable def sCt : SF := fun s => .ct s
noncomputable def sAsg (f : EF) (b : Sd → DV → Option Sd) : SF := fun s => match f s with
 | .ok r s1 => (match b s1 r with | some s2 => .nx s2 | none => .no)
 | .ex C s1 => .ex C s1
 | .no => .no
noncomputable def eIf (c : BF) (a b : EF) : EF := fun s => match c s with
 | .ok true s1 => a s1
 | .ok false s1 => b s1
 | .ex C s1 => .ex C s1
 | .no => .no
section
variable {R : RC} {ix : List Nat} {hd : List (Nat × Addr)} {X : Cx} {e : Expr} {H H' : Hp} {σ : L2.St} {ts : Ts} {fr : List T}
theorem lT_v {f : EF} (σ : L2.St) (H : Hp) (Q : Bool → Hp → Prop) (h : lT R ix (bV f) σ H Q) : lE R ix f σ H fun x H1 => ∃ c, x = .bl c ∧ Q c H1 := by
 obtain ⟨hd, ts, fr, C, h⟩ := h
 refine ⟨hd, ts, fr, C, ?_⟩
 unfold bV at h
 cases ef : f (ts.map TL.er) with
 | no => rw [ef] at h; exact h
 | ex E s1 => rw [ef] at h; exact h
 | ok r s1 =>
  rw [ef] at h
  intro H1 ts1 tv v e1 e2 hv C1
  cases r with
  | plc k p => exact h.elim
  | val d =>
   obtain ⟨t, rfl, rfl, rfl⟩ := hv.er_val e2
   cases t with
   | nd a k l => exact h.elim
   | «at» v =>
    cases v with
    | bl b => exact ⟨b, rfl, h H1 ts1 e1 C1.drop⟩
    | _ => exact h.elim
theorem Z285 {f : BF} (σ : L2.St) (H : Hp) (Q : Bool → Hp → Prop) (h : lT R ix (bNot f) σ H Q) : tNot (lT R ix f) σ H Q := by
 obtain ⟨hd, ts, fr, C, h⟩ := h
 refine ⟨hd, ts, fr, C, ?_⟩
 unfold bNot at h
 cases ef : f (ts.map TL.er) with
 | no => rw [ef] at h; exact h
 | ex E s1 => rw [ef] at h; exact h
 | ok r s1 => rw [ef] at h; exact h
theorem lT_or {f g : BF} (σ : L2.St) (H : Hp) (Q : Bool → Hp → Prop) (h : lT R ix (bOr f g) σ H Q) : tOr (lT R ix f) (lT R ix g) σ H Q := by
 obtain ⟨hd, ts, fr, C, h⟩ := h
 refine ⟨hd, ts, fr, C, ?_⟩
 unfold bOr at h
 cases ef : f (ts.map TL.er) with
 | no => rw [ef] at h; exact h
 | ex E s1 => rw [ef] at h; exact h
 | ok r s1 =>
  rw [ef] at h
  intro H1 ts1 e1 C1
  cases r with
  | true => rw [if_pos rfl]; exact h H1 ts1 e1 C1
  | false => subst e1; rw [if_neg Bool.false_ne_true]; exact ⟨hd, ts1, fr, C1, h⟩
theorem Z284 {f g : SF} (D : Ends) (σ : L2.St) (H : Hp) (h : lS R ix (sSeq f g) D σ H) : tSeq (lS R ix f) (lS R ix g) D σ H := by
 obtain ⟨hd, ts, fr, C, h⟩ := h
 refine ⟨hd, ts, fr, C, ?_⟩
 unfold sSeq at h
 cases ef : f (ts.map TL.er) with
 | nx s1 =>
  rw [ef] at h
  intro H1 σ1 ts1 e1 C1
  subst e1
  exact ⟨hd, ts1, fr, C1, h⟩
 | no => rw [ef] at h; exact h
 | ex E s1 => rw [ef] at h; exact h
 | rt r s1 => rw [ef] at h; exact h
 | bk s1 => rw [ef] at h; exact h
 | ct s1 => rw [ef] at h; exact h
theorem lS_if {c : BF} {f g : SF} (D : Ends) (σ : L2.St) (H : Hp) (h : lS R ix (sIf c f g) D σ H) : tIfS (lT R ix c) (lS R ix f) (lS R ix g) D σ H := by
 obtain ⟨hd, ts, fr, C, h⟩ := h
 refine ⟨hd, ts, fr, C, ?_⟩
 unfold sIf at h
 cases ef : c (ts.map TL.er) with
 | no => rw [ef] at h; exact h
 | ex E s1 => rw [ef] at h; intro H1 ts1 e1 C1; exact h H1 σ ts1 e1 C1
 | ok r s1 =>
  rw [ef] at h
  intro H1 ts1 e1 C1
  subst e1
  cases r with
  | true => rw [if_pos rfl]; exact ⟨hd, ts1, fr, C1, h⟩
  | false => rw [if_neg Bool.false_ne_true]; exact ⟨hd, ts1, fr, C1, h⟩
theorem lS_e {f : EF} (D : Ends) (σ : L2.St) (H : Hp) (h : lS R ix (sE f) D σ H) : tDrop (lE R ix f) D σ H := by
 obtain ⟨hd, ts, fr, C, h⟩ := h
 refine ⟨hd, ts, fr, C, ?_⟩
 unfold sE at h
 cases ef : f (ts.map TL.er) with
 | no => rw [ef] at h; exact h
 | ex E s1 => rw [ef] at h; intro H1 ts1 e1 C1; exact h H1 σ ts1 e1 C1
 | ok r s1 => rw [ef] at h; intro H1 ts1 tv v e1 e2 hv C1; exact h H1 σ ts1 e1 C1.drops
theorem Z283 {f : EF} (D : Ends) (σ : L2.St) (H : Hp) (h : lS R ix (sRet f) D σ H) : tRet (lE R ix f) D σ H := by
 obtain ⟨hd, ts, fr, C, h⟩ := h
 refine ⟨hd, ts, fr, C, ?_⟩
 unfold sRet at h
 cases ef : f (ts.map TL.er) with
 | no => rw [ef] at h; exact h
 | ex E s1 => rw [ef] at h; intro H1 ts1 e1 C1; exact h H1 σ ts1 e1 C1
 | ok r s1 => rw [ef] at h; intro H1 ts1 tv v e1 e2 hv C1; exact h H1 σ ts1 tv v e1 e2 hv C1
theorem Z282 (D : Ends) (σ : L2.St) (H : Hp) (h : lS R ix sPass D σ H) : tNext D σ H := by
 obtain ⟨hd, ts, fr, C, h⟩ := h
 exact h H σ ts rfl C
theorem Z277 {f : EF} {b : Sd → DV → Option Sd} (D : Ends) (σ : L2.St) (H : Hp) (h : lS R ix (sAsg f b) D σ H) : tAsg (lE R ix f) (lG R ix b) D σ H := by
 obtain ⟨hd, ts, fr, C, h⟩ := h
 refine ⟨hd, ts, fr, C, ?_⟩
 unfold sAsg at h
 cases ef : f (ts.map TL.er) with
 | no => rw [ef] at h; exact h
 | ex E s1 => rw [ef] at h; intro H1 ts1 e1 C1; exact h H1 σ ts1 e1 C1
 | ok r s1 =>
  rw [ef] at h
  intro H1 ts1 tv v e1 e2 hv C1
  subst e1 e2
  refine ⟨hd, ts1, fr, tv, C1, hv, ?_⟩
  dsimp only at h
  cases eb : b (ts1.map TL.er) tv.er with
  | none => rw [eb] at h; exact h.elim
  | some s2 => rw [eb] at h; exact ⟨s2, rfl, fun σ' ts' e C' => h H1 σ' ts' e C'⟩
end
section
variable {R : RC} {ix : List Nat} {X : Cx} {e a b c : Expr} {st : Stmt} {sts as bs : List Stmt} {pos : Pos} {f g : SF} {fe fa fb : EF} {fc fd : BF}
theorem Z513 : PSs X [] (lS R ix sPass) := pssM Z447 Z282
theorem Z511 (h1 : PS X st (lS R ix f)) (h2 : PSs X sts (lS R ix g)) : PSs X (st :: sts) (lS R ix (sSeq f g)) := pssM (Z446 h1 h2) Z284
theorem Z514 (h1 : PS X st (lS R ix f)) : PSs X [st] (lS R ix f) := Z448 h1
theorem rs_if (hc : PT X c (lT R ix fc)) (ha : PSs X as (lS R ix f)) (hb : PSs X bs (lS R ix g)) : PS X (.If c as bs pos) (lS R ix (sIf fc f g)) := psM (ps_if hc ha hb) lS_if
theorem rs_e (he : PE X e (lE R ix fe)) (hs : swapsWith e none pos.line X.env = pure false := by rfl) : PS X (.Expr e pos) (lS R ix (sE fe)) := psM (Z439 he hs) lS_e
theorem Z508 (he : PE X e (lE R ix fe)) : PS X (.Return (some e) pos) (lS R ix (sRet fe)) := psM (Z443 he) Z283
theorem Z486 {i j : Nat} {x : Str} (hN : X.N.Nodup) (hi : X.N[i]? = some x) (hx : Loc X.env.scope x) (hix : ix[i]? = some j) (hnd : ix.Nodup) (hf : X.fn x = true ∨ X.env.scope.names.lookup x = some .local := by first | exact .inl rfl | exact .inr rfl | assumption) : PG X (.Name x pos) (lG R ix (asgD j)) := by
 intro pins s σ H v u Q I r h
 exact Z423 hN hi hx hf pins s σ H v u Q I r (Z273 hix hnd v σ H Q h)
theorem Z499 {tg : Expr} {bd : Sd → DV → Option Sd} (he : PE X e (lE R ix fe)) (hg : PG X tg (lG R ix bd)) (hs : swapsWithSole [tg] e pos.line X.env = pure false := by rfl) (hw : swappedStores [tg] e X.env = pure none := by rfl) (h1 : (assignEach [tg] X.env).map (·.2) = [assign tg X.env] := by rfl) : PS X (.Assign [tg] e pos) (lS R ix (sAsg fe bd)) :=
 psM (Z437 he hg hs hw h1) Z277
theorem rt_v (h : PE X e (lE R ix fe)) (he : ∀ whole, isTrue e X.env whole = (do let v ← whole; standAt e.pos; holding [v] (truthy v)) := by intro _; rfl) : PT X e (lT R ix (bV fe)) := ptM (Z451 h he) lT_v
theorem Z516 (h : PT X a (lT R ix fc)) : PT X (.UnaryOp .Not a pos) (lT R ix (bNot fc)) := ptM (Z450 h) Z285
theorem Z520 (h : PT X a (lT R ix fc)) : PW X (.BoolOp .Or [a] pos) (lT R ix fc) := Z456 h
theorem rw_or {rest : List Expr} (ha : PT X a (lT R ix fc)) (hb : PW X (.BoolOp .Or (b :: rest) pos) (lT R ix fd)) : PW X (.BoolOp .Or (a :: b :: rest) pos) (lT R ix (bOr fc fd)) :=
 fun whole pins s σ H Q I q => pw_or ha hb whole pins s σ H Q I (lT_or σ H Q q)
end
end RM
set_option Elab.async false
set_option linter.all false
set_option maxRecDepth 100000

namespace RM
open PySem PySem.Spec PyProof.Rows L2
noncomputable def loopG (it : Nat → Sd → Option (Option DV)) (b : Sd → DV → Option Sd) (body : SF) : Nat → Nat → Sd → SR
 | 0, _, _ => .no
 | m + 1, i, s => match it i s with
  | none => .no
  | some none => .nx s
  | some (some r) => match b s r with
   | none => .no
   | some s1 => match body s1 with
    | .nx s2 => loopG it b body m (i + 1) s2
    | .ct s2 => loopG it b body m (i + 1) s2
    | .bk s2 => .nx s2
    | .rt r s2 => .rt r s2
    | .ex C s2 => .ex C s2
    | .no => .no
noncomputable def popD (n : Nat) (s : Sd) : Option Sd := if s.length = n + 1 then some (s.map (unrootD n)).dropLast else none
noncomputable def fin (n : Nat) : SR → SR
 | .nx s => (match popD n s with | some s' => .nx s' | none => .no)
 | .rt (.val d) s => (match popD n s with | some s' => .rt (.val d) s' | none => .no)
 | .rt (.plc k p) s => if k = n then .no else (match popD n s with | some s' => .rt (.plc k p) s' | none => .no)
 | .ex C s => (match popD n s with | some s' => .ex C s' | none => .no)
 | _ => .no
noncomputable def held (n k : Nat) (p : List Nat) (s : Sd) : Bool := match s[n]? with
 | some (.bor k' p') => decide (k' = k) && decide (p' = p)
 | some (.own _ _) => decide (k = n) && decide (p = [])
 | _ => false
noncomputable def itP (isT : Bool) (n k : Nat) (p : List Nat) (i : Nat) (s : Sd) : Option (Option DV) := if held n k p s then (match dref s (.plc k p), isT with
  | some (.nd (.lst _) l), false => some ((l[i]?).map (mkV k (p ++ [i])))
  | some (.nd .tup l), true => some ((l[i]?).map (mkV k (p ++ [i])))
  | _, _ => none) else none
noncomputable def seqOf : Option D → Option (Bool × Nat)
 | some (.nd (.lst _) l) => some (false, l.length)
 | some (.nd .tup l) => some (true, l.length)
 | _ => none
noncomputable def sForL (f : EF) (b : Sd → DV → Option Sd) (body : SF) : SF := fun s => match f s with
 | .ok (.plc k p) s1 => (match seqOf (dref s1 (.plc k p)) with
  | some (t, m) => fin s1.length (loopG (itP t s1.length k p) b body (m + 1) 0 (s1 ++ [.bor k p]))
  | none => .no)
 | .ok (.val d) s1 => (match seqOf (some d) with
  | some (t, m) => fin s1.length (loopG (itP t s1.length s1.length []) b body (m + 1) 0 (s1 ++ [.own true d]))
  | none => .no)
 | .ex C s1 => .ex C s1
 | .no => .no
noncomputable def itR (lo : Int) (n : Nat) (i : Nat) (_ : Sd) : Option (Option DV) := some (if i < n then some (.val (.at (.int (lo + i)))) else none)
noncomputable def sForR (f : AF) (b : Sd → DV → Option Sd) (body : SF) : SF := fun s => match f s with
 | .ok [.val (.at (.int j))] s1 => if -(2 ^ 62) ≤ j ∧ j < 2 ^ 62 then loopG (itR 0 j.toNat) b body (j.toNat + 1) 0 s1 else .no
 | .ok [.val (.at (.int i)), .val (.at (.int j))] s1 => if -(2 ^ 62) ≤ i ∧ i < 2 ^ 62 ∧ -(2 ^ 62) ≤ j ∧ j < 2 ^ 62 then loopG (itR i (j - i).toNat) b body ((j - i).toNat + 1) 0 s1 else .no
 | .ok _ _ => .no
 | .ex C s1 => .ex C s1
 | .no => .no
theorem map1 {α β : Type} {f : α → β} {l : List α} {b : β} (h : l.map f = [b]) : ∃ a, l = [a] ∧ f a = b := by
 cases l with
 | nil => cases h
 | cons x r => cases r with
  | nil => simp at h; exact ⟨x, rfl, h⟩
  | cons y r => simp at h
theorem map2 {α β : Type} {f : α → β} {l : List α} {b c : β} (h : l.map f = [b, c]) : ∃ x y, l = [x, y] ∧ f x = b ∧ f y = c := by
 cases l with
 | nil => cases h
 | cons x r =>
  simp only [List.map_cons, List.cons.injEq] at h
  obtain ⟨y, rfl, h2⟩ := map1 h.2
  exact ⟨x, y, rfl, h.1, h2⟩
section
variable {R : RC} {ix : List Nat} {hd : List (Nat × Addr)} {X : Cx} {e : Expr} {H H' : Hp} {σ : L2.St} {ts : Ts} {fr : List T} {D : Ends}
noncomputable def Post (R : RC) (ix : List Nat) (hd : List (Nat × Addr)) (fr : List T) (D : Ends) : SR → Prop
 | .nx s' => ∀ H' σ' ts', ts'.map TL.er = s' → Cf R ix hd H' σ' ts' fr → D.nx σ' H'
 | .rt r s' => ∀ H' σ' ts' tv v, ts'.map TL.er = s' → tv.er = r → TvOk ts' v tv → Cf R ix hd H' σ' ts' (tv.tr ++ fr) → D.rt v H'
 | .ex C s' => ∀ H' σ' ts', ts'.map TL.er = s' → Cf R ix hd H' σ' ts' fr → R.EX σ' (.ref (R.ad C)) none H'
 | _ => False
theorem Z315 {J : It} {it : Nat → Sd → Option (Option DV)} {b : Sd → DV → Option Sd} {body : SF} {m : Nat}
  (ok : ∀ i H σ ts, Cf R ix hd H σ ts fr → (it i (ts.map TL.er) = some none → J.stop i H) ∧ ∀ r, it i (ts.map TL.er) = some (some r) → J.go i H ∧ ∀ x H', J.yld i H x H' → ∃ tv, tv.er = r ∧ TvOk ts x tv ∧ Cf R ix hd H' σ ts (tv.tr ++ fr))
  (C : Cf R ix hd H σ ts fr) (P : Post R ix hd fr D (loopG it b body m 0 (ts.map TL.er))) :
  ∃ W : Nat → Nat → L2.St → Hp → Prop, (∃ m, W 0 m σ H) ∧ ∀ i m σ H, W i m σ H →
   (J.stop i H ∧ D.nx σ H) ∨ (J.go i H ∧ ∃ N : L2.St → Hp → Prop, (∀ σ' H', N σ' H' → ∃ m', m' < m ∧ W (i + 1) m' σ' H') ∧ ∀ x H', J.yld i H x H' → lG R ix b x σ H' fun σ2 H2 => lS R ix body { D with nx := N, ct := N, bk := D.nx } σ2 H2) := by
 refine ⟨fun i m σ H => ∃ ts, Cf R ix hd H σ ts fr ∧ Post R ix hd fr D (loopG it b body m i (ts.map TL.er)), ⟨m, ts, C, P⟩, ?_⟩
 rintro i m σ H ⟨ts, C, P⟩
 cases m with
 | zero => exact P.elim
 | succ m =>
  unfold loopG at P
  obtain ⟨o1, o2⟩ := ok i H σ ts C
  cases ei : it i (ts.map TL.er) with
  | none => rw [ei] at P; exact P.elim
  | some y =>
   rw [ei] at P
   cases y with
   | none => exact .inl ⟨o1 ei, P H σ ts rfl C⟩
   | some r =>
    obtain ⟨g1, g2⟩ := o2 r ei
    refine .inr ⟨g1, fun σ' H' => ∃ ts', Cf R ix hd H' σ' ts' fr ∧ Post R ix hd fr D (loopG it b body m (i + 1) (ts'.map TL.er)), fun σ' H' n => ⟨m, Nat.lt_succ_self m, n⟩, fun x H' hy => ?_⟩
    obtain ⟨tv, rfl, hv, C'⟩ := g2 x H' hy
    dsimp only at P
    cases eb : b (ts.map TL.er) tv.er with
    | none => rw [eb] at P; exact P.elim
    | some s1 =>
     rw [eb] at P
     refine ⟨hd, ts, fr, tv, C', hv, s1, eb, fun σ2 ts2 e2 C2 => ⟨hd, ts2, fr, C2, ?_⟩⟩
     rw [e2]
     dsimp only at P
     cases ed : body s1 with
     | nx s2 => rw [ed] at P; intro H3 σ3 ts3 e3 C3; subst e3; exact ⟨ts3, C3, P⟩
     | ct s2 => rw [ed] at P; intro H3 σ3 ts3 e3 C3; subst e3; exact ⟨ts3, C3, P⟩
     | bk s2 => rw [ed] at P; exact P
     | rt r s2 => rw [ed] at P; exact P
     | ex E s2 => rw [ed] at P; exact P
     | no => rw [ed] at P; exact P.elim
theorem Z222 {lo : Int} {n : Nat} (i : Nat) (H : Hp) (σ : L2.St) (ts : Ts) (C : Cf R ix hd H σ ts fr) : (itR lo n i (ts.map TL.er) = some none → (Itr lo n).stop i H) ∧ ∀ r, itR lo n i (ts.map TL.er) = some (some r) → (Itr lo n).go i H ∧ ∀ x H', (Itr lo n).yld i H x H' → ∃ tv, tv.er = r ∧ TvOk ts x tv ∧ Cf R ix hd H' σ ts (tv.tr ++ fr) := by
 unfold itR
 by_cases h : i < n
 ·rw [if_pos h]
  refine ⟨fun z => by simp at z, fun r hr => ⟨h, ?_⟩⟩
  cases hr
  rintro x _ ⟨rfl, rfl⟩
  exact ⟨.val (.at (.int (lo + i))), rfl, rfl, C.at _⟩
 ·rw [if_neg h]
  exact ⟨fun _ => Nat.le_of_not_lt h, fun r hr => by simp at hr⟩
theorem Post.of {f : SF} (h : match f (ts.map TL.er) with
 | .nx s' => ∀ H' σ' ts', ts'.map TL.er = s' → Cf R ix hd H' σ' ts' fr → D.nx σ' H'
 | .rt r s' => ∀ H' σ' ts' tv v, ts'.map TL.er = s' → tv.er = r → TvOk ts' v tv → Cf R ix hd H' σ' ts' (tv.tr ++ fr) → D.rt v H'
 | .bk s' => ∀ H' σ' ts', ts'.map TL.er = s' → Cf R ix hd H' σ' ts' fr → D.bk σ' H'
 | .ct s' => ∀ H' σ' ts', ts'.map TL.er = s' → Cf R ix hd H' σ' ts' fr → D.ct σ' H'
 | .ex C s' => ∀ H' σ' ts', ts'.map TL.er = s' → Cf R ix hd H' σ' ts' fr → R.EX σ' (.ref (R.ad C)) none H'
 | .no => False) (hb : ∀ s, f (ts.map TL.er) ≠ .bk s) (hc : ∀ s, f (ts.map TL.er) ≠ .ct s) : Post R ix hd fr D (f (ts.map TL.er)) := by
 cases e : f (ts.map TL.er) with
 | nx s => rw [e] at h; exact h
 | rt r s => rw [e] at h; exact h
 | ex E s => rw [e] at h; exact h
 | no => rw [e] at h; exact h
 | bk s => exact absurd e (hb s)
 | ct s => exact absurd e (hc s)
theorem Z313 {it : Nat → Sd → Option (Option DV)} {b : Sd → DV → Option Sd} {body : SF} : ∀ (m i : Nat) (s s' : Sd), loopG it b body m i s ≠ .bk s' ∧ loopG it b body m i s ≠ .ct s'
 | 0, _, _, _ => ⟨(by intro z; cases z), (by intro z; cases z)⟩
 | m + 1, i, s, s' => by
  unfold loopG
  cases it i s with
  | none => exact ⟨(by intro z; cases z), (by intro z; cases z)⟩
  | some y => cases y with
   | none => exact ⟨(by intro z; cases z), (by intro z; cases z)⟩
   | some r =>
    dsimp only
    cases b s r with
    | none => exact ⟨(by intro z; cases z), (by intro z; cases z)⟩
    | some s1 =>
     dsimp only
     cases body s1 with
     | nx s2 => exact Z313 m (i + 1) s2 s'
     | ct s2 => exact Z313 m (i + 1) s2 s'
     | _ => exact ⟨(by intro z; cases z), (by intro z; cases z)⟩
theorem Z280 {f : AF} {b : Sd → DV → Option Sd} {body : SF} (D : Ends) (σ : L2.St) (H : Hp) (h : lS R ix (sForR f b body) D σ H) :
  lA R ix f σ H fun vs H1 => (∃ j : Int, vs = [.int j] ∧ (-(2 ^ 62) ≤ j ∧ j < 2 ^ 62) ∧ (∃ W : Nat → Nat → L2.St → Hp → Prop, (∃ m, W 0 m σ H1) ∧ ∀ i m σ H, W i m σ H →
   ((Itr 0 j.toNat).stop i H ∧ D.nx σ H) ∨ ((Itr 0 j.toNat).go i H ∧ ∃ N : L2.St → Hp → Prop, (∀ σ' H', N σ' H' → ∃ m', m' < m ∧ W (i + 1) m' σ' H') ∧ ∀ x H', (Itr 0 j.toNat).yld i H x H' → lG R ix b x σ H' fun σ2 H2 => lS R ix body { D with nx := N, ct := N, bk := D.nx } σ2 H2))) ∨
   (∃ k j : Int, vs = [.int k, .int j] ∧ (-(2 ^ 62) ≤ k ∧ k < 2 ^ 62 ∧ -(2 ^ 62) ≤ j ∧ j < 2 ^ 62) ∧ (∃ W : Nat → Nat → L2.St → Hp → Prop, (∃ m, W 0 m σ H1) ∧ ∀ i m σ H, W i m σ H →
   ((Itr k (j - k).toNat).stop i H ∧ D.nx σ H) ∨ ((Itr k (j - k).toNat).go i H ∧ ∃ N : L2.St → Hp → Prop, (∀ σ' H', N σ' H' → ∃ m', m' < m ∧ W (i + 1) m' σ' H') ∧ ∀ x H', (Itr k (j - k).toNat).yld i H x H' → lG R ix b x σ H' fun σ2 H2 => lS R ix body { D with nx := N, ct := N, bk := D.nx } σ2 H2))) := by
 obtain ⟨hd, ts, fr, C, h⟩ := h
 refine ⟨hd, ts, fr, C, ?_⟩
 unfold sForR at h
 cases ef : f (ts.map TL.er) with
 | no => rw [ef] at h; exact h
 | ex E s1 => rw [ef] at h; intro H1 ts1 e1 C1; exact h H1 σ ts1 e1 C1
 | ok rs s1 =>
  rw [ef] at h
  intro H1 ts1 tvs vs e1 e2 hv C1
  subst e1
  have one : ∀ {r : DV} {v : V} {tv : TV} {i : Int}, tv.er = r → TvOk ts1 v tv → r = .val (.at (.int i)) → v = .int i := by
   rintro r v tv i rfl hv hr
   obtain ⟨t, rfl, te, rfl⟩ := hv.er_val hr
   cases t with
   | nd a k l => cases te
   | «at» u => cases u with
    | int j => cases te; rfl
    | _ => cases te
  match rs, h with
  | [.val (.at (.int j))], h =>
    obtain ⟨tv, rfl, e5⟩ := map1 e2
    cases hv with
    | cons hv hn =>
    cases hn
    cases one e5 hv rfl
    by_cases hj : -(2 ^ 62) ≤ j ∧ j < 2 ^ 62
    ·dsimp only at h
     rw [if_pos hj] at h
     refine .inl ⟨j, rfl, hj, Z315 Z222 (C1.drops) (Post.of (f := fun s => loopG (itR 0 j.toNat) b body (j.toNat + 1) 0 s) h (fun s => (Z313 _ _ _ s).1) fun s => (Z313 _ _ _ s).2)⟩
    ·dsimp only at h; rw [if_neg hj] at h; exact h.elim
  | [.val (.at (.int k)), .val (.at (.int j))], h =>
    obtain ⟨tv, tw, rfl, e5, e3⟩ := map2 e2
    cases hv with
    | cons hv hw =>
    cases hw with
    | cons hw hn =>
    cases hn
    cases one e5 hv rfl
    cases one e3 hw rfl
    by_cases hj : -(2 ^ 62) ≤ k ∧ k < 2 ^ 62 ∧ -(2 ^ 62) ≤ j ∧ j < 2 ^ 62
    ·dsimp only at h
     rw [if_pos hj] at h
     exact .inr ⟨k, j, rfl, hj, Z315 Z222 (C1.drops) (Post.of (f := fun s => loopG (itR k (j - k).toNat) b body ((j - k).toNat + 1) 0 s) h (fun s => (Z313 _ _ _ s).1) fun s => (Z313 _ _ _ s).2)⟩
    ·dsimp only at h; rw [if_neg hj] at h; exact h.elim
end
end RM
set_option Elab.async false
set_option linter.all false
set_option maxRecDepth 100000

namespace RM
open PySem PySem.Spec PyProof.Rows L2
section
variable {R : RC} {ix : List Nat} {hd hm : List (Nat × Addr)} {X : Cx} {e : Expr} {H H' : Hp} {σ : L2.St} {ts : Ts} {fr : List T} {D : Ends}
theorem Cf.push {t : T} {a : Addr} (C : Cf R ix hd H σ ts (t :: fr)) (ha : t.val = .ref a) : Cf R ix (hd ++ [(ts.length, a)]) H σ (ts ++ [.own true t]) fr := by
 have e1 : ownS (ts ++ [.own true t]) = ownS ts ++ t.own := by rw [Z391]; simp [ownS, TL.own1]
 have e2 : roS (ts ++ [.own true t]) = roS ts ++ t.ro := by rw [Z496]; simp [roS, TL.ro1]
 have e3 : rdS (ts ++ [.own true t]) = rdS ts := by rw [Z462]; simp [rdS, TL.rd1]
 refine ⟨fun w u z => ?_, C.fok.2, ?_, fun b z => ?_, fun b z => ?_, fun b z => ?_, C.bg, fun j k' p' a' z => ?_, fun j z => by simpa using Nat.lt_succ_of_lt (C.ixs j z), fun i j s v z1 z2 z3 => ?_, fun j b z => ?_, fun j b z => ?_, C.len, fun j b z s v z2 z3 => ?_⟩
 ·rcases List.mem_append.mp z with z | z
  ·exact C.ok w u z
  ·simp only [List.mem_singleton, TL.own.injEq] at z
   rw [z.2]; exact C.fok.1
 ·rw [e1, List.append_assoc]; exact C.nd
 ·rw [e1]
  have := C.sep b (by
   rw [e2] at z
   rw [T.ros_cons]
   simp only [List.mem_append] at z ⊢
   rcases z with (z | z) | z <;> simp [z])
  rw [T.owns_cons] at this
  simp only [List.mem_append, not_or] at this ⊢
  exact ⟨⟨this.1, this.2.1.1⟩, this.2.1.2, this.2.2⟩
 ·rw [e3] at z
  rw [e1]
  have := C.rd b z
  rw [T.owns_cons] at this
  simp only [List.mem_append, not_or] at this ⊢
  exact ⟨⟨this.1, this.2.1⟩, this.2.2⟩
 ·rw [e1]
  have := C.g b z
  rw [T.owns_cons] at this
  simp only [List.mem_append, not_or] at this ⊢
  exact ⟨this.1, this.2.1, ⟨this.2.2.1, this.2.2.2.1⟩, this.2.2.2.2⟩
 ·have hj : j < ts.length := by
   rcases Nat.lt_or_ge j ts.length with h | h
   ·exact h
   ·rw [List.getElem?_append_right h] at z
    have : j - ts.length = 0 := by
     have := (List.getElem?_eq_some_iff.mp z).1
     simp at this; omega
    rw [this] at z; cases z
  rw [List.getElem?_append_left hj] at z
  exact (C.bor j k' p' a' z).app _
 ·have := C.ixs j (List.mem_of_getElem? z1)
  rw [List.getElem?_append_left this] at z2
  exact C.sl i j s v z1 z2 z3
 ·rcases List.mem_append.mp z with z | z
  ·simpa using Nat.lt_succ_of_lt (C.hdi j b z)
  ·simp only [List.mem_singleton, Prod.mk.injEq] at z
   simp [z.1]
 ·rcases List.mem_append.mp z with z | z
  ·exact C.hdx j b z
  ·simp only [List.mem_singleton, Prod.mk.injEq] at z
   rw [z.1]
   exact fun q => absurd (C.ixs _ q) (Nat.lt_irrefl _)
 ·rcases List.mem_append.mp z with z | z
  ·rw [List.getElem?_append_left (C.hdi j b z)] at z2
   exact C.hdn j b z s v z2 z3
  ·simp only [List.mem_singleton, Prod.mk.injEq] at z
   obtain ⟨rfl, rfl⟩ := z
   rw [List.getElem?_append_right (Nat.le_refl _), Nat.sub_self] at z2
   cases z2
   simp only [TL.v, Option.some.injEq] at z3
   rw [← z3, ha]
theorem Cf.popAny {x : TL} (C : Cf R ix (hd ++ hm) H σ (ts ++ [x]) fr) (hi : ∀ j ∈ ix, j < ts.length) (hj : ∀ j a, (j, a) ∈ hd → j < ts.length) : Cf R ix hd H σ (ts.map (unrootT ts.length)) fr := by
 have o1 : ∀ a, a ∈ ownS (ts.map (unrootT ts.length)) → a ∈ ownS (ts ++ [x]) := fun a z => by
  unfold ownS at z; rw [Z602 (by intros; rfl)] at z; rw [Z391]; exact List.mem_append_left _ z
 have r1 : ∀ a, a ∈ roS (ts.map (unrootT ts.length)) → a ∈ roS (ts ++ [x]) := fun a z => by
  unfold roS at z; rw [Z602 (by intros; rfl)] at z; rw [Z496]; exact List.mem_append_left _ z
 have d1 : ∀ a, a ∈ rdS (ts.map (unrootT ts.length)) → a ∈ rdS (ts ++ [x]) := fun a z => by
  unfold rdS at z; rw [Z602 (by intros; rfl)] at z; rw [Z462]; exact List.mem_append_left _ z
 have slot : ∀ (j : Nat) (s : TL), (ts.map (unrootT ts.length))[j]? = some s → ∃ s0, ts[j]? = some s0 ∧ s = unrootT ts.length s0 ∧ (ts ++ [x])[j]? = some s0 := by
  intro j s hs
  rw [List.getElem?_map] at hs
  cases e : ts[j]? with
  | none => rw [e] at hs; cases hs
  | some s0 => rw [e] at hs; cases hs; exact ⟨s0, rfl, rfl, by rw [List.getElem?_append_left (List.getElem?_eq_some_iff.mp e).1]; exact e⟩
 have vv : ∀ (s0 : TL) (v : V), (unrootT ts.length s0).v = some v → s0.v = some v := by
  intro s0 v h
  rcases Z600 (j := ts.length) s0 with ⟨e', _⟩ | ⟨e', _⟩
  ·rwa [e'] at h
  ·rw [e'] at h; cases h
 refine ⟨fun w u z => ?_, C.fok, ?_, fun b z => ?_, fun b z => ?_, fun b z => ?_, C.bg, fun j k q b z => ?_, fun j z => by simpa using hi j z, fun i j s v z1 z2 z3 => ?_, fun j b z => by simpa using hj j b z, fun j b z => C.hdx j b (List.mem_append_left _ z), C.len, fun j b z s v z2 z3 => ?_⟩
 ·obtain ⟨j, hj'⟩ := List.mem_iff_getElem?.mp z
  obtain ⟨s0, h1, h2, h3⟩ := slot j _ hj'
  rcases Z600 (j := ts.length) s0 with ⟨e', _⟩ | ⟨e', _⟩
  ·rw [e'] at h2; subst h2; exact C.ok w u (List.mem_of_getElem? h3)
  ·rw [e'] at h2; cases h2
 ·have := C.nd
  rw [Z391, List.append_assoc] at this
  have h1 := List.nodup_append.mp this
  have h2 := List.nodup_append.mp h1.2.1
  have e : ownS (ts.map (unrootT ts.length)) = ownS ts := by unfold ownS; exact Z602 (by intros; rfl) ts
  rw [e]
  exact List.nodup_append.mpr ⟨h1.1, h2.2.1, fun a za b zb => h1.2.2 a za b (List.mem_append_right _ zb)⟩
 ·have := C.sep b (z.imp (r1 b) id)
  exact ⟨fun q => this.1 (o1 b q), this.2.1, this.2.2⟩
 ·have := C.rd b (d1 b z)
  exact ⟨fun q => this.1 (o1 b q), this.2⟩
 ·have := C.g b z
  exact ⟨this.1, this.2.1, fun q => this.2.2.1 (o1 b q), this.2.2.2⟩
 ·obtain ⟨s0, h1, h2, h3⟩ := slot j _ z
  rcases Z600 (j := ts.length) s0 with ⟨e', hne⟩ | ⟨e', _⟩
  ·rw [e'] at h2
   subst h2
   have hk : k ≠ ts.length := fun z => hne q b (by rw [z])
   obtain ⟨w, u, s, q1, q2, q3⟩ := C.bor j k q b h3
   refine ⟨w, u, s, ?_, q2, q3⟩
   have hlt : k < ts.length := by
    have := (List.getElem?_eq_some_iff.mp q1).1
    simp at this; omega
   rw [List.getElem?_append_left hlt] at q1
   rw [List.getElem?_map, q1]; rfl
  ·rw [e'] at h2; cases h2
 ·obtain ⟨s0, h1, rfl, h3⟩ := slot j _ z2
  exact C.sl i j s0 v z1 h3 (vv s0 v z3)
 ·obtain ⟨s0, h1, rfl, h3⟩ := slot j _ z2
  exact C.hdn j b (List.mem_append_left _ z) s0 v h3 (vv s0 v z3)
theorem Z435 {n : Nat} {s s' : Sd} {ts' : Ts} (h : popD n s = some s') (e : ts'.map TL.er = s) : ∃ ts0 x, ts' = ts0 ++ [x] ∧ ts0.length = n ∧ (ts0.map (unrootT n)).map TL.er = s' := by
 unfold popD at h
 split at h
 case isFalse => cases h
 case isTrue hl =>
  cases h
  have hne : ts' ≠ [] := by rintro rfl; rw [← e] at hl; simp at hl
  refine ⟨ts'.dropLast, ts'.getLast hne, (List.dropLast_concat_getLast hne).symm, ?_, ?_⟩
  ·rw [List.length_dropLast, Z302 e, hl]; rfl
  ·rw [← e, ← List.map_dropLast, List.map_map, ← List.map_dropLast, List.map_map]
   exact List.map_congr_left fun s _ => Z601 s
theorem Z156 {r : SR} {n : Nat} {hm : List (Nat × Addr)} (hi : ∀ j ∈ ix, j < n) (hj : ∀ j a, (j, a) ∈ hd → j < n)
  (h : match fin n r with
  | .nx s' => ∀ H' σ' ts', ts'.map TL.er = s' → Cf R ix hd H' σ' ts' fr → D.nx σ' H'
  | .rt r s' => ∀ H' σ' ts' tv v, ts'.map TL.er = s' → tv.er = r → TvOk ts' v tv → Cf R ix hd H' σ' ts' (tv.tr ++ fr) → D.rt v H'
  | .bk s' => ∀ H' σ' ts', ts'.map TL.er = s' → Cf R ix hd H' σ' ts' fr → D.bk σ' H'
  | .ct s' => ∀ H' σ' ts', ts'.map TL.er = s' → Cf R ix hd H' σ' ts' fr → D.ct σ' H'
  | .ex C s' => ∀ H' σ' ts', ts'.map TL.er = s' → Cf R ix hd H' σ' ts' fr → R.EX σ' (.ref (R.ad C)) none H'
  | .no => False) : Post R ix (hd ++ hm) fr D r := by
 cases r with
 | nx s =>
  intro H' σ' ts' e C
  simp only [fin] at h
  cases ep : popD n s with
  | none => rw [ep] at h; exact h.elim
  | some s' =>
   rw [ep] at h
   obtain ⟨ts0, x, rfl, hl, e2⟩ := Z435 ep e
   subst hl
   exact h H' σ' _ e2 (C.popAny hi hj)
 | ex E s =>
  intro H' σ' ts' e C
  simp only [fin] at h
  cases ep : popD n s with
  | none => rw [ep] at h; exact h.elim
  | some s' =>
   rw [ep] at h
   obtain ⟨ts0, x, rfl, hl, e2⟩ := Z435 ep e
   subst hl
   exact h H' σ' _ e2 (C.popAny hi hj)
 | rt r s =>
  intro H' σ' ts' tv v e e1 hv C
  cases r with
  | val d =>
   obtain ⟨t, rfl, rfl, rfl⟩ := hv.er_val e1
   simp only [fin] at h
   cases ep : popD n s with
   | none => rw [ep] at h; exact h.elim
   | some s' =>
    rw [ep] at h
    obtain ⟨ts0, x, rfl, hl, e2⟩ := Z435 ep e
    subst hl
    exact h H' σ' _ (.val t) t.val e2 rfl rfl (C.popAny hi hj)
  | plc k p =>
   obtain ⟨a, rfl, rfl, hp⟩ := hv.er_plc e1
   simp only [fin] at h
   by_cases hk : k = n
   ·rw [if_pos hk] at h; exact h.elim
   ·rw [if_neg hk] at h
    cases ep : popD n s with
    | none => rw [ep] at h; exact h.elim
    | some s' =>
     rw [ep] at h
     obtain ⟨ts0, x, rfl, hl, e2⟩ := Z435 ep e
     subst hl
     refine h H' σ' _ (.plc k p a) (.ref a) e2 rfl ⟨rfl, ?_⟩ (C.popAny hi hj)
     obtain ⟨w, u, s, q1, q2, q3⟩ := hp
     refine ⟨w, u, s, ?_, q2, q3⟩
     have hlt : k < ts0.length := by
      have := (List.getElem?_eq_some_iff.mp q1).1
      simp at this; omega
     rw [List.getElem?_append_left hlt] at q1
     rw [List.getElem?_map, q1]; rfl
 | bk s => exact h.elim
 | ct s => exact h.elim
 | no => exact h.elim
end
end RM
set_option Elab.async false
set_option linter.all false
set_option maxRecDepth 100000

namespace RM
open PySem PySem.Spec PyProof.Rows L2
noncomputable def iSeq (K : PySem.W.Frag) (tl : TE) : TI := fun σ H R => tl σ H fun x H1 => ∃ a, x = .ref a ∧ (((∃ xs, SqL K H1 a xs) ∧ R (Itl K a) H1) ∨ ((∃ xs, SqT K H1 a xs) ∧ R (Itt K a) H1))
section
variable {X : Cx} {tg : Expr}
theorem Z432 {l : Expr} {tl : TE} (hl : PE X l tl) : PI X tg l (iSeq X.K tl) := by
 intro pins s σ H R I h
 refine thn (hl pins s σ H _ I h) fun v s1 ⟨x, H1, I1, r1, q1⟩ => ?_
 obtain ⟨a, e, ⟨⟨xs, hq⟩, q⟩ | ⟨⟨xs, hq⟩, q⟩⟩ := q1
 ·subst e
  cases r1
  obtain ⟨its, rv, p, hz⟩ := I1.list hq
  refine wpAny_pyIter_list p.isList ?_
  refine ⟨s1.heap.objs.size, [s1.heap.objs.size], _, _, H1, rfl, I1.kept (t' := s1.toks) fun b o e => Heap.get?_push_of_some _ e, Z591 a _, ⟨_, Heap.get?_push_size _ rfl, rfl, rfl⟩, fun b hb => ?_, q⟩
  have e : b = s1.heap.objs.size := by simpa using hb
  subst e
  exact I1.fpOk (Nat.le_refl _) (I1.hok.fresh (Nat.le_refl _))
 ·subst e
  cases r1
  obtain ⟨its, rv, p, hz⟩ := I1.tuple hq
  refine wpAny_pyIter_tuple (show s1.heap.IsTuple a its.toArray from p) ?_
  refine ⟨s1.heap.objs.size, [s1.heap.objs.size], _, _, H1, rfl, I1.kept (t' := s1.toks) fun b o e => Heap.get?_push_of_some _ e, Z593 a _, ⟨_, Heap.get?_push_size _ rfl, rfl, rfl⟩, fun b hb => ?_, q⟩
  have e : b = s1.heap.objs.size := by simpa using hb
  subst e
  exact I1.fpOk (Nat.le_refl _) (I1.hok.fresh (Nat.le_refl _))
end
section
variable {K : PySem.W.Frag} {R : RC} {ix : List Nat} {hd hm : List (Nat × Addr)} {X : Cx} {e : Expr} {H H' : Hp} {σ : L2.St} {ts : Ts} {fr : List T} {D : Ends}
theorem NodeOk.sqL {a : Addr} {m : Bool} {vs : List V} (h : NodeOk H a (.lst m) vs) : SqL K H a vs := by
 cases m with
 | true => exact .of h
 | false => exact .inl h
theorem NodeOk.sqT {a : Addr} {vs : List V} (h : NodeOk H a .tup vs) : SqT K H a vs := .of h
theorem Z187 {n k : Nat} {p : List Nat} {a : Addr} (C : Cf R ix (hd ++ [(n, a)]) H σ ts fr) (h : held n k p (ts.map TL.er) = true) {d : RM.D} (hd' : dref (ts.map TL.er) (.plc k p) = some d) (hn : ∃ kd l, d = .nd kd l) :
  ∃ w t kd ch, ts[k]? = some (.own w t) ∧ t.get p = some (.nd a kd ch) ∧ d = .nd kd (T.ers ch) ∧ (T.nd a kd ch).ok H := by
 have get : ∀ w t, ts[k]? = some (TL.own w t) → ∃ s, t.get p = some s ∧ s.er = d ∧ s.ok H := by
  intro w t hk
  simp only [dref, List.getElem?_map, hk, Option.map_some, TL.er, T.get_er] at hd'
  cases es : t.get p with
  | none => rw [es] at hd'; cases hd'
  | some s => rw [es] at hd'; cases hd'; exact ⟨s, rfl, rfl, T.get_ok es (C.ok w t (List.mem_of_getElem? hk))⟩
 have nodeOf : ∀ s : T, s.er = d → s.val = .ref a → ∃ kd ch, s = .nd a kd ch ∧ d = .nd kd (T.ers ch) := by
  rintro s rfl hv
  obtain ⟨kd, l, hl⟩ := hn
  cases s with
  | «at» v => cases hl
  | nd b k ch => cases hv; exact ⟨k, ch, rfl, rfl⟩
 unfold held at h
 rw [List.getElem?_map] at h
 cases en : ts[n]? with
 | none => rw [en] at h; cases h
 | some y =>
  rw [en] at h
  cases y with
  | non => cases h
  | bor k' p' b =>
   simp only [Option.map_some, TL.er, Bool.and_eq_true, decide_eq_true_eq] at h
   obtain ⟨rfl, rfl⟩ := h
   have hb := C.hdn n a (List.mem_append_right _ (by simp)) _ _ en rfl
   cases hb
   obtain ⟨w, t, s, h1, h2, h3⟩ := C.bor n k' p' a en
   obtain ⟨s', g1, g2, g3⟩ := get w t h1
   rw [h2] at g1
   cases g1
   obtain ⟨kd, ch, rfl, e2⟩ := nodeOf s g2 h3
   exact ⟨w, t, kd, ch, h1, h2, e2, g3⟩
  | own w t =>
   simp only [Option.map_some, TL.er, Bool.and_eq_true, decide_eq_true_eq] at h
   obtain ⟨rfl, rfl⟩ := h
   have hb := C.hdn k a (List.mem_append_right _ (by simp)) _ _ en rfl
   obtain ⟨s', g1, g2, g3⟩ := get w t en
   cases g1
   obtain ⟨kd, ch, rfl, e2⟩ := nodeOf t g2 hb
   exact ⟨w, _, kd, ch, en, rfl, e2, g3⟩
theorem Z220 {n k : Nat} {p : List Nat} {a : Addr} (i : Nat) (H : Hp) (σ : L2.St) (ts : Ts) (C : Cf R ix (hd ++ [(n, a)]) H σ ts fr) : (itP false n k p i (ts.map TL.er) = some none → (Itl K a).stop i H) ∧ ∀ r, itP false n k p i (ts.map TL.er) = some (some r) → (Itl K a).go i H ∧ ∀ x H', (Itl K a).yld i H x H' → ∃ tv, tv.er = r ∧ TvOk ts x tv ∧ Cf R ix (hd ++ [(n, a)]) H' σ ts (tv.tr ++ fr) := by
 have main : ∀ y, itP false n k p i (ts.map TL.er) = some y → ∃ w t m ch, ts[k]? = some (TL.own w t) ∧ t.get p = some (.nd a (.lst m) ch) ∧ (T.nd a (.lst m) ch).ok H ∧ y = (ch[i]?).map fun c => mkV k (p ++ [i]) c.er := by
  intro y hy
  unfold itP at hy
  split at hy
  case isFalse => cases hy
  case isTrue hh =>
   cases ed : dref (ts.map TL.er) (.plc k p) with
   | none => rw [ed] at hy; cases hy
   | some d =>
    rw [ed] at hy
    cases d with
    | «at» v => cases hy
    | nd kd l =>
     cases kd with
     | lst m =>
      obtain ⟨w, t, kd, ch, h1, h2, h3, h4⟩ := Z187 C hh ed ⟨_, _, rfl⟩
      cases h3
      simp only [Option.some.injEq] at hy
      exact ⟨w, t, m, ch, h1, h2, h4, by rw [← hy, T.ers_eq, List.getElem?_map, Option.map_map]; rfl⟩
     | _ => cases hy
 refine ⟨fun h => ?_, fun r h => ?_⟩
 ·obtain ⟨w, t, m, ch, h1, h2, h3, h4⟩ := main _ h
  refine ⟨ch.map T.val, h3.1.sqL, ?_⟩
  cases e : ch[i]? with
  | some c => rw [e] at h4; cases h4
  | none => simpa using e
 ·obtain ⟨w, t, m, ch, h1, h2, h3, h4⟩ := main _ h
  cases e : ch[i]? with
  | none => rw [e] at h4; cases h4
  | some c =>
   rw [e] at h4
   have hs : SqL K H a (ch.map T.val) := h3.1.sqL
   refine ⟨⟨_, c.val, hs, by rw [List.getElem?_map, e]; rfl⟩, ?_⟩
   rintro x _ ⟨rfl, hx⟩
   have := hx _ hs
   rw [List.getElem?_map, e] at this
   cases this
   obtain ⟨tv, q1, q2, q3⟩ := mk_ok (p := p ++ [i]) C h1 (by rw [T.get_app, h2]; show T.get [i] (.nd a (.lst m) ch) = some c; simp only [T.get, e])
   refine ⟨tv, ?_, q2, q3⟩
   rw [q1]; cases h4; rfl
theorem Z221 {n k : Nat} {p : List Nat} {a : Addr} (i : Nat) (H : Hp) (σ : L2.St) (ts : Ts) (C : Cf R ix (hd ++ [(n, a)]) H σ ts fr) : (itP true n k p i (ts.map TL.er) = some none → (Itt K a).stop i H) ∧ ∀ r, itP true n k p i (ts.map TL.er) = some (some r) → (Itt K a).go i H ∧ ∀ x H', (Itt K a).yld i H x H' → ∃ tv, tv.er = r ∧ TvOk ts x tv ∧ Cf R ix (hd ++ [(n, a)]) H' σ ts (tv.tr ++ fr) := by
 have main : ∀ y, itP true n k p i (ts.map TL.er) = some y → ∃ w t ch, ts[k]? = some (TL.own w t) ∧ t.get p = some (.nd a .tup ch) ∧ (T.nd a .tup ch).ok H ∧ y = (ch[i]?).map fun c => mkV k (p ++ [i]) c.er := by
  intro y hy
  unfold itP at hy
  split at hy
  case isFalse => cases hy
  case isTrue hh =>
   cases ed : dref (ts.map TL.er) (.plc k p) with
   | none => rw [ed] at hy; cases hy
   | some d =>
    rw [ed] at hy
    cases d with
    | «at» v => cases hy
    | nd kd l =>
     cases kd with
     | tup =>
      obtain ⟨w, t, kd, ch, h1, h2, h3, h4⟩ := Z187 C hh ed ⟨_, _, rfl⟩
      cases h3
      simp only [Option.some.injEq] at hy
      exact ⟨w, t, ch, h1, h2, h4, by rw [← hy, T.ers_eq, List.getElem?_map, Option.map_map]; rfl⟩
     | _ => cases hy
 refine ⟨fun h => ?_, fun r h => ?_⟩
 ·obtain ⟨w, t, ch, h1, h2, h3, h4⟩ := main _ h
  refine ⟨ch.map T.val, h3.1.sqT, ?_⟩
  cases e : ch[i]? with
  | some c => rw [e] at h4; cases h4
  | none => simpa using e
 ·obtain ⟨w, t, ch, h1, h2, h3, h4⟩ := main _ h
  cases e : ch[i]? with
  | none => rw [e] at h4; cases h4
  | some c =>
   rw [e] at h4
   have hs : SqT K H a (ch.map T.val) := h3.1.sqT
   refine ⟨⟨_, c.val, hs, by rw [List.getElem?_map, e]; rfl⟩, ?_⟩
   rintro x _ ⟨rfl, hx⟩
   have := hx _ hs
   rw [List.getElem?_map, e] at this
   cases this
   obtain ⟨tv, q1, q2, q3⟩ := mk_ok (p := p ++ [i]) C h1 (by rw [T.get_app, h2]; show T.get [i] (.nd a .tup ch) = some c; simp only [T.get, e])
   refine ⟨tv, ?_, q2, q3⟩
   rw [q1]; cases h4; rfl
theorem Z279 {f : EF} {b : Sd → DV → Option Sd} {body : SF} (D : Ends) (σ : L2.St) (H : Hp) (h : lS R ix (sForL f b body) D σ H) : tFor (iSeq K (lE R ix f)) (lG R ix b) (lS R ix body) D σ H := by
 obtain ⟨hd, ts, fr, C, h⟩ := h
 refine ⟨hd, ts, fr, C, ?_⟩
 unfold sForL at h
 cases ef : f (ts.map TL.er) with
 | no => rw [ef] at h; exact h
 | ex E s1 => rw [ef] at h; intro H1 ts1 e1 C1; exact h H1 σ ts1 e1 C1
 | ok r s1 =>
  rw [ef] at h
  intro H1 ts1 tv v e1 e2 hv C1
  subst e1
  have hlen : (ts1.map TL.er).length = ts1.length := by simp
  cases r with
  | plc k p =>
   obtain ⟨a, rfl, rfl, hp⟩ := hv.er_plc e2
   dsimp only at h
   refine ⟨a, rfl, ?_⟩
   obtain ⟨w, t, s, h1, h2, h3⟩ := id hp
   have hd1 : dref (ts1.map TL.er) (.plc k p) = some s.er := by simp only [dref, List.getElem?_map, h1, Option.map_some, TL.er, T.get_er, h2]
   have sok := T.get_ok h2 (C1.ok w t (List.mem_of_getElem? h1))
   rw [hd1, hlen] at h
   have C2 : Cf R ix (hd ++ [(ts1.length, a)]) H1 σ (ts1 ++ [.bor k p a]) fr := Cf.hide C1 hp
   cases s with
   | «at» v => exact h.elim
   | nd b' kd ch =>
    cases h3
    cases kd with
    | lst m =>
     refine .inl ⟨⟨_, sok.1.sqL⟩, ?_⟩
     refine Z315 (it := itP false ts1.length k p) (m := ch.length + 1) Z220 C2 ?_
     have := Z156 (hm := [(ts1.length, a)]) C1.ixs C1.hdi h
     simpa [TL.er, T.ers_eq] using this
    | tup =>
     refine .inr ⟨⟨_, sok.1.sqT⟩, ?_⟩
     refine Z315 (it := itP true ts1.length k p) (m := ch.length + 1) Z221 C2 ?_
     have := Z156 (hm := [(ts1.length, a)]) C1.ixs C1.hdi h
     simpa [TL.er, T.ers_eq] using this
    | _ => exact h.elim
  | val d =>
   obtain ⟨t, rfl, rfl, rfl⟩ := hv.er_val e2
   dsimp only at h
   cases t with
   | «at» v => exact h.elim
   | nd a kd ch =>
    refine ⟨a, rfl, ?_⟩
    rw [hlen] at h
    have C2 : Cf R ix (hd ++ [(ts1.length, a)]) H1 σ (ts1 ++ [.own true (.nd a kd ch)]) fr := Cf.push (a := a) C1 rfl
    have sok := C1.fok.1
    cases kd with
    | lst m =>
     refine .inl ⟨⟨_, sok.1.sqL⟩, ?_⟩
     refine Z315 (it := itP false ts1.length ts1.length []) (m := ch.length + 1) Z220 C2 ?_
     have := Z156 (hm := [(ts1.length, a)]) C1.ixs C1.hdi h
     simpa [TL.er, T.er, T.ers_eq] using this
    | tup =>
     refine .inr ⟨⟨_, sok.1.sqT⟩, ?_⟩
     refine Z315 (it := itP true ts1.length ts1.length []) (m := ch.length + 1) Z221 C2 ?_
     have := Z156 (hm := [(ts1.length, a)]) C1.ixs C1.hdi h
     simpa [TL.er, T.er, T.ers_eq] using this
    | _ => exact h.elim
theorem Z503 {tg iter : Expr} {bs : List Stmt} {f : EF} {b : Sd → DV → Option Sd} {body : SF} {pos : Pos} (hp : PassesOwn (model X.prog X.w) X.A X.env X.xe) (hc : X.calm = true) (hi : PE X iter (lE R ix f)) (hg : PG X tg (lG R ix b)) (hb : PSs X bs (lS R ix body))
  (hs : ∀ x, foldedSetIterable iter X.env x = pure x := by intro _; rfl) : PS X (.For tg iter bs [] pos) (lS R ix (sForL f b body)) := psM (Z441 hp hc (Z432 hi) hg hb hs) Z279
theorem Z504 {tg a : Expr} {bs : List Stmt} {f : EF} {b : Sd → DV → Option Sd} {body : SF} {p pos fpos : Pos} (hp : PassesOwn (model X.prog X.w) X.A X.env X.xe) (hc : X.calm = true) (hgl : Gl X "range") (hm : X.mg "range" = none) (ha : PE X a (lE R ix f)) (hg : PG X tg (lG R ix b)) (hb : PSs X bs (lS R ix body))
  (hst : starEach [a] X.env = [(false, eval a X.env)] := by rfl) (hs : ∀ x, foldedSetIterable (.Call (.Name "range" p) [a] [] pos) X.env x = pure x := by intro _; rfl) : PS X (.For tg (.Call (.Name "range" p) [a] [] pos) bs [] fpos) (lS R ix (sForR (aCons f aNil) b body)) := by
 refine psM (Z441 hp hc (Z430 (ta := tCons (lE R ix f) tNil) hgl hm (Z393 ha Z394 hst) hst) hg hb hs) fun D σ H h => ?_
 have h1 := lA_1 (Z280 D σ H h)
 refine Z271 (fun v H1 q => ?_) h1
 rcases q with ⟨j, e, hj, q⟩ | ⟨k, j, e, _⟩
 ·cases e; exact ⟨j, rfl, hj.1, hj.2, q⟩
 ·cases e
theorem Z505 {tg a c : Expr} {bs : List Stmt} {f g : EF} {b : Sd → DV → Option Sd} {body : SF} {p pos fpos : Pos} (hp : PassesOwn (model X.prog X.w) X.A X.env X.xe) (hc : X.calm = true) (hgl : Gl X "range") (hm : X.mg "range" = none) (ha : PE X a (lE R ix f)) (hc2 : PE X c (lE R ix g)) (hg : PG X tg (lG R ix b)) (hb : PSs X bs (lS R ix body))
  (hst : starEach [a, c] X.env = [(false, eval a X.env), (false, eval c X.env)] := by rfl) (hst2 : starEach [c] X.env = [(false, eval c X.env)] := by rfl) (hs : ∀ x, foldedSetIterable (.Call (.Name "range" p) [a, c] [] pos) X.env x = pure x := by intro _; rfl) : PS X (.For tg (.Call (.Name "range" p) [a, c] [] pos) bs [] fpos) (lS R ix (sForR (aCons f (aCons g aNil)) b body)) := by
 refine psM (Z441 hp hc (Z431 (ta := tCons (lE R ix f) (tCons (lE R ix g) tNil)) hgl hm (Z393 ha (Z393 hc2 Z394 hst2) (by rw [hst, hst2])) hst hst2) hg hb hs) fun D σ H h => ?_
 have h1 := lA_2 (Z280 D σ H h)
 refine Z271 (fun v H1 q => Z271 (fun u H2 q2 => ?_) q) h1
 rcases q2 with ⟨j, e, _⟩ | ⟨k, j, e, hj, q3⟩
 ·cases e
 ·cases e; exact ⟨k, j, rfl, hj, q3⟩
end
end RM
set_option Elab.async false
set_option linter.all false
set_option maxRecDepth 100000

namespace RM
open PySem PySem.Spec PyProof.Rows L2
noncomputable def hole : D := .at (.flt 0)
section
variable {R : RC} {ix : List Nat} {hd hm : List (Nat × Addr)} {X : Cx} {e : Expr} {H H' : Hp} {σ : L2.St} {ts : Ts} {fr : List T}
theorem Cf.exch {k : Nat} {t s s' : T} {p : List Nat} {fr' : List T} {x : List Addr} (C : Cf R ix hd H σ ts fr) (hk : ts[k]? = some (.own true t)) (hp : t.get p = some s) (hv : s'.val = s.val)
  (ho : s'.ok H) (hf : T.oks H fr') (hown : (s.own ++ T.owns fr).Perm (s'.own ++ T.owns fr' ++ x)) (hro : ∀ b, b ∈ s'.ro ∨ b ∈ T.ros fr' → b ∈ s.ro ∨ b ∈ T.ros fr) :
  Cf R ix hd H σ ((ts.set k (.own true (T.put s' p t))).map (killT k p fun _ => false)) fr' := by
 obtain ⟨c, r, K⟩ := T.ctx hp
 obtain ⟨x1, z1, o1, o2⟩ := Z160 (f := TL.own1) hk
 obtain ⟨x2, z2, r1, r2⟩ := Z160 (f := TL.ro1) hk
 obtain ⟨x3, z3, d1, d2⟩ := Z160 (f := TL.rd1) hk
 generalize ht' : T.put s' p t = t'
 have eO : ownS ((ts.set k (.own true t')).map (killT k p fun _ => false)) = x1 ++ (t'.own ++ z1) := by
  unfold ownS; rw [Z257 (by intros; rfl), o2]; rfl
 have eR : roS ((ts.set k (.own true t')).map (killT k p fun _ => false)) = x2 ++ (t'.ro ++ z2) := by
  unfold roS; rw [Z257 (by intros; rfl), r2]; rfl
 have eD : rdS ((ts.set k (.own true t')).map (killT k p fun _ => false)) = rdS ts := by
  unfold rdS; rw [Z257 (by intros; rfl), d2, d1]; rfl
 have fO : ownS ts = x1 ++ (t.own ++ z1) := o1
 have fR : roS ts = x2 ++ (t.ro ++ z2) := r1
 have pm : (ownS ts ++ T.owns fr).Perm ((x1 ++ (t'.own ++ z1) ++ T.owns fr') ++ x) := by
  rw [fO]
  refine List.perm_iff_count.mpr fun b => ?_
  have q1 := (List.perm_iff_count.mp K.own b)
  have q2 := (List.perm_iff_count.mp (K.own' s') b)
  have q3 := (List.perm_iff_count.mp hown b)
  rw [ht'] at q2
  simp only [List.count_append] at q1 q2 q3 ⊢
  omega
 have nd3 := List.nodup_append.mp (pm.nodup_iff.mp C.nd)
 have sub1 : ∀ b, b ∈ x1 ++ (t'.own ++ z1) ∨ b ∈ T.owns fr' → b ∈ ownS ts ∨ b ∈ T.owns fr := fun b z => List.mem_append.mp (pm.mem_iff.mpr (List.mem_append_left _ (by
  rcases z with z | z
  ·exact List.mem_append_left _ z
  ·exact List.mem_append_right _ z)))
 have tok' : t'.ok H := by
  rw [← ht']
  exact K.ok (C.ok true t (List.mem_of_getElem? hk)) (fun b hb => rfl) ho hv
 have slot : ∀ (j : Nat) (y : TL), ((ts.set k (.own true t')).map (killT k p fun _ => false))[j]? = some y → (j = k ∧ y = .own true t') ∨ (j ≠ k ∧ ∃ y0, ts[j]? = some y0 ∧ y = killT k p (fun _ => false) y0) := by
  intro j y hy
  rw [List.getElem?_map, List.getElem?_set] at hy
  by_cases hj : k = j
  ·subst hj
   rw [if_pos rfl, if_pos (List.getElem?_eq_some_iff.mp hk).1] at hy
   cases hy
   exact .inl ⟨rfl, rfl⟩
  ·rw [if_neg hj] at hy
   cases ey : ts[j]? with
   | none => rw [ey] at hy; cases hy
   | some y0 => rw [ey] at hy; cases hy; exact .inr ⟨Ne.symm hj, y0, rfl, rfl⟩
 have tv' : t'.val = t.val := by rw [← ht']; exact T.put_val hp hv
 have slv : ∀ (j : Nat) (y : TL) (v : V), ((ts.set k (.own true t')).map (killT k p fun _ => false))[j]? = some y → y.v = some v → ∃ y0, ts[j]? = some y0 ∧ y0.v = some v := by
  intro j y v hy hv
  rcases slot j y hy with ⟨rfl, rfl⟩ | ⟨hj, y0, h0, rfl⟩
  ·exact ⟨_, hk, by rw [← hv]; simp only [TL.v, tv']⟩
  ·refine ⟨y0, h0, ?_⟩
   rcases Z255 (k := k) (p := p) (keep := fun _ => false) y0 with e | ⟨e, _⟩
   ·rwa [e] at hv
   ·rw [e] at hv; cases hv
 have len : ((ts.set k (.own true t')).map (killT k p fun _ => false)).length = ts.length := by simp
 refine ⟨fun w u hu => ?_, hf, by rw [eO]; exact nd3.1, fun b z => ?_, fun b z => ?_, fun b z => ?_, C.bg, fun j k' q b hj => ?_, fun j hj => by rw [len]; exact C.ixs j hj, fun i j y v h1 h2 h3 => ?_, fun j b hj => by rw [len]; exact C.hdi j b hj, C.hdx, C.len, fun j b hj y v h2 h3 => ?_⟩
 ·obtain ⟨j, hj⟩ := List.mem_iff_getElem?.mp hu
  rcases slot j _ hj with ⟨rfl, e⟩ | ⟨hjk, y0, h0, e⟩
  ·cases e; exact tok'
  ·rcases Z255 (k := k) (p := p) (keep := fun _ => false) y0 with e' | ⟨e', _⟩
   ·rw [e'] at e; subst e; exact C.ok w u (List.mem_of_getElem? h0)
   ·rw [e'] at e; cases e
 ·have old : b ∈ roS ts ∨ b ∈ T.ros fr → b ∉ x1 ++ (t'.own ++ z1) ∧ b ∉ T.owns fr' ∧ ¬ R.B b := fun z => by
   obtain ⟨h1, h2, h3⟩ := C.sep b z
   exact ⟨fun q => (sub1 b (.inl q)).elim h1 h2, fun q => (sub1 b (.inr q)).elim h1 h2, h3⟩
  have new : b ∈ s'.ro ∨ b ∈ T.ros fr' → b ∉ x1 ++ (t'.own ++ z1) ∧ b ∉ T.owns fr' ∧ ¬ R.B b := fun z => by
   rcases hro b z with q | q
   ·exact old (.inl (by rw [fR]; simp [K.ro.mem_iff.mpr (List.mem_append_right _ q)]))
   ·exact old (.inr q)
  rw [eO]
  rw [eR] at z
  rcases z with z | z
  ·simp only [List.mem_append] at z
   rcases z with z | z | z
   ·exact old (.inl (by rw [fR]; simp [z]))
   ·have z' := (K.ro' s').mem_iff.mp (by rw [ht']; exact z)
    rcases List.mem_append.mp z' with z' | z'
    ·exact old (.inl (by rw [fR]; simp [K.ro.mem_iff.mpr (List.mem_append_left _ z')]))
    ·exact new (.inl z')
   ·exact old (.inl (by rw [fR]; simp [z]))
  ·exact new (.inr z)
 ·rw [eD] at z
  rw [eO]
  obtain ⟨h1, h2⟩ := C.rd b z
  exact ⟨fun q => (sub1 b (.inl q)).elim h1 h2, fun q => (sub1 b (.inr q)).elim h1 h2⟩
 ·rw [eO]
  obtain ⟨g1, g2, g3, g4⟩ := C.g b z
  exact ⟨g1, g2, fun q => (sub1 b (.inl q)).elim g3 g4, fun q => (sub1 b (.inr q)).elim g3 g4⟩
 ·rcases slot j _ hj with ⟨rfl, e⟩ | ⟨hjk, y0, h0, e⟩
  ·cases e
  ·rcases Z255 (k := k) (p := p) (keep := fun _ => false) y0 with e' | ⟨e', _⟩
   ·rw [e'] at e
    subst e
    obtain ⟨w, u, s1, h1, h2, h3⟩ := C.bor j k' q b h0
    by_cases hkk : k' = k
    ·subst hkk
     rw [hk] at h1
     cases h1
     have at' : ((ts.set k' (.own true t')).map (killT k' p fun _ => false))[k']? = some (.own true t') := by
      rw [List.getElem?_map, List.getElem?_set, if_pos rfl, if_pos (List.getElem?_eq_some_iff.mp hk).1]; rfl
     cases hs : sub p q with
     | none =>
      obtain ⟨u', q1, q2⟩ := Z166 (s' := s') hp hv hs h2
      rw [ht'] at q1
      exact ⟨true, t', u', at', q1, q2.trans h3⟩
     | some i =>
      exfalso
      rw [Z254] at e'
      have : gone k' p (fun _ => false) k' q = true := by simp [gone, hs]
      rw [this] at e'
      cases e'
    ·refine ⟨w, u, s1, ?_, h2, h3⟩
     rw [List.getElem?_map, List.getElem?_set, if_neg (Ne.symm hkk), h1]; rfl
   ·rw [e'] at e; cases e
 ·obtain ⟨y0, q1, q2⟩ := slv j y v h2 h3
  exact C.sl i j y0 v h1 q1 q2
 ·obtain ⟨y0, q1, q2⟩ := slv j y v h2 h3
  exact C.hdn j b hj y0 v q1 q2
end
end RM
set_option Elab.async false
set_option linter.all false
set_option maxRecDepth 100000

namespace RM
open PySem PySem.Spec PyProof.Rows L2
inductive RV where
 | val (d : D) | arg (j : Nat) (q : List Nat)
inductive RT where
 | val (t : T) | arg (j : Nat) (q : List Nat) (a : Addr)
noncomputable def RT.er : RT → RV
 | .val t => .val t.er | .arg j q _ => .arg j q
noncomputable def RT.tr : RT → List T
 | .val t => [t] | .arg _ _ _ => []
inductive FR where
 | ok (r : RV) (ds : List D) | ex (C : Str) (ds : List D) | no
noncomputable abbrev Fn := List D → FR
noncomputable def selM (b : Bool) : List Bool → List T → List T
 | m :: ms, t :: l => if m = b then t :: selM b ms l else selM b ms l
 | _, _ => []
noncomputable def RtOk (ms : List Bool) (l : List T) (v : V) : RT → Prop
 | .val t => v = t.val
 | .arg j q a => v = .ref a ∧ ms[j]? = some true ∧ ∃ t s, l[j]? = some t ∧ t.get q = some s ∧ s.val = .ref a
structure Ent (H : Hp) (B : Addr → Prop) (ms : List Bool) (l : List T) : Prop where
 len : ms.length = l.length
 ok : T.oks H l
 nd : (T.owns (selM true ms l)).Nodup
 sep : ∀ a ∈ T.ros l, a ∉ T.owns (selM true ms l) ∧ ¬ B a
 rd : ∀ a ∈ T.owns (selM false ms l), a ∉ T.owns (selM true ms l)
 b : ∀ a, B a → a ∉ T.owns (selM true ms l) ∧ H a ≠ none
structure Exi (H H' : Hp) (B : Addr → Prop) (ms : List Bool) (l l' m : List T) : Prop where
 len : l'.length = l.length
 val : l'.map T.val = l.map T.val
 ok : T.oks H' (selM true ms l')
 fok : T.oks H' m
 nd : (T.owns (selM true ms l') ++ T.owns m).Nodup
 own : ∀ a, a ∈ T.owns (selM true ms l') ∨ a ∈ T.owns m → a ∈ T.owns (selM true ms l) ∨ H a = none
 sep : ∀ a, a ∈ T.ros (selM true ms l') ∨ a ∈ T.ros m → a ∉ T.owns (selM true ms l') ∧ a ∉ T.owns m ∧ ¬ B a
 keep : ∀ a, H a ≠ none → a ∉ T.owns (selM true ms l) → H' a = H a
noncomputable def spR (ad : Str → Addr) (ms : List Bool) (fn : Fn) : Sp := fun vs H Q E => ∃ (l : List T) (B : Addr → Prop), l.map T.val = vs ∧ Ent H B ms l ∧ match fn (T.ers l) with
 | .ok rv ds' => ∀ H' l' rt v, T.ers l' = ds' → rt.er = rv → RtOk ms l' v rt → Exi H H' B ms l l' rt.tr → Q v H'
 | .ex C ds' => ∀ H' l', T.ers l' = ds' → Exi H H' B ms l l' [] → E (.ref (ad C)) none H'
 | .no => False

noncomputable def ini (n : Nat) (ms : List Bool) (ds : List D) : Sd := ds.mapIdx (fun k d => if d.imm then .own true d else .bor (n + k) []) ++ List.replicate (n - ds.length) .non ++ List.zipWith (fun m d => if d.imm then DL.non else .own m d) ms ds
noncomputable def outs (s : Sd) : Nat → List Bool → List D → Option (List D)
 | n, m :: ms, d :: r => if d.imm then (outs s (n + 1) ms r).map (d :: ·) else (match s[n]?, outs s (n + 1) ms r with | some (.own w d'), some r' => if w = m then some (d' :: r') else none | _, _ => none)
 | _, _, [] => some []
 | _, [], _ => none
noncomputable def ends (n : Nat) (ms : List Bool) (ds : List D) (r : DV) (s : Sd) : FR := match outs s n ms ds with
 | none => .no
 | some ds' => match r with
  | .val d => .ok (.val d) ds'
  | .plc j q => if n ≤ j then (match ms[j - n]?, ds[j - n]? with | some true, some d => if d.imm then .no else .ok (.arg (j - n) q) ds' | _, _ => .no)
   else (match dref s (.plc j q), s[j]? with | some d, some (.own true _) => .ok (.val d) ds' | _, _ => .no)
noncomputable def runDef (n : Nat) (ms : List Bool) (body : SF) : Fn := fun ds => match body (ini n ms ds) with
 | .nx s => ends n ms ds (.val (.at .non)) s
 | .rt r s => ends n ms ds r s
 | .ex C s => (match outs s n ms ds with | some ds' => .ex C ds' | none => .no)
 | _ => .no
noncomputable def T.adr : T → Addr
 | .nd a _ _ => a | .at _ => 0
theorem T.adr_val {t : T} (h : t.er.imm = false) : t.val = .ref t.adr := by
 cases t with
 | «at» v => cases h
 | nd a k l => rfl
noncomputable def iniT (n : Nat) (ms : List Bool) (l : List T) : Ts := l.mapIdx (fun k t => if t.er.imm then .own true t else .bor (n + k) [] t.adr) ++ List.replicate (n - l.length) .non ++ List.zipWith (fun m t => if t.er.imm then TL.non else .own m t) ms l
theorem Z209 {n : Nat} {ms : List Bool} {l : List T} : (iniT n ms l).map TL.er = ini n ms (T.ers l) := by
 unfold iniT ini
 rw [T.ers_eq, List.map_append, List.map_append, List.length_map]
 have cg : ∀ {a b c a' b' c' : Sd}, a = a' → b = b' → c = c' → a ++ b ++ c = a' ++ b' ++ c' := by rintro _ _ _ _ _ _ rfl rfl rfl; rfl
 refine cg ?_ ?_ ?_
 ·refine List.ext_getElem? fun i => ?_
  simp only [List.getElem?_map, List.getElem?_mapIdx, Option.map_map]
  cases l[i]? with
  | none => rfl
  | some t => simp only [Option.map_some, Function.comp]; cases t.er.imm <;> rfl
 ·simp [TL.er]
 ·refine List.ext_getElem? fun i => ?_
  simp only [List.getElem?_map, List.getElem?_zipWith, Option.map_map]
  cases ms[i]? with
  | none => rfl
  | some m => cases l[i]? with
   | none => rfl
   | some t => simp only [Option.map_some, Function.comp]; cases t.er.imm <;> rfl
section
variable {n : Nat} {ms : List Bool} {l : List T} {H : Hp}
theorem Z205 (hl : ms.length = l.length) (hn : l.length ≤ n) : (iniT n ms l).length = n + l.length := by
 unfold iniT
 simp only [List.length_append, List.length_mapIdx, List.length_replicate, List.length_zipWith, hl]; omega
theorem Z206 (hn : l.length ≤ n) {i : Nat} (hi : i < n) : (iniT n ms l)[i]? = some (match l[i]? with | some t => if t.er.imm then .own true t else .bor (n + i) [] t.adr | none => .non) := by
 unfold iniT
 rw [List.append_assoc]
 by_cases h : i < l.length
 ·rw [List.getElem?_append_left (by simpa using h), List.getElem?_mapIdx, List.getElem?_eq_getElem h]; rfl
 ·rw [List.getElem?_append_right (by simpa using h), List.getElem?_append_left (by simp; omega), List.getElem?_eq_none (Nat.le_of_not_lt h)]
  simp only [List.length_mapIdx, List.getElem?_replicate]
  rw [if_pos (by omega)]
theorem Z204 (hl : ms.length = l.length) (hn : l.length ≤ n) {k : Nat} {m : Bool} {t : T} (h1 : ms[k]? = some m) (h2 : l[k]? = some t) : (iniT n ms l)[n + k]? = some (if t.er.imm then .non else .own m t) := by
 unfold iniT
 rw [List.getElem?_append_right (by simp only [List.length_append, List.length_mapIdx, List.length_replicate]; omega)]
 have : n + k - (l.mapIdx (fun k t => if t.er.imm then TL.own true t else .bor (n + k) [] t.adr) ++ List.replicate (n - l.length) TL.non).length = k := by simp only [List.length_append, List.length_mapIdx, List.length_replicate]; omega
 rw [this, List.getElem?_zipWith, h1, h2]
theorem Z211 : ∀ {ms : List Bool} {l : List T}, ownS (List.zipWith (fun m t => if t.er.imm then TL.non else .own m t) ms l) = T.owns (selM true ms l) ∧ rdS (List.zipWith (fun m t => if t.er.imm then TL.non else .own m t) ms l) = T.owns (selM false ms l)
 | [], l => by cases l <;> exact ⟨rfl, rfl⟩
 | m :: ms, [] => ⟨rfl, rfl⟩
 | m :: ms, t :: l => by
  obtain ⟨h1, h2⟩ := Z211 (ms := ms) (l := l)
  simp only [List.zipWith_cons_cons, selM]
  unfold ownS rdS at *
  rw [List.flatMap_cons, List.flatMap_cons, h1, h2]
  cases hi : t.er.imm with
  | true =>
   have := T.imm_own hi
   cases m <;> simp [TL.own1, TL.rd1, T.owns, this]
  | false => cases m <;> simp [TL.own1, TL.rd1, T.owns]
theorem Z210 : ∀ (l : List T) (f : Nat → T → TL), (∀ k t, f k t = .own true t ∧ t.er.imm = true ∨ ∃ a b c, f k t = .bor a b c) → ownS (l.mapIdx f) = [] ∧ rdS (l.mapIdx f) = []
 | [], f, h => ⟨rfl, rfl⟩
 | t :: l, f, h => by
  obtain ⟨h1, h2⟩ := Z210 l (fun k => f (k + 1)) fun k t => h (k + 1) t
  rw [List.mapIdx_cons]
  unfold ownS rdS at *
  rw [List.flatMap_cons, List.flatMap_cons, h1, h2]
  rcases h 0 t with ⟨e, hi⟩ | ⟨a, b, c, e⟩
  ·rw [e]; exact ⟨by simp [TL.own1, T.imm_own hi], rfl⟩
  ·rw [e]; exact ⟨rfl, rfl⟩
theorem Z208 : ownS (iniT n ms l) = T.owns (selM true ms l) ∧ rdS (iniT n ms l) = T.owns (selM false ms l) := by
 unfold iniT
 have h1 := Z210 l (fun k t => if t.er.imm then TL.own true t else .bor (n + k) [] t.adr) fun k t => by
  cases hi : t.er.imm with
  | true => exact .inl ⟨rfl, rfl⟩
  | false => exact .inr ⟨_, _, _, rfl⟩
 have h2 := Z211 (ms := ms) (l := l)
 rw [Z391, Z391, Z462, Z462, h1.1, h1.2, h2.1, h2.2]
 constructor
 ·simp [ownS, TL.own1]
 ·simp [rdS, TL.rd1]
theorem Z207 {w : Bool} {t : T} (h : TL.own w t ∈ iniT n ms l) : t ∈ l := by
 unfold iniT at h
 simp only [List.mem_append] at h
 rcases h with (h | h) | h
 ·obtain ⟨i, hi⟩ := List.mem_iff_getElem?.mp h
  rw [List.getElem?_mapIdx] at hi
  cases e : l[i]? with
  | none => rw [e] at hi; cases hi
  | some u =>
   rw [e] at hi
   simp only [Option.map_some, Option.some.injEq] at hi
   split at hi
   ·cases hi; exact List.mem_of_getElem? e
   ·cases hi
 ·simp at h
 ·obtain ⟨i, hi⟩ := List.mem_iff_getElem?.mp h
  rw [List.getElem?_zipWith] at hi
  cases e1 : ms[i]? with
  | none => rw [e1] at hi; cases hi
  | some m =>
   cases e : l[i]? with
   | none => rw [e1, e] at hi; cases hi
   | some u =>
    rw [e1, e] at hi
    simp only [Option.some.injEq] at hi
    split at hi
    ·cases hi
    ·cases hi; exact List.mem_of_getElem? e
noncomputable def ancs (n : Nat) (l : List T) : List (Nat × Addr) := (l.mapIdx fun k t => (n + k, t)).filterMap fun p => if p.2.er.imm then none else some (p.1, p.2.adr)
theorem Z323 {j : Nat} {a : Addr} : (j, a) ∈ ancs n l ↔ ∃ k t, l[k]? = some t ∧ t.er.imm = false ∧ j = n + k ∧ a = t.adr := by
 unfold ancs
 rw [List.mem_filterMap]
 constructor
 ·rintro ⟨⟨x, t⟩, hm, h⟩
  obtain ⟨k, hk⟩ := List.mem_iff_getElem?.mp hm
  rw [List.getElem?_mapIdx] at hk
  cases e : l[k]? with
  | none => rw [e] at hk; cases hk
  | some u =>
   rw [e] at hk
   cases hk
   dsimp only at h
   cases hi : t.er.imm with
   | true => rw [hi] at h; cases h
   | false => rw [hi] at h; cases h; exact ⟨k, t, e, hi, rfl, rfl⟩
 ·rintro ⟨k, t, hk, hi, rfl, rfl⟩
  refine ⟨(n + k, t), List.mem_of_getElem? (i := k) (by rw [List.getElem?_mapIdx, hk]; rfl), ?_⟩
  rw [hi]; rfl
theorem Cf.entry {B : Addr → Prop} {EX : L2.St → XK} {ad : Str → Addr} {N : List Str} {vs : List V} (en : Ent H B ms l) (hv : l.map T.val = vs) (hn : l.length ≤ N.length) :
  Cf ⟨H, fun a => H a ≠ none ∧ a ∉ T.owns (selM true ms l), B, EX, ad⟩ (List.range N.length) (ancs N.length l) H (L2.start N vs) (iniT N.length ms l) [] := by
 obtain ⟨o1, o2⟩ := Z208 (n := N.length) (ms := ms) (l := l)
 have ln := Z205 (n := N.length) en.len hn
 have ros : ∀ a, a ∈ roS (iniT N.length ms l) → a ∈ T.ros l := fun a z => by
  obtain ⟨w, t, h1, h2⟩ := Z327.mp z
  exact T.mem_ros.mpr ⟨t, Z207 h1, h2⟩
 have hms : ∀ k t, l[k]? = some t → ∃ m, ms[k]? = some m := fun k t h => ⟨ms[k]'(by rw [en.len]; exact (List.getElem?_eq_some_iff.mp h).1), List.getElem?_eq_getElem _⟩
 have hi : ∀ k t, l[k]? = some t → t.er.imm = false → ∃ m, ms[k]? = some m ∧ (iniT N.length ms l)[N.length + k]? = some (TL.own m t) := fun k t h e => by
  obtain ⟨m, hm⟩ := hms k t h
  exact ⟨m, hm, by rw [Z204 en.len hn hm h, e]; rfl⟩
 refine ⟨fun w t z => T.oks_iff.mp en.ok t (Z207 z), trivial, by rw [o1]; simpa [T.owns] using en.nd, fun a z => ?_, fun a z => ?_, fun a z => ?_, fun a z => ?_, fun j k p a z => ?_, fun j z => ?_, fun i j s v z1 z2 z3 => ?_, fun j a z => ?_, fun j a z => ?_, ?_, fun j a z s v z2 z3 => ?_⟩
 ·rw [o1]
  rcases z with z | z
  ·have := en.sep a (ros a z)
   exact ⟨this.1, by simp [T.owns], this.2⟩
  ·simp [T.ros] at z
 ·rw [o2] at z; rw [o1]; exact ⟨en.rd a z, by simp [T.owns]⟩
 ·rw [o1]; exact ⟨rfl, z.1, z.2, by simp [T.owns]⟩
 ·exact ⟨(en.b a z).2, (en.b a z).1⟩
 ·have hj : j < N.length := by
   rcases Nat.lt_or_ge j N.length with h | h
   ·exact h
   ·have hlt := (List.getElem?_eq_some_iff.mp z).1
    rw [ln] at hlt
    obtain ⟨t, ht⟩ : ∃ t, l[j - N.length]? = some t := ⟨l[j - N.length]'(by omega), List.getElem?_eq_getElem _⟩
    obtain ⟨m, hm⟩ := hms _ _ ht
    have := Z204 en.len hn hm ht
    rw [show N.length + (j - N.length) = j by omega, z] at this
    split at this <;> cases this
  rw [Z206 hn hj] at z
  cases e : l[j]? with
  | none => rw [e] at z; cases z
  | some t =>
   rw [e] at z
   dsimp only at z
   cases hi' : t.er.imm with
   | true => rw [hi'] at z; cases z
   | false =>
    rw [hi'] at z
    cases z
    obtain ⟨m, _, q⟩ := hi j t e hi'
    exact ⟨m, t, t, q, rfl, T.adr_val hi'⟩
 ·rw [ln]; have := List.mem_range.mp z; omega
 ·have hir := (List.getElem?_eq_some_iff.mp z1)
  have hlt : i < N.length := by simpa using hir.1
  obtain rfl : i = j := by
   have := hir.2
   simpa using this
  rw [Z206 hn hlt] at z2
  cases e : l[i]? with
  | none => rw [e] at z2; cases z2; cases z3
  | some t =>
   rw [e] at z2
   have hvi : vs[i]? = some t.val := by rw [← hv, List.getElem?_map, e]; rfl
   have hst : (L2.start N vs)[i]? = some (some t.val) := by
    unfold L2.start
    rw [List.getElem?_append_left (by simpa using (List.getElem?_eq_some_iff.mp hvi).1), List.getElem?_map, hvi]; rfl
   rw [hst]
   dsimp only at z2
   cases hi' : t.er.imm with
   | true => rw [hi'] at z2; cases z2; cases z3; rfl
   | false => rw [hi'] at z2; cases z2; cases z3; rw [T.adr_val hi']
 ·obtain ⟨k, t, h1, _, rfl, _⟩ := Z323.mp z
  rw [ln]; have := (List.getElem?_eq_some_iff.mp h1).1; omega
 ·obtain ⟨k, t, h1, _, rfl, _⟩ := Z323.mp z
  simp
 ·unfold L2.start
  have : vs.length = l.length := by rw [← hv]; simp
  simp; omega
 ·obtain ⟨k, t, h1, h2, rfl, rfl⟩ := Z323.mp z
  obtain ⟨m, _, q⟩ := hi k t h1 h2
  rw [q] at z2
  cases z2
  simp only [TL.v, Option.some.injEq] at z3
  rw [← z3, T.adr_val h2]
end
end RM
set_option Elab.async false
set_option linter.all false
set_option maxRecDepth 100000

namespace RM
open PySem PySem.Spec PyProof.Rows L2
section
variable {R : RC} {ix : List Nat} {hd : List (Nat × Addr)} {H H' : Hp} {σ : L2.St} {ts : Ts} {fr : List T} {ms : List Bool}
theorem Z390 (C : Cf R ix hd H' σ ts fr) : ∀ {ms : List Bool} {l : List T} {n : Nat} {ds : List D}, outs (ts.map TL.er) n ms (T.ers l) = some ds → (∀ k t, l[k]? = some t → t.er.imm = false → (n + k, t.adr) ∈ hd) →
  ∃ l' : List T, T.ers l' = ds ∧ l'.length = l.length ∧ l'.map T.val = l.map T.val ∧ (∀ k t', l'[k]? = some t' → (∃ t, l[k]? = some t ∧ t.er.imm = true ∧ t' = t) ∨ ∃ t m, l[k]? = some t ∧ t.er.imm = false ∧ ms[k]? = some m ∧ ts[n + k]? = some (.own m t')) ∧
   List.Sublist (T.owns (selM true ms l')) (ownS (ts.drop n))
 | m :: ms, t :: l, n, ds, h, ha => by
  simp only [T.ers, outs] at h
  have rest : ∀ ds', outs (ts.map TL.er) (n + 1) ms (T.ers l) = some ds' → ∃ l' : List T, T.ers l' = ds' ∧ l'.length = l.length ∧ l'.map T.val = l.map T.val ∧ (∀ k t', l'[k]? = some t' → (∃ t, l[k]? = some t ∧ t.er.imm = true ∧ t' = t) ∨ ∃ t m, l[k]? = some t ∧ t.er.imm = false ∧ ms[k]? = some m ∧ ts[n + 1 + k]? = some (.own m t')) ∧
    List.Sublist (T.owns (selM true ms l')) (ownS (ts.drop (n + 1))) := fun ds' h' => Z390 C h' fun k u hk hu => by
   have := ha (k + 1) u (by simpa using hk) hu
   rwa [show n + (k + 1) = n + 1 + k by omega] at this
  have dr : List.Sublist (ownS (ts.drop (n + 1))) (ownS (ts.drop n)) := by
   cases e : ts[n]? with
   | none =>
    have := List.getElem?_eq_none_iff.mp e
    rw [List.drop_eq_nil_of_le (by omega), List.drop_eq_nil_of_le (by omega)]; exact .refl _
   | some y =>
    rw [List.drop_eq_getElem_cons (List.getElem?_eq_some_iff.mp e).1]
    unfold ownS
    rw [List.flatMap_cons]
    exact List.sublist_append_right _ _
  cases hi : t.er.imm with
  | true =>
   rw [hi, if_pos rfl] at h
   cases er : outs (ts.map TL.er) (n + 1) ms (T.ers l) with
   | none => rw [er] at h; cases h
   | some ds' =>
    rw [er] at h
    cases h
    obtain ⟨l', a1, a2, a3, a4, a5⟩ := rest ds' er
    refine ⟨t :: l', by rw [T.ers, a1], by simp [a2], by simp [a3], fun k t' hk => ?_, ?_⟩
    ·cases k with
     | zero => cases hk; exact .inl ⟨t, rfl, hi, rfl⟩
     | succ k =>
      rcases a4 k t' (by simpa using hk) with ⟨u, u1, u2, u3⟩ | ⟨u, m', u1, u2, u3, u4⟩
      ·exact .inl ⟨u, by simpa using u1, u2, u3⟩
      ·exact .inr ⟨u, m', by simpa using u1, u2, by simpa using u3, by rw [show n + (k + 1) = n + 1 + k by omega]; exact u4⟩
    ·simp only [selM]
     cases m with
     | true => rw [if_pos rfl, T.owns_cons, T.imm_own hi]; exact a5.trans dr
     | false => rw [if_neg Bool.false_ne_true]; exact a5.trans dr
  | false =>
   rw [hi, if_neg Bool.false_ne_true, List.getElem?_map] at h
   cases e : ts[n]? with
   | none => rw [e] at h; cases h
   | some y =>
    rw [e] at h
    cases er : outs (ts.map TL.er) (n + 1) ms (T.ers l) with
    | none => rw [er] at h; cases y <;> cases h
    | some ds' =>
     rw [er] at h
     cases y with
     | non => cases h
     | bor _ _ _ => cases h
     | own w t' =>
      simp only [Option.map_some, TL.er] at h
      by_cases hw : w = m
      ·subst hw
       rw [if_pos rfl] at h
       cases h
       obtain ⟨l', a1, a2, a3, a4, a5⟩ := rest ds' er
       have hv : t'.val = t.val := by
        rw [T.adr_val hi]
        exact C.hdn n t.adr (ha 0 t rfl hi) _ _ e rfl
       refine ⟨t' :: l', by rw [T.ers, a1], by simp [a2], by simp [a3, hv], fun k u hk => ?_, ?_⟩
       ·cases k with
        | zero => cases hk; exact .inr ⟨t, w, rfl, hi, rfl, e⟩
        | succ k =>
         rcases a4 k u (by simpa using hk) with ⟨u', u1, u2, u3⟩ | ⟨u', m', u1, u2, u3, u4⟩
         ·exact .inl ⟨u', by simpa using u1, u2, u3⟩
         ·exact .inr ⟨u', m', by simpa using u1, u2, by simpa using u3, by rw [show n + (k + 1) = n + 1 + k by omega]; exact u4⟩
       ·rw [List.drop_eq_getElem_cons (List.getElem?_eq_some_iff.mp e).1]
        unfold ownS
        rw [List.flatMap_cons, (List.getElem?_eq_some_iff.mp e).2]
        simp only [selM]
        cases w with
        | true => rw [if_pos rfl, T.owns_cons]; exact List.Sublist.append (.refl _) a5
        | false => rw [if_neg Bool.false_ne_true]; exact a5
      ·rw [if_neg hw] at h; cases h
 | ms', [], n, ds, h, ha => by
  have : ds = [] := by
   cases ms' <;> (simp only [T.ers, outs] at h; cases h; rfl)
  subst this
  refine ⟨[], rfl, rfl, rfl, fun k t' hk => by simp at hk, ?_⟩
  cases ms' <;> exact List.nil_sublist _
 | [], t :: l, n, ds, h, ha => by simp only [T.ers, outs] at h; cases h
theorem Z328 {b : Bool} {t : T} : ∀ {ms : List Bool} {l : List T}, t ∈ selM b ms l → ∃ k : Nat, l[k]? = some t ∧ ms[k]? = some b
 | m :: ms, u :: l, h => by
  simp only [selM] at h
  by_cases hm : m = b
  ·rw [if_pos hm] at h
   rcases List.mem_cons.mp h with h | h
   ·subst h; exact ⟨0, rfl, by rw [hm]; rfl⟩
   ·obtain ⟨k, h1, h2⟩ := Z328 h; exact ⟨k + 1, by simpa using h1, by simpa using h2⟩
  ·rw [if_neg hm] at h
   obtain ⟨k, h1, h2⟩ := Z328 h; exact ⟨k + 1, by simpa using h1, by simpa using h2⟩
 | [], _, h => by simp [selM] at h
 | _ :: _, [], h => by simp [selM] at h
theorem Cf.exit {B : Addr → Prop} {EX : L2.St → XK} {ad : Str → Addr} {n : Nat} {l m : List T} {ds : List D} (en : Ent H B ms l) (C : Cf ⟨H, fun a => H a ≠ none ∧ a ∉ T.owns (selM true ms l), B, EX, ad⟩ (List.range n) (ancs n l) H' σ ts m)
  (ho : outs (ts.map TL.er) n ms (T.ers l) = some ds) : ∃ l', T.ers l' = ds ∧ Exi H H' B ms l l' m ∧ ∀ k t', l'[k]? = some t' → (∃ t, l[k]? = some t ∧ t.er.imm = true ∧ t' = t) ∨ ∃ t w, l[k]? = some t ∧ t.er.imm = false ∧ ms[k]? = some w ∧ ts[n + k]? = some (.own w t') := by
 obtain ⟨l', a1, a2, a3, a4, a5⟩ := Z390 C ho fun k t hk hi => Z323.mpr ⟨k, t, hk, hi, rfl, rfl⟩
 have kp : ∀ a, H a ≠ none → a ∉ T.owns (selM true ms l) → H' a = H a := fun a h1 h2 => (C.g a ⟨h1, h2⟩).1
 have imk : ∀ (k : Nat) (t : T), l[k]? = some t → t.er.imm = true → t.ok H' ∧ ∀ a ∈ t.ro, a ∉ ownS ts ∧ a ∉ T.owns m ∧ ¬ B a := fun k t hk hi => by
  have tok := T.oks_iff.mp en.ok t (List.mem_of_getElem? hk)
  have G : ∀ a ∈ t.ro, H a ≠ none ∧ a ∉ T.owns (selM true ms l) ∧ ¬ B a := fun a z => by
   have := en.sep a (T.mem_ros.mpr ⟨t, List.mem_of_getElem? hk, z⟩)
   exact ⟨T.there tok (.inr z), this.1, this.2⟩
  refine ⟨T.keep tok fun a z => ?_, fun a z => ?_⟩
  ·rcases z with z | z
   ·rw [T.imm_own hi] at z; cases z
   ·exact kp a (G a z).1 (G a z).2.1
  ·obtain ⟨g1, g2, g3⟩ := G a z
   obtain ⟨_, _, q1, q2⟩ := C.g a ⟨g1, g2⟩
   exact ⟨q1, q2, g3⟩
 have tops : ∀ t' ∈ selM true ms l', (t'.ok H' ∧ ∀ a ∈ t'.ro, a ∉ ownS ts ∧ a ∉ T.owns m ∧ ¬ B a) := fun t' ht => by
  obtain ⟨k, h1, h2⟩ := Z328 ht
  rcases a4 k t' h1 with ⟨t, u1, u2, rfl⟩ | ⟨t, w, u1, u2, u3, u4⟩
  ·exact imk k _ u1 u2
  ·refine ⟨C.ok w t' (List.mem_of_getElem? u4), fun a z => C.sep a (.inl (Z327.mpr ⟨w, t', List.mem_of_getElem? u4, z⟩))⟩
 have sb : List.Sublist (T.owns (selM true ms l')) (ownS ts) := by
  refine a5.trans ?_
  have : ownS ts = ownS (ts.take n) ++ ownS (ts.drop n) := by rw [← Z391, List.take_append_drop]
  rw [this]
  exact List.sublist_append_right _ _
 refine ⟨l', a1, ⟨a2, a3, T.oks_iff.mpr fun t' ht => (tops t' ht).1, C.fok, ?_, fun a z => ?_, fun a z => ?_, kp⟩, a4⟩
 ·exact (List.Sublist.append sb (List.Sublist.refl (T.owns m))).nodup C.nd
 ·have hz : a ∈ ownS ts ∨ a ∈ T.owns m := z.imp (fun q => sb.subset q) id
  by_cases h1 : H a = none
  ·exact .inr h1
  ·left
   by_cases h2 : a ∈ T.owns (selM true ms l)
   ·exact h2
   ·obtain ⟨_, _, q1, q2⟩ := C.g a ⟨h1, h2⟩
    exact (hz.elim q1 q2).elim
 ·have : a ∉ ownS ts ∧ a ∉ T.owns m ∧ ¬ B a := by
   rcases z with z | z
   ·obtain ⟨t', ht, hz⟩ := T.mem_ros.mp z
    exact (tops t' ht).2 a hz
   ·exact C.sep a (.inr z)
  exact ⟨fun q => this.1 (sb.subset q), this.2⟩
end
end RM
set_option Elab.async false
set_option linter.all false
set_option maxRecDepth 100000

namespace RM
open PySem PySem.Spec PyProof.Rows L2
theorem Z389 {s s' : Sd} : ∀ {n : Nat} {ms : List Bool} {ds : List D}, (∀ i, n ≤ i → ∀ w d, s[i]? = some (.own w d) ↔ s'[i]? = some (.own w d)) → outs s n ms ds = outs s' n ms ds
 | n, m :: ms, d :: r, h => by
  simp only [outs]
  rw [Z389 (n := n + 1) (ms := ms) (ds := r) fun i hi => h i (by omega)]
  cases d.imm with
  | true => rfl
  | false =>
   simp only [Bool.false_eq_true, if_false]
   have h0 := h n (Nat.le_refl n)
   cases e : s[n]? with
   | none =>
    cases e' : s'[n]? with
    | none => rfl
    | some y => cases y with
     | own w d' => have := (h0 w d').mpr e'; rw [e] at this; cases this
     | _ => cases outs s' (n + 1) ms r <;> rfl
   | some x =>
    cases x with
    | own w d' => rw [(h0 w d').mp e]
    | non =>
     cases e' : s'[n]? with
     | none => cases outs s' (n + 1) ms r <;> rfl
     | some y => cases y with
      | own w d' => have := (h0 w d').mpr e'; rw [e] at this; cases this
      | _ => cases outs s' (n + 1) ms r <;> rfl
    | bor a b =>
     cases e' : s'[n]? with
     | none => cases outs s' (n + 1) ms r <;> rfl
     | some y => cases y with
      | own w d' => have := (h0 w d').mpr e'; rw [e] at this; cases this
      | _ => cases outs s' (n + 1) ms r <;> rfl
 | n, [], [], h => rfl
 | n, _ :: _, [], h => rfl
 | n, [], _ :: _, h => rfl
theorem Z563 {ad : Str → Addr} {ms : List Bool} {fn : Fn} {vs : List V} {H : Hp} {Q : VK} {E : XK} (h : spR ad ms fn vs H Q E) : vs.length = ms.length := by
 obtain ⟨l, B, hv, en, _⟩ := h
 rw [← hv, List.length_map, en.len]
theorem Z69 {ad : Str → Addr} {N : List Str} {ms : List Bool} {body : SF} {vs : List V} {H : Hp} {Q : VK} {E : XK} (hn : ms.length ≤ N.length) (h : spR ad ms (runDef N.length ms body) vs H Q E) :
  ∃ R : RC, R.EX = (fun _ => E) ∧ R.ad = ad ∧ lS R (List.range N.length) body { nx := fun _ H' => Q .non H', rt := Q } (L2.start N vs) H := by
 obtain ⟨l, B, hv, en, h⟩ := h
 refine ⟨⟨H, fun a => H a ≠ none ∧ a ∉ T.owns (selM true ms l), B, fun _ => E, ad⟩, rfl, rfl, ancs N.length l, iniT N.length ms l, [], Cf.entry en hv (by rw [← en.len]; exact hn), ?_⟩
 rw [Z209]
 unfold runDef at h
 generalize ini N.length ms (T.ers l) = s0 at h
 have fin : ∀ {H' : Hp} {σ' : L2.St} {ts' : Ts} {t : T} {s' : Sd}, ts'.map TL.er = s' → Cf ⟨H, fun a => H a ≠ none ∧ a ∉ T.owns (selM true ms l), B, fun _ => E, ad⟩ (List.range N.length) (ancs N.length l) H' σ' ts' [t] →
   (match ends N.length ms (T.ers l) (.val t.er) s' with | .ok rv ds' => ∀ H' l' rt v, T.ers l' = ds' → rt.er = rv → RtOk ms l' v rt → Exi H H' B ms l l' rt.tr → Q v H' | .ex C ds' => ∀ H' l', T.ers l' = ds' → Exi H H' B ms l l' [] → E (.ref (ad C)) none H' | .no => False) → Q t.val H' := by
  intro H' σ' ts' t s' e C h
  subst e
  unfold ends at h
  cases eo : outs (ts'.map TL.er) N.length ms (T.ers l) with
  | none => rw [eo] at h; exact h.elim
  | some ds' =>
   rw [eo] at h
   obtain ⟨l', a1, a2, _⟩ := Cf.exit en C eo
   exact h H' l' (.val t) t.val a1 rfl rfl a2
 cases eb : body s0 with
 | nx s => rw [eb] at h; intro H' σ' ts' e C; exact fin (t := .at .non) e (C.at .non) h
 | bk s => rw [eb] at h; exact h.elim
 | ct s => rw [eb] at h; exact h.elim
 | no => rw [eb] at h; exact h.elim
 | ex Cx s =>
  rw [eb] at h
  intro H' σ' ts' e C
  subst e
  dsimp only at h
  cases eo : outs (ts'.map TL.er) N.length ms (T.ers l) with
  | none => rw [eo] at h; exact h.elim
  | some ds' =>
   rw [eo] at h
   obtain ⟨l', a1, a2, _⟩ := Cf.exit en C eo
   exact h H' l' a1 a2
 | rt r s =>
  rw [eb] at h
  intro H' σ' ts' tv v e1 e2 hv' C
  cases r with
  | val d =>
   obtain ⟨t, rfl, rfl, rfl⟩ := hv'.er_val e2
   exact fin e1 C h
  | plc j q =>
   obtain ⟨a, rfl, rfl, hp⟩ := hv'.er_plc e2
   subst e1
   obtain ⟨w, t, s1, h1, h2, h3⟩ := hp
   dsimp only at h
   unfold ends at h
   cases eo : outs (ts'.map TL.er) N.length ms (T.ers l) with
   | none => rw [eo] at h; exact h.elim
   | some ds' =>
    rw [eo] at h
    dsimp only at h
    by_cases hj : N.length ≤ j
    ·rw [if_pos hj] at h
     obtain ⟨l', a1, a2, a3⟩ := Cf.exit (m := []) en C eo
     cases em : ms[j - N.length]? with
     | none => rw [em] at h; exact h.elim
     | some m =>
      cases ed : (T.ers l)[j - N.length]? with
      | none => rw [em, ed] at h; cases m <;> exact h.elim
      | some d =>
       rw [em, ed] at h
       cases m with
       | false => exact h.elim
       | true =>
        dsimp only at h
        cases hi : d.imm with
        | true => rw [hi] at h; exact h.elim
        | false =>
         rw [hi] at h
         refine h H' l' (.arg (j - N.length) q a) (.ref a) a1 rfl ⟨rfl, em, ?_⟩ a2
         have hlt : j - N.length < l'.length := by
          rw [a2.len]
          have := (List.getElem?_eq_some_iff.mp ed).1
          rwa [T.ers_eq, List.length_map] at this
         rcases a3 (j - N.length) l'[j - N.length] (List.getElem?_eq_getElem hlt) with ⟨u, u1, u2, _⟩ | ⟨u, w', u1, u2, u3, u4⟩
         ·rw [T.ers_eq, List.getElem?_map, u1] at ed
          cases ed
          rw [u2] at hi; cases hi
         ·rw [show N.length + (j - N.length) = j by omega, h1] at u4
          cases u4
          exact ⟨_, s1, List.getElem?_eq_getElem hlt, h2, h3⟩
    ·rw [if_neg hj] at h
     have hd1 : dref (ts'.map TL.er) (.plc j q) = some s1.er := by simp only [dref, List.getElem?_map, h1, Option.map_some, TL.er, T.get_er, h2]
     rw [hd1, List.getElem?_map, h1] at h
     cases w with
     | false => exact h.elim
     | true =>
      obtain ⟨c, r, K⟩ := T.ctx h2
      have C' : Cf ⟨H, fun a => H a ≠ none ∧ a ∉ T.owns (selM true ms l), B, fun _ => E, ad⟩ (List.range N.length) (ancs N.length l) H' σ' ((ts'.set j (.own true (T.put (.at (.ref a)) q t))).map (killT j q fun _ => false)) [s1] := by
       refine Cf.exch (s' := .at (.ref a)) (x := []) (fr' := [s1]) C h1 h2 h3.symm trivial ⟨T.get_ok h2 (C.ok true t (List.mem_of_getElem? h1)), trivial⟩ ?_ ?_
       ·simp [T.owns, T.own, TV.tr]
       ·intro b hb
        simpa [T.ros, T.ro, TV.tr] using hb
      have eo' : outs (((ts'.set j (.own true (T.put (.at (.ref a)) q t))).map (killT j q fun _ => false)).map TL.er) N.length ms (T.ers l) = some ds' := by
       rw [← eo]
       refine (Z389 fun i hi w d => ?_).symm
       rw [List.getElem?_map, List.getElem?_map, List.getElem?_map, List.getElem?_set, if_neg (by omega)]
       cases e : ts'[i]? with
       | none => simp
       | some y =>
        rcases Z255 (k := j) (p := q) (keep := fun _ => false) y with e' | ⟨e', k', q', a', rfl⟩
        ·simp only [Option.map_some, e']
        ·simp only [Option.map_some, e', TL.er]
         exact ⟨fun z => (by cases z), fun z => (by cases z)⟩
      obtain ⟨l', a1, a2, _⟩ := Cf.exit en C' eo'
      exact h H' l' (.val s1) (.ref a) a1 rfl h3.symm a2
end RM
set_option Elab.async false
set_option linter.all false
set_option maxRecDepth 100000

namespace RM
open PySem PySem.Spec PyProof.Rows L2
noncomputable def disj : List Nat → List Nat → Bool
 | x :: p, y :: q => if x = y then disj p q else true
 | _, _ => false
noncomputable def apart (k : Nat) (p : List Nat) : List DV → List Bool → Bool
 | .plc k' p' :: rs, true :: ms => (decide (k' ≠ k) || disj p' p) && apart k p rs ms
 | _ :: rs, _ :: ms => apart k p rs ms
 | _, _ => true
noncomputable def takes : List DV → List Bool → Sd → Option (Sd × List (Option D))
 | [], _, s => some (s, [])
 | .val d :: rs, _ :: ms, s => (match takes rs ms s with | some (s', l) => some (s', some d :: l) | none => none)
 | .plc k p :: rs, true :: ms, s => (match s[k]?, dref s (.plc k p), apart k p rs ms with
  | some (.own true _), some d, true => (match takes rs ms (wr s k p hole fun _ => false) with | some (s', l) => some (s', some d :: l) | none => none)
  | _, _, _ => none)
 | .plc _ _ :: rs, false :: ms, s => (match takes rs ms s with | some (s', l) => some (s', none :: l) | none => none)
 | _ :: _, [], _ => none
noncomputable def fills (s : Sd) : List DV → List (Option D) → Option (List D)
 | _ :: rs, some d :: l => (match fills s rs l with | some r => some (d :: r) | none => none)
 | r :: rs, none :: l => (match dref s r, fills s rs l with | some d, some r => some (d :: r) | _, _ => none)
 | [], [] => some []
 | _, _ => none
noncomputable def gives : List DV → List Bool → List D → Sd → Sd
 | .plc k p :: rs, true :: ms, d :: ds, s => wr (gives rs ms ds s) k p d fun _ => false
 | _ :: rs, _ :: ms, _ :: ds, s => gives rs ms ds s
 | _, _, _, s => s
noncomputable def retV (rs : List DV) (ms : List Bool) (s : Sd) : RV → ER DV
 | .val d => .ok (.val d) s
 | .arg j q => match rs[j]?, ms[j]? with
  | some (.plc k p), some true => (match dref s (.plc k (p ++ q)) with | some d => .ok (mkV k (p ++ q) d) s | none => .no)
  | _, _ => .no
noncomputable def eCall (ms : List Bool) (fn : Fn) (f : AF) : EF := fun s => match f s with
 | .ok rs s1 => (match takes rs ms s1 with
  | some (sh, l) => (match fills sh rs l with
   | some ds => (match fn ds with
    | .ok rv ds' => retV rs ms (gives rs ms ds' sh) rv
    | .ex C ds' => .ex C (gives rs ms ds' sh)
    | .no => .no)
   | none => .no)
  | none => .no)
 | .ex C s1 => .ex C s1
 | .no => .no
noncomputable def treeAt (ts : Ts) (k : Nat) (p : List Nat) : Option (Bool × T) := match ts[k]? with
 | some (.own w t) => (t.get p).map fun u => (w, u)
 | _ => none
theorem Z70 : ∀ {p q : List Nat}, disj p q = disj q p
 | [], [] => rfl
 | [], _ :: _ => rfl
 | _ :: _, [] => rfl
 | x :: p, y :: q => by
  unfold disj
  by_cases h : x = y
  ·subst h; rw [if_pos rfl, if_pos rfl, Z70]
  ·rw [if_neg h, if_neg (Ne.symm h)]
theorem Z162 {s' : T} : ∀ {p q : List Nat} {t : T}, disj p q = true → (T.put s' p t).get q = t.get q
 | [], q, t, h => by cases h
 | _ :: _, [], t, h => by cases h
 | i :: p, j :: q, .at v, h => rfl
 | i :: p, j :: q, .nd a k l, h => by
  unfold disj at h
  simp only [T.put, T.get]
  cases e : l[i]? with
  | none => rfl
  | some c =>
   simp only [T.get]
   rw [List.getElem?_set]
   by_cases hij : i = j
   ·subst hij
    rw [if_pos rfl] at h
    rw [if_pos rfl, if_pos (List.getElem?_eq_some_iff.mp e).1, e]
    exact Z162 h
   ·rw [if_neg hij]
noncomputable def TV.vv : TV → V
 | .val t => t.val | .plc _ _ a => .ref a
section
variable {R : RC} {ix : List Nat} {hd : List (Nat × Addr)} {X : Cx} {H H' : Hp} {σ : L2.St} {ts : Ts} {fr : List T}
theorem Z585 {k : Nat} {p : List Nat} {t s' : T} {keep : Nat → Bool} (hk : ts[k]? = some (.own true t)) {k0 : Nat} {p0 : List Nat} (h : k0 ≠ k ∨ disj p p0 = true) :
  treeAt ((ts.set k (.own true (T.put s' p t))).map (killT k p keep)) k0 p0 = treeAt ts k0 p0 := by
 unfold treeAt
 rw [List.getElem?_map, List.getElem?_set]
 by_cases e : k = k0
 ·subst e
  rw [if_pos rfl, if_pos (List.getElem?_eq_some_iff.mp hk).1, hk]
  have hd : disj p p0 = true := h.resolve_left (fun z => z rfl)
  show ((T.put s' p t).get p0).map _ = (t.get p0).map _
  rw [Z162 hd]
 ·rw [if_neg e]
  cases e1 : ts[k0]? with
  | none => rfl
  | some y =>
   rcases Z255 (k := k) (p := p) (keep := keep) y with e' | ⟨e', k', q, a, rfl⟩
   ·simp only [Option.map_some, e']
   ·simp only [Option.map_some, e']
theorem Z584 {k : Nat} {p : List Nat} {t s s' : T} {keep : Nat → Bool} (hk : ts[k]? = some (.own true t)) (hp : t.get p = some s) :
  treeAt ((ts.set k (.own true (T.put s' p t))).map (killT k p keep)) k p = some (true, s') := by
 unfold treeAt
 rw [List.getElem?_map, List.getElem?_set, if_pos rfl, if_pos (List.getElem?_eq_some_iff.mp hk).1]
 show ((T.put s' p t).get p).map _ = _
 have := Z163 (s' := s') (r := []) hp
 rw [List.append_nil] at this
 rw [this]; rfl
theorem Z586 {k : Nat} {p : List Nat} {w : Bool} {u : T} (h : treeAt ts k p = some (w, u)) : ∃ t, ts[k]? = some (.own w t) ∧ t.get p = some u := by
 unfold treeAt at h
 cases e : ts[k]? with
 | none => rw [e] at h; cases h
 | some y =>
  rw [e] at h
  cases y with
  | own w' t =>
   dsimp only at h
   cases e2 : t.get p with
   | none => rw [e2] at h; cases h
   | some v => rw [e2] at h; cases h; exact ⟨t, rfl, e2⟩
  | _ => cases h
theorem Z3 {k : Nat} {p : List Nat} : ∀ {tvs : List TV} {ms : List Bool} {i k' : Nat} {p' : List Nat} {a : Addr}, apart k p (tvs.map TV.er) ms = true → tvs[i]? = some (.plc k' p' a) → ms[i]? = some true → k' ≠ k ∨ disj p' p = true
 | tv :: tvs, m :: ms, i, k', p', a, h, h1, h2 => by
  cases i with
  | zero =>
   cases h1; cases h2
   simp only [List.map_cons, TV.er, apart, Bool.and_eq_true, Bool.or_eq_true, decide_eq_true_eq] at h
   exact h.1
  | succ i =>
   refine Z3 (tvs := tvs) (ms := ms) (i := i) ?_ (by simpa using h1) (by simpa using h2)
   cases tv with
   | val t => simpa only [List.map_cons, TV.er, apart] using h
   | plc k2 p2 a2 =>
    cases m with
    | false => simpa only [List.map_cons, TV.er, apart] using h
    | true => simp only [List.map_cons, TV.er, apart, Bool.and_eq_true] at h; exact h.2
 | [], _, i, _, _, _, _, h1, _ => by simp at h1
 | _ :: _, [], i, _, _, _, _, _, h2 => by simp at h2
noncomputable def Aparts : List TV → List Bool → Prop
 | .plc k p _ :: tvs, true :: ms => apart k p (tvs.map TV.er) ms = true ∧ Aparts tvs ms
 | _ :: tvs, _ :: ms => Aparts tvs ms
 | _, _ => True
theorem Z169 : ∀ {tvs : List TV} {ms : List Bool} {l' rest : List T} {tsx : Ts}, Aparts tvs ms → ms.length = tvs.length → l'.map T.val = tvs.map TV.vv → Cf R ix hd H' σ tsx (selM true ms l' ++ rest) →
  (∀ (i k : Nat) p a, tvs[i]? = some (.plc k p a) → ms[i]? = some true → treeAt tsx k p = some (true, .at (.ref a))) →
  ∃ ts', ts'.map TL.er = gives (tvs.map TV.er) ms (T.ers l') (tsx.map TL.er) ∧ Cf R ix hd H' σ ts' rest ∧ (∀ (i k : Nat) p a t, tvs[i]? = some (.plc k p a) → ms[i]? = some true → l'[i]? = some t → treeAt ts' k p = some (true, t)) ∧
   ∀ k0 p0 u, (∀ (i k : Nat) p a, tvs[i]? = some (.plc k p a) → ms[i]? = some true → k0 ≠ k ∨ disj p p0 = true) → treeAt tsx k0 p0 = some u → treeAt ts' k0 p0 = some u
 | [], ms, l', rest, tsx, _, hl, hv, C, _ => by
  have : ms = [] := by simpa using hl
  subst this
  refine ⟨tsx, by simp [gives], by simpa [selM] using C, fun i k p a t h => by simp at h, fun _ _ _ _ h => h⟩
 | tv :: tvs, [], _, _, _, _, hl, _, _, _ => by simp at hl
 | tv :: tvs, m :: ms, [], _, _, _, _, hv, _, _ => by simp at hv
 | tv :: tvs, m :: ms, t :: l', rest, tsx, A, hl, hv, C, hh => by
  simp only [List.map_cons, List.cons.injEq] at hv
  have hl' : ms.length = tvs.length := by simpa using hl
  have tail : ∀ {rest' : List T}, Aparts tvs ms → Cf R ix hd H' σ tsx (selM true ms l' ++ rest') → _ := fun {rest'} A' C' => Z169 (rest := rest') A' hl' hv.2 C' fun i k p a h1 h2 => hh (i + 1) k p a (by simpa using h1) (by simpa using h2)
  have plain : Aparts tvs ms → (∀ k p a, tv = .plc k p a → m = true → False) → gives ((tv :: tvs).map TV.er) (m :: ms) (T.ers (t :: l')) (tsx.map TL.er) = gives (tvs.map TV.er) ms (T.ers l') (tsx.map TL.er) → Cf R ix hd H' σ tsx (selM true ms l' ++ rest) → ∃ ts', ts'.map TL.er = gives ((tv :: tvs).map TV.er) (m :: ms) (T.ers (t :: l')) (tsx.map TL.er) ∧ Cf R ix hd H' σ ts' rest ∧ (∀ (i k : Nat) p a u, (tv :: tvs)[i]? = some (.plc k p a) → (m :: ms)[i]? = some true → (t :: l')[i]? = some u → treeAt ts' k p = some (true, u)) ∧
   ∀ k0 p0 u, (∀ (i k : Nat) p a, (tv :: tvs)[i]? = some (.plc k p a) → (m :: ms)[i]? = some true → k0 ≠ k ∨ disj p p0 = true) → treeAt tsx k0 p0 = some u → treeAt ts' k0 p0 = some u := by
   intro A' hno hg C'
   obtain ⟨ts', e1, e2, e3, e4⟩ := tail A' C'
   refine ⟨ts', e1.trans hg.symm, e2, fun i k p a u h1 h2 h3 => ?_, fun k0 p0 u h1 h2 => e4 k0 p0 u (fun i k p a z1 z2 => h1 (i + 1) k p a (by simpa using z1) (by simpa using z2)) h2⟩
   cases i with
   | zero => cases h1; cases h2; exact (hno k p a rfl rfl).elim
   | succ i => exact e3 i k p a u (by simpa using h1) (by simpa using h2) (by simpa using h3)
  cases tv with
  | val t0 =>
   refine plain A (by intro _ _ _ z; cases z) rfl ?_
   simp only [selM] at C
   cases m with
   | true => rw [if_pos rfl] at C; exact C.drop
   | false => rwa [if_neg Bool.false_ne_true] at C
  | plc k p a =>
   cases m with
   | false =>
    refine plain A (by intro _ _ _ _ z; cases z) rfl ?_
    simp only [selM] at C
    rwa [if_neg Bool.false_ne_true] at C
   | true =>
    simp only [selM, if_true] at C
    have C1 : Cf R ix hd H' σ tsx (selM true ms l' ++ (t :: rest)) := by
     have ok := C.fok
     refine C.less (x := []) (T.oks_app.mpr ⟨(T.oks_app.mp ok.2).1, ok.1, (T.oks_app.mp ok.2).2⟩) ?_ fun b hb => ?_
     ·refine List.perm_iff_count.mpr fun b => ?_
      simp only [List.cons_append, T.owns_cons, T.owns_app, List.count_append, List.append_nil]; omega
     ·left
      simp only [List.cons_append, T.ros_cons, T.ros_app, List.mem_append] at hb ⊢
      rcases hb with hb | hb | hb <;> simp [hb]
    obtain ⟨ts1, e1, e2, e3, e4⟩ := tail (rest' := t :: rest) A.2 C1
    have hole1 : treeAt ts1 k p = some (true, .at (.ref a)) := by
     refine e4 k p _ (fun i k' p' a' z1 z2 => ?_) (hh 0 k p a rfl rfl)
     exact (Z3 A.1 z1 z2).imp Ne.symm id
    obtain ⟨u, u1, u2⟩ := Z586 hole1
    have C2 := Cf.exch (s' := t) (fr' := rest) (x := []) e2 u1 u2 hv.1 e2.fok.1 e2.fok.2 (by simp [T.own, T.owns]) (fun b hb => .inr (by rw [T.ros_cons]; simpa using hb))
    refine ⟨_, ?_, C2, fun i k' p' a' t' h1 h2 h3 => ?_, fun k0 p0 x h1 h2 => ?_⟩
    ·rw [wr_er u1, e1]; rfl
    ·cases i with
     | zero => cases h1; cases h3; exact Z584 u1 u2
     | succ i =>
      rw [Z585 u1 (by
       have := Z3 A.1 (i := i) (by simpa using h1) (by simpa using h2)
       rw [Z70]; exact this)]
      exact e3 i k' p' a' t' (by simpa using h1) (by simpa using h2) (by simpa using h3)
    ·rw [Z585 u1 (h1 0 k p a rfl rfl)]
     exact e4 k0 p0 x (fun i k p a z1 z2 => h1 (i + 1) k p a (by simpa using z1) (by simpa using z2)) h2
end
end RM
set_option Elab.async false
set_option linter.all false
set_option maxRecDepth 100000

namespace RM
open PySem PySem.Spec PyProof.Rows L2
section
variable {R : RC} {ix : List Nat} {hd : List (Nat × Addr)} {X : Cx} {H H' : Hp} {σ : L2.St} {ts : Ts} {fr : List T}
noncomputable def TvW (ts : Ts) : TV → Prop
 | .val _ => True
 | .plc k p a => dref (ts.map TL.er) (.plc k p) ≠ none → PlOk ts k p a
theorem TvW.take {k : Nat} {p : List Nat} {t s s' : T} {tv : TV} {a : Addr} (h : TvW ts tv) (hk : ts[k]? = some (.own true t)) (hp : t.get p = some s) (hs : s' = .at (.ref a)) (hv : s'.val = s.val) : TvW ((ts.set k (.own true (T.put s' p t))).map (killT k p fun _ => false)) tv := by
 cases tv with
 | val _ => trivial
 | plc k0 p0 a0 =>
  intro hd
  have same : ∀ (j : Nat) w u, j ≠ k → (ts[j]? = some (TL.own w u) ↔ ((ts.set k (.own true (T.put s' p t))).map (killT k p fun _ => false))[j]? = some (TL.own w u)) := by
   intro j w u hj
   rw [List.getElem?_map, List.getElem?_set, if_neg (Ne.symm hj)]
   cases e : ts[j]? with
   | none => simp
   | some y =>
    rcases Z255 (k := k) (p := p) (keep := fun _ => false) y with e' | ⟨e', _, _, _, rfl⟩
    ·simp only [Option.map_some, e']
    ·simp only [Option.map_some, e']
     exact ⟨fun z => (by cases z), fun z => (by cases z)⟩
  have atk : ((ts.set k (.own true (T.put s' p t))).map (killT k p fun _ => false))[k]? = some (TL.own true (T.put s' p t)) := by
   rw [List.getElem?_map, List.getElem?_set, if_pos rfl, if_pos (List.getElem?_eq_some_iff.mp hk).1]; rfl
  by_cases hk0 : k0 = k
  ·subst hk0
   have g : (T.put s' p t).get p0 ≠ none := by
    intro z
    apply hd
    simp only [dref, List.getElem?_map]
    rw [← List.getElem?_map, ← List.getElem?_map, List.getElem?_map, atk]
    simp only [Option.map_some, TL.er, T.get_er, z]; rfl
   have hsub : sub p p0 = none := by
    cases hs2 : sub p p0 with
    | none => rfl
    | some i =>
     exfalso
     obtain ⟨r, rfl⟩ := Z570 hs2
     rw [Z163 hp, hs] at g
     exact g rfl
   have g0 : t.get p0 ≠ none := by
    intro z
    have : ∀ {p q : List Nat} {t : T}, t.get q = none → sub p q = none → (T.put s' p t).get q = none := by
     intro p
     induction p with
     | nil => intro q t h1 h2; cases q with
      | nil => cases h1
      | cons => cases h2
     | cons i p ih =>
      intro q t h1 h2
      cases q with
      | nil => cases h1
      | cons j q =>
       cases t with
       | «at» v => rfl
       | nd a k l =>
        simp only [T.put]
        cases e : l[i]? with
        | none => exact h1
        | some c =>
         simp only [T.get] at h1 ⊢
         rw [List.getElem?_set]
         unfold sub at h2
         by_cases hij : i = j
         ·subst hij
          rw [if_pos rfl] at h2
          rw [e] at h1
          rw [if_pos rfl, if_pos (List.getElem?_eq_some_iff.mp e).1]
          exact ih h1 h2
         ·rw [if_neg hij]; exact h1
    exact g (this z hsub)
   obtain ⟨w, u, x, h1, h2, h3⟩ := h (by
    simp only [dref, List.getElem?_map, hk, Option.map_some, TL.er, T.get_er]
    cases e : t.get p0 with
    | none => exact absurd e g0
    | some y => simp)
   rw [hk] at h1
   cases h1
   obtain ⟨u', q1, q2⟩ := Z166 (s' := s') hp hv hsub h2
   exact ⟨true, _, u', atk, q1, q2.trans h3⟩
  ·obtain ⟨w, u, x, h1, h2, h3⟩ := h (by
    intro z
    apply hd
    simp only [dref, List.getElem?_map] at z ⊢
    cases e : ts[k0]? with
    | none =>
     rw [← List.getElem?_map, ← List.getElem?_map, List.getElem?_map]
     have : ((ts.set k (.own true (T.put s' p t))).map (killT k p fun _ => false))[k0]? = none := by
      rw [List.getElem?_map, List.getElem?_set, if_neg (Ne.symm hk0), e]; rfl
     rw [this]; rfl
    | some y =>
     rw [e] at z
     cases y with
     | own w u =>
      have := (same k0 w u hk0).mp e
      rw [← List.getElem?_map, ← List.getElem?_map, List.getElem?_map, this]
      exact z
     | non =>
      have : ((ts.set k (.own true (T.put s' p t))).map (killT k p fun _ => false))[k0]? = some .non := by
       rw [List.getElem?_map, List.getElem?_set, if_neg (Ne.symm hk0), e]; rfl
      rw [← List.getElem?_map, ← List.getElem?_map, List.getElem?_map, this]; rfl
     | bor k1 p1 a1 =>
      have : ∃ z, ((ts.set k (.own true (T.put s' p t))).map (killT k p fun _ => false))[k0]? = some z ∧ ∀ w u, z ≠ .own w u := by
       rw [List.getElem?_map, List.getElem?_set, if_neg (Ne.symm hk0), e]
       refine ⟨_, rfl, fun w u z => ?_⟩
       rcases Z255 (k := k) (p := p) (keep := fun _ => false) (.bor k1 p1 a1) with e' | ⟨e', _⟩ <;> rw [e'] at z <;> cases z
      obtain ⟨z, hz, hn⟩ := this
      rw [← List.getElem?_map, ← List.getElem?_map, List.getElem?_map, hz]
      cases z with
      | own w u => exact absurd rfl (hn w u)
      | _ => rfl)
   exact ⟨w, u, x, (same k0 w u hk0).mp h1, h2, h3⟩
theorem TvOk.w {v : V} {tv : TV} (h : TvOk ts v tv) : TvW ts tv ∧ v = tv.vv := by
 cases tv with
 | val t => exact ⟨trivial, h⟩
 | plc k p a => exact ⟨fun _ => h.2, h.1⟩
theorem Z572 : ∀ {tvs : List TV} {ms : List Bool} {ts : Ts} {acc : List T} {sh : Sd} {lo : List (Option D)}, (∀ tv ∈ tvs, TvW ts tv) → Cf R ix hd H σ ts (trs tvs ++ acc) → takes (tvs.map TV.er) ms (ts.map TL.er) = some (sh, lo) → ms.length = tvs.length →
  ∃ (tsh : Ts) (as : List (Option T)), tsh.map TL.er = sh ∧ as.map (Option.map T.er) = lo ∧ as.length = tvs.length ∧ Cf R ix hd H σ tsh (as.filterMap id ++ acc) ∧ Aparts tvs ms ∧ (∀ tv, TvW ts tv → TvW tsh tv) ∧
   (∀ (i : Nat) t tv, as[i]? = some (some t) → tvs[i]? = some tv → t.val = tv.vv) ∧ (∀ i : Nat, as[i]? = some none → ms[i]? = some false) ∧
   (∀ (i k : Nat) p a, tvs[i]? = some (.plc k p a) → ms[i]? = some true → treeAt tsh k p = some (true, .at (.ref a))) ∧
   ∀ k0 p0 u, (∀ (i k : Nat) p a, tvs[i]? = some (.plc k p a) → ms[i]? = some true → k0 ≠ k ∨ disj p p0 = true) → treeAt ts k0 p0 = some u → treeAt tsh k0 p0 = some u
 | [], ms, ts, acc, sh, lo, hw, C, h, hl => by
  cases h
  exact ⟨ts, [], rfl, rfl, rfl, by simpa [trs] using C, by cases ms <;> trivial, fun _ z => z, by simp, by simp, by simp, fun _ _ _ _ z => z⟩
 | tv :: tvs, [], _, _, _, _, _, _, _, hl => by simp at hl
 | tv :: tvs, m :: ms, ts, acc, sh, lo, hw, C, h, hl => by
  have hl' : ms.length = tvs.length := by simpa using hl
  have hw' : ∀ tv ∈ tvs, TvW ts tv := fun x z => hw x (List.mem_cons_of_mem _ z)
  have reo : ∀ {tsh : Ts} {as : List (Option T)} {t : T}, Cf R ix hd H σ tsh (as.filterMap id ++ (t :: acc)) → Cf R ix hd H σ tsh ((some t :: as).filterMap id ++ acc) := by
   intro tsh as t C
   have ok := T.oks_app.mp C.fok
   refine C.less (x := []) ?_ ?_ fun b hb => ?_
   ·simp only [List.filterMap_cons, id, List.cons_append]
    exact ⟨ok.2.1, T.oks_app.mpr ⟨ok.1, ok.2.2⟩⟩
   ·refine List.perm_iff_count.mpr fun b => ?_
    simp only [List.filterMap_cons, id, List.cons_append, T.owns_cons, T.owns_app, List.count_append, List.append_nil]; omega
   ·left
    simp only [List.filterMap_cons, id, List.cons_append, T.ros_cons, T.ros_app, List.mem_append] at hb ⊢
    rcases hb with hb | hb | hb <;> simp [hb]
  cases tv with
  | val t =>
   have C1 : Cf R ix hd H σ ts (trs tvs ++ (t :: acc)) := by
    have C0 : Cf R ix hd H σ ts (t :: (trs tvs ++ acc)) := C
    have ok := C0.fok
    refine C0.less (x := []) (T.oks_app.mpr ⟨(T.oks_app.mp ok.2).1, ok.1, (T.oks_app.mp ok.2).2⟩) ?_ fun b hb => ?_
    ·refine List.perm_iff_count.mpr fun b => ?_
     simp only [T.owns_cons, T.owns_app, List.count_append, List.append_nil]; omega
    ·left
     simp only [T.ros_cons, T.ros_app, List.mem_append] at hb ⊢
     rcases hb with hb | hb | hb <;> simp [hb]
   simp only [List.map_cons, TV.er, takes] at h
   cases et : takes (tvs.map TV.er) ms (ts.map TL.er) with
   | none => rw [et] at h; cases h
   | some y =>
    obtain ⟨s', l⟩ := y
    rw [et] at h
    cases h
    obtain ⟨tsh, as, a1, a2, a3, a4, a5, a6, a7, a8, a9, a10⟩ := Z572 hw' C1 et hl'
    refine ⟨tsh, some t :: as, a1, by simp [a2], by simp [a3], reo a4, a5, a6, fun i u x h1 h2 => ?_, fun i h1 => ?_, fun i k p a h1 h2 => ?_, fun k0 p0 u h1 h2 => ?_⟩
    ·cases i with
     | zero => cases h1; cases h2; rfl
     | succ i => exact a7 i u x (by simpa using h1) (by simpa using h2)
    ·cases i with
     | zero => cases h1
     | succ i => simpa using a8 i (by simpa using h1)
    ·cases i with
     | zero => cases h1
     | succ i => exact a9 i k p a (by simpa using h1) (by simpa using h2)
    ·exact a10 k0 p0 u (fun i k p a z1 z2 => h1 (i + 1) k p a (by simpa using z1) (by simpa using z2)) h2
  | plc k p a =>
   have C0 : Cf R ix hd H σ ts (trs tvs ++ acc) := C
   cases m with
   | false =>
    simp only [List.map_cons, TV.er, takes] at h
    cases et : takes (tvs.map TV.er) ms (ts.map TL.er) with
    | none => rw [et] at h; cases h
    | some y =>
     obtain ⟨s', l⟩ := y
     rw [et] at h
     cases h
     obtain ⟨tsh, as, a1, a2, a3, a4, a5, a6, a7, a8, a9, a10⟩ := Z572 (acc := acc) hw' C0 et hl'
     refine ⟨tsh, none :: as, a1, by simp [a2], by simp [a3], by simpa using a4, a5, a6, fun i u x h1 h2 => ?_, fun i h1 => ?_, fun i k p a h1 h2 => ?_, fun k0 p0 u h1 h2 => ?_⟩
     ·cases i with
      | zero => cases h1
      | succ i => exact a7 i u x (by simpa using h1) (by simpa using h2)
     ·cases i with
      | zero => rfl
      | succ i => simpa using a8 i (by simpa using h1)
     ·cases i with
      | zero => cases h2
      | succ i => exact a9 i k p a (by simpa using h1) (by simpa using h2)
     ·exact a10 k0 p0 u (fun i k p a z1 z2 => h1 (i + 1) k p a (by simpa using z1) (by simpa using z2)) h2
   | true =>
    simp only [List.map_cons, TV.er, takes, List.getElem?_map] at h
    cases ek : ts[k]? with
    | none => rw [ek] at h; cases h
    | some y =>
     rw [ek] at h
     cases y with
     | non => cases h
     | bor _ _ _ => cases h
     | own w t =>
      cases w with
      | false => simp only [Option.map_some, TL.er] at h; cases h
      | true =>
       simp only [Option.map_some, TL.er] at h
       cases ed : dref (ts.map TL.er) (.plc k p) with
       | none => rw [ed] at h; cases h
       | some d =>
        rw [ed] at h
        cases ea : apart k p (tvs.map TV.er) ms with
        | false => rw [ea] at h; cases h
        | true =>
         rw [ea] at h
         dsimp only at h
         obtain ⟨w', t', s, h1, h2, h3⟩ := hw _ List.mem_cons_self (show dref (ts.map TL.er) (.plc k p) ≠ none by rw [ed]; simp)
         rw [ek] at h1
         cases h1
         have hds : d = s.er := by
          simp only [dref, List.getElem?_map, ek, Option.map_some, TL.er, T.get_er, h2, Option.some.injEq] at ed
          exact ed.symm
         have sok : s.ok H := T.get_ok h2 (C.ok true t (List.mem_of_getElem? ek))
         have C1 := Cf.exch (s' := .at (.ref a)) (fr' := trs tvs ++ (s :: acc)) (x := []) C0 ek h2 h3.symm trivial (T.oks_app.mpr ⟨(T.oks_app.mp C0.fok).1, sok, (T.oks_app.mp C0.fok).2⟩) (by
          refine List.perm_iff_count.mpr fun b => ?_
          simp only [T.own, T.owns_cons, T.owns_app, List.count_append, List.count_nil, List.append_nil, List.nil_append]; omega) (fun b hb => by
          simp only [T.ro, T.ros_cons, T.ros_app, List.mem_append, List.not_mem_nil, false_or] at hb ⊢
          rcases hb with hb | hb | hb <;> simp [hb])
         have er1 := wr_er (ts := ts) (s' := .at (.ref a)) (p := p) (keep := fun _ => false) ek
         cases et : takes (tvs.map TV.er) ms (wr (ts.map TL.er) k p hole fun _ => false) with
         | none => rw [et] at h; cases h
         | some y =>
          obtain ⟨s', l⟩ := y
          rw [et] at h
          cases h
          obtain ⟨tsh, as, a1, a2, a3, a4, a5, a6, a7, a8, a9, a10⟩ := Z572 (acc := s :: acc) (fun x z => TvW.take (hw' x z) ek h2 rfl h3.symm) C1 (by rw [er1]; exact et) hl'
          refine ⟨tsh, some s :: as, a1, by simp [a2, hds], by simp [a3], reo a4, ⟨ea, a5⟩, fun x z => a6 x (TvW.take z ek h2 rfl h3.symm), fun i u x q1 q2 => ?_, fun i q1 => ?_, fun i k' p' a' q1 q2 => ?_, fun k0 p0 u q1 q2 => ?_⟩
          ·cases i with
           | zero => cases q1; cases q2; exact h3
           | succ i => exact a7 i u x (by simpa using q1) (by simpa using q2)
          ·cases i with
           | zero => cases q1
           | succ i => simpa using a8 i (by simpa using q1)
          ·cases i with
           | zero =>
            cases q1
            exact a10 k p _ (fun i k2 p2 a2 z1 z2 => (Z3 ea z1 z2).imp Ne.symm id) (Z584 ek h2)
           | succ i => exact a9 i k' p' a' (by simpa using q1) (by simpa using q2)
          ·refine a10 k0 p0 u (fun i k2 p2 a2 z1 z2 => q1 (i + 1) k2 p2 a2 (by simpa using z1) (by simpa using z2)) ?_
           rw [Z585 ek (q1 0 k p a rfl rfl)]
           exact q2
end
end RM
set_option Elab.async false
set_option linter.all false
set_option maxRecDepth 100000

namespace RM
open PySem PySem.Spec PyProof.Rows L2
section
variable {R : RC} {ix : List Nat} {hd : List (Nat × Addr)} {X : Cx} {H H' : Hp} {σ : L2.St} {ts : Ts} {fr : List T}
theorem Z153 {tsh : Ts} (C : Cf R ix hd H σ tsh fr) : ∀ {tvs : List TV} {as : List (Option T)} {ds : List D}, fills (tsh.map TL.er) (tvs.map TV.er) (as.map (Option.map T.er)) = some ds → (∀ tv ∈ tvs, TvW tsh tv) → (∀ t, some t ∈ as → t.ok H) → (∀ (i : Nat) t tv, as[i]? = some (some t) → tvs[i]? = some tv → t.val = tv.vv) → (∀ (i : Nat) (t : T), as[i]? = some none → tvs[i]? ≠ some (.val t)) →
  ∃ l : List T, T.ers l = ds ∧ l.map T.val = tvs.map TV.vv ∧ T.oks H l ∧ l.length = as.length ∧ ∀ (i : Nat) t, l[i]? = some t → as[i]? = some (some t) ∨ (as[i]? = some none ∧ ∃ (k : Nat) (p : List Nat) (w : Bool) (u : T), tsh[k]? = some (TL.own w u) ∧ u.get p = some t)
 | [], [], ds, h, _, _, _, _ => by cases h; exact ⟨[], rfl, rfl, trivial, rfl, by simp⟩
 | [], _ :: _, ds, h, _, _, _, _ => by simp [fills] at h
 | tv :: tvs, [], ds, h, _, _, _, _ => by simp [fills] at h
 | tv :: tvs, o :: as, ds, h, hw, ho, hv, hn => by
  have rest : ∀ ds', fills (tsh.map TL.er) (tvs.map TV.er) (as.map (Option.map T.er)) = some ds' → _ := fun ds' h' => Z153 C h' (fun x z => hw x (List.mem_cons_of_mem _ z)) (fun t z => ho t (List.mem_cons_of_mem _ z)) (fun i t x h1 h2 => hv (i + 1) t x (by simpa using h1) (by simpa using h2)) (fun i t h1 => by simpa using hn (i + 1) t (by simpa using h1))
  cases o with
  | some t =>
   simp only [List.map_cons, Option.map_some, fills] at h
   cases ef : fills (tsh.map TL.er) (tvs.map TV.er) (as.map (Option.map T.er)) with
   | none => rw [ef] at h; cases h
   | some ds' =>
    rw [ef] at h
    cases h
    obtain ⟨l, a1, a2, a3, a4, a5⟩ := rest ds' ef
    refine ⟨t :: l, by rw [T.ers, a1], by simp [a2, hv 0 t tv rfl rfl], ⟨ho t List.mem_cons_self, a3⟩, by simp [a4], fun i u hi => ?_⟩
    cases i with
    | zero => cases hi; exact .inl rfl
    | succ i => simpa using a5 i u (by simpa using hi)
  | none =>
   simp only [List.map_cons, Option.map_none, fills] at h
   cases ed : dref (tsh.map TL.er) tv.er with
   | none => rw [ed] at h; cases h
   | some d =>
    rw [ed] at h
    cases ef : fills (tsh.map TL.er) (tvs.map TV.er) (as.map (Option.map T.er)) with
    | none => rw [ef] at h; cases h
    | some ds' =>
     rw [ef] at h
     cases h
     obtain ⟨l, a1, a2, a3, a4, a5⟩ := rest ds' ef
     cases tv with
     | val t => exact absurd rfl (hn 0 t rfl)
     | plc k p a =>
      obtain ⟨w, u, s, h1, h2, h3⟩ := hw _ List.mem_cons_self (show dref (tsh.map TL.er) (.plc k p) ≠ none by rw [show dref (tsh.map TL.er) (.plc k p) = some d from ed]; simp)
      have hds : s.er = d := by
       have ed' : dref (tsh.map TL.er) (.plc k p) = some d := ed
       simp only [dref, List.getElem?_map, h1, Option.map_some, TL.er, T.get_er, h2, Option.some.injEq] at ed'
       exact ed'
      refine ⟨s :: l, by rw [T.ers, a1, hds], by simp [a2, h3, TV.vv], ⟨T.get_ok h2 (C.ok w u (List.mem_of_getElem? h1)), a3⟩, by simp [a4], fun i x hi => ?_⟩
      cases i with
      | zero => cases hi; exact .inr ⟨rfl, k, p, w, u, h1, h2⟩
      | succ i => simpa using a5 i x (by simpa using hi)
theorem Z554 : ∀ {ms : List Bool} {l : List T} {as : List (Option T)}, ms.length = l.length → l.length = as.length → (∀ (i : Nat) t, l[i]? = some t → as[i]? = some (some t) ∨ as[i]? = some none) → (∀ i : Nat, as[i]? = some none → ms[i]? = some false) →
  ∃ x, (T.owns (as.filterMap id)).Perm (T.owns (selM true ms l) ++ x) ∧ ∀ (i : Nat) t, ms[i]? = some false → as[i]? = some (some t) → ∀ a ∈ t.own, a ∈ x
 | [], [], [], _, _, _, _ => ⟨[], by simp [selM, T.owns], by simp⟩
 | m :: ms, t :: l, o :: as, h1, h2, h3, h4 => by
  obtain ⟨x, p1, p2⟩ := Z554 (ms := ms) (l := l) (as := as) (by simpa using h1) (by simpa using h2) (fun i u hi => by simpa using h3 (i + 1) u (by simpa using hi)) (fun i hi => by simpa using h4 (i + 1) (by simpa using hi))
  cases o with
  | none =>
   have : m = false := by have := h4 0 rfl; simpa using this
   subst this
   refine ⟨x, by simpa [selM] using p1, fun i u z1 z2 => ?_⟩
   cases i with
   | zero => cases z2
   | succ i => exact p2 i u (by simpa using z1) (by simpa using z2)
  | some t' =>
   have : t' = t := by
    rcases h3 0 t rfl with z | z
    ·cases z; rfl
    ·cases z
   subst this
   cases m with
   | true =>
    refine ⟨x, ?_, fun i u z1 z2 => ?_⟩
    ·simp only [List.filterMap_cons, id, selM, if_true, T.owns_cons]
     refine List.perm_iff_count.mpr fun b => ?_
     have := List.perm_iff_count.mp p1 b
     simp only [List.count_append] at this ⊢; omega
    ·cases i with
     | zero => cases z1
     | succ i => exact p2 i u (by simpa using z1) (by simpa using z2)
   | false =>
    refine ⟨t'.own ++ x, ?_, fun i u z1 z2 a ha => ?_⟩
    ·simp only [List.filterMap_cons, id, selM, T.owns_cons, Bool.false_eq_true, if_false]
     refine List.perm_iff_count.mpr fun b => ?_
     have := List.perm_iff_count.mp p1 b
     simp only [List.count_append] at this ⊢; omega
    ·cases i with
     | zero => cases z2; exact List.mem_append_left _ ha
     | succ i => exact List.mem_append_right _ (p2 i u (by simpa using z1) (by simpa using z2) a ha)
 | [], _ :: _, _, h1, _, _, _ => by simp at h1
 | _ :: _, [], _, h1, _, _, _ => by simp at h1
 | _, [], _ :: _, _, h2, _, _ => by simp at h2
 | _, _ :: _, [], _, h2, _, _ => by simp at h2
theorem Cf.after {tsh : Ts} {ws l l' m : List T} {ms : List Bool} {x : List Addr} {B : Addr → Prop} (C : Cf R ix hd H σ tsh (ws ++ fr)) (hx : (T.owns ws).Perm (T.owns (selM true ms l) ++ x)) (hB : ∀ a, R.B a ∨ a ∈ ownS tsh ∨ a ∈ T.owns fr → B a) (E : Exi H H' B ms l l' m) :
  Cf R ix hd H' σ tsh (selM true ms l' ++ (m ++ fr)) := by
 have inw : ∀ a, a ∈ T.owns (selM true ms l) → a ∈ T.owns (ws ++ fr) := fun a z => by
  rw [T.owns_app]; exact List.mem_append_left _ (hx.mem_iff.mpr (List.mem_append_left _ z))
 have nd := List.nodup_append.mp C.nd
 have ndw : (T.owns ws ++ T.owns fr).Nodup := by have := nd.2.1; rwa [T.owns_app] at this
 have ndw' := List.nodup_append.mp ndw
 have k1 : ∀ a, a ∈ ownS tsh → a ∉ T.owns (selM true ms l) := fun a z q => nd.2.2 a z a (inw a q) rfl
 have k2 : ∀ a, a ∈ T.owns fr → a ∉ T.owns (selM true ms l) := fun a z q => ndw'.2.2 a (hx.mem_iff.mpr (List.mem_append_left _ q)) a z rfl
 have k3 : ∀ a, a ∈ roS tsh ∨ a ∈ T.ros (ws ++ fr) → a ∉ T.owns (selM true ms l) := fun a z q => (C.sep a z).2.1 (inw a q)
 have k4 : ∀ a, a ∈ rdS tsh → a ∉ T.owns (selM true ms l) := fun a z q => (C.rd a z).2 (inw a q)
 have tk : ∀ w t, TL.own w t ∈ tsh → ∀ a, a ∈ t.own ∨ a ∈ t.ro → H' a = H a := fun w t ht a z => by
  refine E.keep a (T.there (C.ok w t ht) z) ?_
  rcases z with z | z
  ·cases w with
   | true => exact k1 a (Z324.mpr ⟨t, ht, z⟩)
   | false => exact k4 a (Z326.mpr ⟨t, ht, z⟩)
  ·exact k3 a (.inl (Z327.mpr ⟨w, t, ht, z⟩))
 have ffok : T.oks H fr := (T.oks_app.mp C.fok).2
 have fk : ∀ a, a ∈ T.owns fr ∨ a ∈ T.ros fr → H' a = H a := fun a z => by
  refine E.keep a (T.theres ffok z) ?_
  rcases z with z | z
  ·exact k2 a z
  ·exact k3 a (.inr (by rw [T.ros_app]; exact List.mem_append_right _ z))
 have new : ∀ a, a ∈ T.owns (selM true ms l') ∨ a ∈ T.owns m → a ∉ ownS tsh ∧ a ∉ T.owns fr ∧ a ∉ roS tsh ∧ a ∉ T.ros fr ∧ a ∉ rdS tsh ∧ ¬ R.G a := fun a z => by
  rcases E.own a z with z | z
  ·refine ⟨fun q => k1 a q z, fun q => k2 a q z, fun q => k3 a (.inl q) z, fun q => k3 a (.inr (by rw [T.ros_app]; exact List.mem_append_right _ q)) z, fun q => k4 a q z, fun q => ?_⟩
   exact (C.g a q).2.2.2 (inw a z)
  ·obtain ⟨f1, f2, f3, f4, f5, f6⟩ := C.fresh z
   rw [T.owns_app] at f4; rw [T.ros_app] at f5
   exact ⟨f1, fun q => f4 (List.mem_append_right _ q), f2, fun q => f5 (List.mem_append_right _ q), f3, f6⟩
 have eo : T.owns (selM true ms l' ++ (m ++ fr)) = T.owns (selM true ms l') ++ (T.owns m ++ T.owns fr) := by rw [T.owns_app, T.owns_app]
 have er : T.ros (selM true ms l' ++ (m ++ fr)) = T.ros (selM true ms l') ++ (T.ros m ++ T.ros fr) := by rw [T.ros_app, T.ros_app]
 refine ⟨fun w t ht => T.keep (C.ok w t ht) (tk w t ht), T.oks_app.mpr ⟨E.ok, T.oks_app.mpr ⟨E.fok, T.keeps ffok fk⟩⟩, ?_, fun a z => ?_, fun a z => ?_, fun a z => ?_, C.bg, C.bor, C.ixs, C.sl, C.hdi, C.hdx, C.len, C.hdn⟩
 ·rw [eo]
  refine List.nodup_append.mpr ⟨nd.1, ?_, fun a za b zb e => ?_⟩
  ·rw [← List.append_assoc]
   refine List.nodup_append.mpr ⟨E.nd, ndw'.2.1, fun a za b zb e => ?_⟩
   subst e
   exact (new a (List.mem_append.mp za)).2.1 zb
  ·subst e
   rcases List.mem_append.mp zb with zb | zb
   ·exact (new a (.inl zb)).1 za
   ·rcases List.mem_append.mp zb with zb | zb
    ·exact (new a (.inr zb)).1 za
    ·exact nd.2.2 a za a (by rw [T.owns_app]; exact List.mem_append_right _ zb) rfl
 ·rw [eo]
  rw [er] at z
  simp only [List.mem_append] at z ⊢
  have old : a ∈ roS tsh ∨ a ∈ T.ros fr → a ∉ ownS tsh ∧ ¬ (a ∈ T.owns (selM true ms l') ∨ a ∈ T.owns m ∨ a ∈ T.owns fr) ∧ ¬ R.B a := fun z => by
   obtain ⟨s1, s2, s3⟩ := C.sep a (z.imp id fun q => by rw [T.ros_app]; exact List.mem_append_right _ q)
   rw [T.owns_app] at s2
   refine ⟨s1, fun q => ?_, s3⟩
   rcases q with q | q | q
   ·rcases z with z | z
    ·exact (new a (.inl q)).2.2.1 z
    ·exact (new a (.inl q)).2.2.2.1 z
   ·rcases z with z | z
    ·exact (new a (.inr q)).2.2.1 z
    ·exact (new a (.inr q)).2.2.2.1 z
   ·exact s2 (List.mem_append_right _ q)
  have nw : a ∈ T.ros (selM true ms l') ∨ a ∈ T.ros m → a ∉ ownS tsh ∧ ¬ (a ∈ T.owns (selM true ms l') ∨ a ∈ T.owns m ∨ a ∈ T.owns fr) ∧ ¬ R.B a := fun z => by
   obtain ⟨s1, s2, s3⟩ := E.sep a z
   refine ⟨fun q => s3 (hB a (.inr (.inl q))), fun q => ?_, fun q => s3 (hB a (.inl q))⟩
   rcases q with q | q | q
   ·exact s1 q
   ·exact s2 q
   ·exact s3 (hB a (.inr (.inr q)))
  rcases z with z | z | z | z
  ·exact old (.inl z)
  ·exact nw (.inl z)
  ·exact nw (.inr z)
  ·exact old (.inr z)
 ·rw [eo]
  simp only [List.mem_append]
  obtain ⟨s1, s2⟩ := C.rd a z
  rw [T.owns_app] at s2
  refine ⟨s1, fun q => ?_⟩
  rcases q with q | q | q
  ·exact (new a (.inl q)).2.2.2.2.1 z
  ·exact (new a (.inr q)).2.2.2.2.1 z
  ·exact s2 (List.mem_append_right _ q)
 ·rw [eo]
  simp only [List.mem_append]
  obtain ⟨g1, g2, g3, g4⟩ := C.g a z
  have e : H' a = H a := E.keep a g2 fun q => g4 (inw a q)
  rw [T.owns_app] at g4
  refine ⟨e.trans g1, by rw [e]; exact g2, g3, fun q => ?_⟩
  rcases q with q | q | q
  ·exact (new a (.inl q)).2.2.2.2.2 z
  ·exact (new a (.inr q)).2.2.2.2.2 z
  ·exact g4 (List.mem_append_right _ q)
theorem TvsOk.all : ∀ {vs : List V} {tvs : List TV}, TvsOk ts vs tvs → (∀ tv ∈ tvs, TvW ts tv) ∧ vs = tvs.map TV.vv
 | _, _, .nil => ⟨by simp, rfl⟩
 | _, _, .cons h r => by
  obtain ⟨h1, h2⟩ := h.w
  obtain ⟨r1, r2⟩ := TvsOk.all r
  refine ⟨fun x z => ?_, by rw [List.map_cons, h2, r2]⟩
  rcases List.mem_cons.mp z with rfl | z
  ·exact h1
  ·exact r1 x z
theorem Z571 : ∀ {rs : List DV} {ms : List Bool} {s sh : Sd} {lo : List (Option D)}, takes rs ms s = some (sh, lo) → rs.length ≤ ms.length ∧ ∀ (i : Nat) (d : D), lo[i]? = some none → rs[i]? ≠ some (.val d)
 | [], ms, s, sh, lo, h => by cases h; simp
 | .val d :: rs, [], s, sh, lo, h => by simp [takes] at h
 | .plc k p :: rs, [], s, sh, lo, h => by simp [takes] at h
 | .val d :: rs, m :: ms, s, sh, lo, h => by
  simp only [takes] at h
  cases et : takes rs ms s with
  | none => rw [et] at h; cases h
  | some y =>
   obtain ⟨s', l⟩ := y
   rw [et] at h
   cases h
   obtain ⟨h1, h2⟩ := Z571 et
   refine ⟨by simpa using h1, fun i d' hi => ?_⟩
   cases i with
   | zero => cases hi
   | succ i => simpa using h2 i d' (by simpa using hi)
 | .plc k p :: rs, false :: ms, s, sh, lo, h => by
  simp only [takes] at h
  cases et : takes rs ms s with
  | none => rw [et] at h; cases h
  | some y =>
   obtain ⟨s', l⟩ := y
   rw [et] at h
   cases h
   obtain ⟨h1, h2⟩ := Z571 et
   refine ⟨by simpa using h1, fun i d' hi => ?_⟩
   cases i with
   | zero => intro z; cases z
   | succ i => simpa using h2 i d' (by simpa using hi)
 | .plc k p :: rs, true :: ms, s, sh, lo, h => by
  simp only [takes] at h
  split at h
  case h_1 =>
   cases et : takes rs ms (wr s k p hole fun _ => false) with
   | none => rw [et] at h; cases h
   | some y =>
    obtain ⟨s', l⟩ := y
    rw [et] at h
    cases h
    obtain ⟨h1, h2⟩ := Z571 et
    refine ⟨by simpa using h1, fun i d' hi => ?_⟩
    cases i with
    | zero => intro z; cases z
    | succ i => simpa using h2 i d' (by simpa using hi)
  case h_2 => cases h
theorem Z260 {ms : List Bool} {fn : Fn} {f : AF} (σ : L2.St) (H : Hp) (Q : VK) (hms : ∀ s rs s1, f s = .ok rs s1 → rs.length = ms.length) (q : lE R ix (eCall ms fn f) σ H Q) : lA R ix f σ H fun vs H1 => spR R.ad ms fn vs H1 Q (R.EX σ) := by
 obtain ⟨hd, ts, fr, C, q⟩ := q
 refine ⟨hd, ts, fr, C, ?_⟩
 unfold eCall at q
 cases ef : f (ts.map TL.er) with
 | no => rw [ef] at q; exact q
 | ex E s1 => rw [ef] at q; exact q
 | ok rs s1 =>
  rw [ef] at q
  intro H1 ts1 tvs vs e1 e2 hv C1
  subst e1 e2
  have hlen : ms.length = tvs.length := by have := hms _ _ _ ef; simpa using this.symm
  dsimp only at q
  cases et : takes (tvs.map TV.er) ms (ts1.map TL.er) with
  | none => rw [et] at q; exact q.elim
  | some y =>
   obtain ⟨sh, lo⟩ := y
   rw [et] at q
   obtain ⟨hw, rfl⟩ := hv.all
   obtain ⟨tsh, as, a1, a2, a3, a4, a5, a6, a7, a8, a9, a10⟩ := Z572 hw C1 et hlen
   subst a1 a2
   have tl := (Z571 et).2
   dsimp only at q
   cases el : fills (tsh.map TL.er) (tvs.map TV.er) (as.map (Option.map T.er)) with
   | none => rw [el] at q; exact q.elim
   | some ds =>
    rw [el] at q
    have aok : ∀ t, some t ∈ as → t.ok H1 := fun t z => T.oks_iff.mp (T.oks_app.mp a4.fok).1 t (List.mem_filterMap.mpr ⟨some t, z, rfl⟩)
    obtain ⟨l, l1, l2, l3, l4, l5⟩ := Z153 a4 el (fun x z => a6 x (hw x z)) aok a7 (fun i t h z => tl i t.er (by rw [List.getElem?_map, h]; rfl) (by rw [List.getElem?_map, z]; rfl))
    obtain ⟨x, p1, p2⟩ := Z554 (ms := ms) (l := l) (as := as) (by rw [hlen, l4, a3]) l4 (fun i t hi => (l5 i t hi).imp id fun z => z.1) a8
    have nd := List.nodup_append.mp a4.nd
    have ndw : (T.owns (as.filterMap id) ++ T.owns fr).Nodup := by have := nd.2.1; rwa [T.owns_app] at this
    have ndw' := List.nodup_append.mp ndw
    have ndp := List.nodup_append.mp (p1.nodup_iff.mp ndw'.1)
    have inw : ∀ a, a ∈ T.owns (selM true ms l) → a ∈ T.owns (as.filterMap id ++ fr) := fun a z => by rw [T.owns_app]; exact List.mem_append_left _ (p1.mem_iff.mpr (List.mem_append_left _ z))
    have rosl : ∀ a ∈ T.ros l, a ∈ roS tsh ∨ a ∈ T.ros (as.filterMap id ++ fr) := fun a z => by
     obtain ⟨t, ht, hz⟩ := T.mem_ros.mp z
     obtain ⟨i, hi⟩ := List.mem_iff_getElem?.mp ht
     rcases l5 i t hi with h | ⟨_, k, p, w, u, h1, h2⟩
     ·exact .inr (by rw [T.ros_app]; exact List.mem_append_left _ (T.mem_ros.mpr ⟨t, List.mem_filterMap.mpr ⟨some t, List.mem_of_getElem? h, rfl⟩, hz⟩))
     ·obtain ⟨c, r, K⟩ := T.ctx h2
      exact .inl (Z327.mpr ⟨w, u, List.mem_of_getElem? h1, K.ro.mem_iff.mpr (List.mem_append_right _ hz)⟩)
    have ent : Ent H1 (fun a => R.B a ∨ a ∈ ownS tsh ∨ a ∈ T.owns fr) ms l := by
     refine ⟨by rw [hlen, l4, a3], l3, ndp.1, fun a z => ?_, fun a z => ?_, fun a z => ?_⟩
     ·obtain ⟨s1, s2, s3⟩ := a4.sep a (rosl a z)
      refine ⟨fun q => s2 (inw a q), fun q => ?_⟩
      rcases q with q | q | q
      ·exact s3 q
      ·exact s1 q
      ·exact s2 (by rw [T.owns_app]; exact List.mem_append_right _ q)
     ·obtain ⟨t, ht, hz⟩ := T.mem_owns.mp z
      obtain ⟨i, hi, hm⟩ := Z328 ht
      rcases l5 i t hi with h | ⟨_, k, p, w, u, h1, h2⟩
      ·intro q
       exact ndp.2.2 a q a (p2 i t hm h a hz) rfl
      ·obtain ⟨c, r, K⟩ := T.ctx h2
       have hu : a ∈ u.own := K.own.mem_iff.mpr (List.mem_append_right _ hz)
       intro q
       cases w with
       | true => exact nd.2.2 a (Z324.mpr ⟨u, List.mem_of_getElem? h1, hu⟩) a (inw a q) rfl
       | false => exact (a4.rd a (Z326.mpr ⟨u, List.mem_of_getElem? h1, hu⟩)).2 (inw a q)
     ·rcases z with z | z | z
      ·obtain ⟨g1, g2, g3, g4⟩ := a4.g a (a4.bg a z)
       exact ⟨fun q => g4 (inw a q), g2⟩
      ·obtain ⟨t, ht, hz⟩ := Z324.mp z
       exact ⟨fun q => nd.2.2 a z a (inw a q) rfl, T.there (a4.ok true t ht) (.inl hz)⟩
      ·exact ⟨fun q => ndw'.2.2 a (p1.mem_iff.mpr (List.mem_append_left _ q)) a z rfl, T.theres (T.oks_app.mp a4.fok).2 (.inl z)⟩
    refine ⟨l, _, l2, ent, ?_⟩
    rw [l1]
    dsimp only at q
    cases en : fn ds with
    | no => rw [en] at q; exact q.elim
    | ex E ds' =>
     rw [en] at q
     intro H2 l' e3 X2
     have C2 := a4.after p1 (fun a z => z) X2
     obtain ⟨ts', g1, g2, g3, g4⟩ := Z169 (rest := fr) a5 hlen (X2.val.trans l2) C2 a9
     rw [e3] at g1
     exact q H2 ts' g1 g2
    | ok rv ds' =>
     rw [en] at q
     intro H2 l' rt v e3 e4 hr X2
     have C2 := a4.after p1 (fun a z => z) X2
     obtain ⟨ts', g1, g2, g3, g4⟩ := Z169 (rest := rt.tr ++ fr) a5 hlen (X2.val.trans l2) C2 a9
     rw [e3] at g1
     subst e4
     cases rt with
     | val t =>
      cases hr
      exact q H2 ts' (.val t) t.val g1 rfl rfl g2
     | arg j qq a =>
      obtain ⟨rfl, hmj, t, s, hj, hs, hsv⟩ := hr
      simp only [RT.er, retV, List.getElem?_map, hmj] at q
      cases ej : tvs[j]? with
      | none => rw [ej] at q; exact q.elim
      | some tv =>
       rw [ej] at q
       cases tv with
       | val t0 => exact q.elim
       | plc k p a0 =>
        simp only [Option.map_some, TV.er] at q
        obtain ⟨u, u1, u2⟩ := Z586 (g3 j k p a0 t ej hmj hj)
        have u3 : u.get (p ++ qq) = some s := by rw [T.get_app, u2]; exact hs
        have hdr : dref (gives (tvs.map TV.er) ms ds' (tsh.map TL.er)) (.plc k (p ++ qq)) = some s.er := by
         rw [← g1]; simp only [dref, List.getElem?_map, u1, Option.map_some, TL.er, T.get_er, u3]
        rw [hdr] at q
        obtain ⟨tv, f1, f2, f3⟩ := mk_ok (p := p ++ qq) g2 u1 u3
        rw [hsv] at f2
        exact q H2 ts' tv (.ref a) g1 f1 f2 f3
end
end RM
set_option Elab.async false
set_option linter.all false
set_option maxRecDepth 100000

namespace RM
open PySem PySem.Spec PyProof.Rows L2
noncomputable def ALen (n : Nat) (f : AF) : Prop := ∀ s rs s1, f s = .ok rs s1 → rs.length = n
theorem Z2 : ALen 0 aNil := fun s rs s1 h => by cases h; rfl
theorem Z1 {n : Nat} {f : EF} {g : AF} (h : ALen n g) : ALen (n + 1) (aCons f g) := by
 intro s rs s1 e
 unfold aCons at e
 cases ef : f s with
 | no => rw [ef] at e; cases e
 | ex C s' => rw [ef] at e; cases e
 | ok r s' =>
  rw [ef] at e
  cases r with
  | val d =>
   dsimp only at e
   cases eg : g s' with
   | no => rw [eg] at e; cases e
   | ex C s2 => rw [eg] at e; cases e
   | ok rs' s2 => rw [eg] at e; cases e; simp [h _ _ _ eg]
  | plc k p =>
   dsimp only at e
   cases eg : g (s' ++ [.bor k p]) with
   | no => rw [eg] at e; cases e
   | ex C s2 => rw [eg] at e; dsimp only at e; split at e <;> cases e
   | ok rs' s2 =>
    rw [eg] at e
    dsimp only at e
    split at e
    ·cases e; simp [h _ _ _ eg]
    ·cases e
noncomputable def eGuard (chk : D → Bool) (f : EF) : EF := fun s => match f s with
 | .ok r s1 => (match dref s1 r with | some d => if chk d then .ok r s1 else .no | none => .no)
 | .ex C s1 => .ex C s1
 | .no => .no
noncomputable def isObjD (C : Addr) (m : Str) : D → Bool
 | .nd (.ins _ C' ns) _ => decide (C' = C) && !ns.contains m
 | _ => false
section
variable {R : RC} {ix : List Nat} {hd : List (Nat × Addr)} {X : Cx} {H H' : Hp} {σ : L2.St} {ts : Ts} {fr : List T}
theorem Z270 {chk : D → Bool} {f : EF} {Q : VK} (h : lE R ix (eGuard chk f) σ H Q) : lE R ix f σ H fun v H1 => (∃ t : T, t.val = v ∧ t.ok H1 ∧ chk t.er = true) ∧ Q v H1 := by
 obtain ⟨hd, ts, fr, C, h⟩ := h
 refine ⟨hd, ts, fr, C, ?_⟩
 unfold eGuard at h
 cases ef : f (ts.map TL.er) with
 | no => rw [ef] at h; exact h
 | ex E s1 => rw [ef] at h; exact h
 | ok r s1 =>
  rw [ef] at h
  intro H1 ts1 tv v e1 e2 hv C1
  subst e1 e2
  dsimp only at h
  cases ed : dref (ts1.map TL.er) tv.er with
  | none => rw [ed] at h; exact h.elim
  | some d =>
   rw [ed] at h
   obtain ⟨t, t1, t2, t3, _⟩ := Z73 C1 hv (T.oks_app.mp C1.fok).1 ed
   dsimp only at h
   cases hc : chk d with
   | false => rw [hc] at h; exact h.elim
   | true => rw [hc] at h; exact ⟨⟨t, t2, t3, by rw [t1]; exact hc⟩, h H1 ts1 tv v rfl rfl hv C1⟩
theorem lookup_none {ns : List Str} {vs : List V} {m : Str} (h : ns.contains m = false) : (ns.zip vs).lookup m = none := by
 induction ns generalizing vs with
 | nil => rfl
 | cons n ns ih =>
  cases vs with
  | nil => rfl
  | cons v vs =>
   simp only [List.contains_cons, Bool.or_eq_false_iff] at h
   simp only [List.zip_cons_cons, List.lookup_cons, h.1]
   exact ih h.2
theorem rc_fn {x : Str} {k : Nat} {ps : List Str} {ms : List Bool} {fn : Fn} {p pos : Pos} {e : Expr} {es : List Expr} {f : AF} (D : DefX X.prog X.w X.K X.mg X.base x k ps (spR R.ad ms fn)) (hr : Room k X.A) (hx : PassT X R.EX) (ha : PA X (e :: es) (lA R ix f)) (hl : ALen ms.length f)
  (hg : Gl X x := by rfl) (hdb : (x == ("__debug__" : Str)) = false := by decide) (he : starEach (e :: es) X.env = (false, eval e X.env) :: starEach es X.env := by rfl) (hpl : (backTo pos (starEach es X.env)).any (·.1) = false := by rfl) :
  PE X (.Call (.Name x p) (e :: es) [] pos) (lE R ix (eCall ms fn f)) := peM (Z407 D hr hx ha hg hdb he hpl) fun σ H Q q => Z260 σ H Q hl q
theorem Z329 {C : Addr} {m : Str} {ms : List Bool} {fn : Fn} {fo : EF} {f : AF} {Q : VK} (hl : ALen ms.length (aCons (eGuard (isObjD C m) fo) f)) (q : lE R ix (eCall ms fn (aCons (eGuard (isObjD C m) fo) f)) σ H Q) : tMetT C m (spR R.ad ms fn) R.EX (lE R ix fo) (lA R ix f) σ H Q := by
 have q1 := Z262 σ H _ (Z260 σ H Q hl q)
 refine Z271 (fun v H1 h => ?_) (Z270 q1)
 obtain ⟨⟨t, rfl, t2, t3⟩, h⟩ := h
 cases t with
 | «at» v => cases t3
 | nd a kd ch =>
  cases kd with
  | ins w C' ns =>
   simp only [T.er, isObjD, Bool.and_eq_true, decide_eq_true_eq, Bool.not_eq_true'] at t3
   obtain ⟨rfl, hc⟩ := t3
   obtain ⟨_, dx, hH⟩ := t2.1
   exact ⟨a, dx, _, rfl, hH, lookup_none hc, h⟩
  | _ => cases t3
theorem Z461 {C : Addr} {m : Str} {k : Nat} {ps : List Str} {ms : List Bool} {fn : Fn} {pos apos : Pos} {o e : Expr} {es : List Expr} {fo : EF} {f : AF} {pl : Sem Bool} (D : MetX X.prog X.w X.K X.mg X.base C m k ps (spR R.ad ms fn)) (c : Cls X.K C) (hr : Room k X.A) (hx : PassT X R.EX) (ho : PE X o (lE R ix fo)) (ha : PA X (e :: es) (lA R ix f)) (hl : ALen ms.length (aCons (eGuard (isObjD C m) fo) f))
  (hst : starEach (e :: es) X.env = (false, eval e X.env) :: starEach es X.env := by rfl) (hpl : (backTo pos (starEach es X.env)).any (·.1) = false := by rfl)
  (ht : eval (.Call (.Attribute o m apos) (e :: es) [] pos) X.env = (do
   let ov ← eval o X.env
   standAt apos.atName
   let (f, first) ← holding [ov] (getMethod ov m pl)
   callWith pos f first (backTo pos (starEach (e :: es) X.env)) (backToKw pos (keywordEach [] X.env))) := by rfl) :
  PE X (.Call (.Attribute o m apos) (e :: es) [] pos) (lE R ix (eCall ms fn (aCons (eGuard (isObjD C m) fo) f))) := peM (Z413 D c hr hx ho ha hst hpl ht) fun σ H Q q => Z329 hl q
end

section
variable {P : Program} {w : World} {K : PySem.W.Frag} {mg : Str → Option Value} {base : Heap}
theorem okD {x : Str} {st : Stmt} {ps N : List Str} {k : Nat} {ms : List Bool} {body : SF} {ad : Str → Addr} (F : At K mg x st ps) (S : FnScope N ps (defScope st)) (hps : ms.length = ps.length) (hN : ms.length ≤ N.length)
  (hb : ∀ (f : Addr) (cdv : Value) (A : Around) (outer : List Env) (s : Shared) (H : Hp) (E : XK) (R : RC), Room k (A.deeper (envOfC x (defScope st) s.heap.objs.size f cdv)) → PassT (cxOf (CX1 P w) P w K mg base N x (defScope st) f cdv A outer s H E) R.EX → (∀ σ, R.EX σ = E) → R.ad = ad →
   PSs (cxOf (CX1 P w) P w K mg base N x (defScope st) f cdv A outer s H E) (defBody st) (lS R (List.range N.length) body)) : DefX P w K mg base x (k + 1) ps (spR ad ms (runDef N.length ms body)) :=
 F.okX S (fun vs H Q E h => by rw [Z563 h, hps]) fun f cdv A outer s H vs Q E hr h => by
  obtain ⟨R, e, ea, q⟩ := Z69 hN h
  exact ⟨_, hb f cdv A outer s H E R hr (by rw [e]; exact passTX) (fun σ => by rw [e]) ea, q⟩
theorem okM {C : Addr} {m qual : Str} {st : Stmt} {ps N : List Str} {k : Nat} {ms : List Bool} {body : SF} {ad : Str → Addr} (F : AtM K C m qual st ps) (S : FnScope N ps (defScope st)) (hps : ms.length = ps.length) (hN : ms.length ≤ N.length)
  (hb : ∀ (f : Addr) (cdv : Value) (A : Around) (outer : List Env) (s : Shared) (H : Hp) (E : XK) (R : RC), Room k (A.deeper (envOfC qual (defScope st) s.heap.objs.size f cdv)) → PassT (cxOf (CX1 P w) P w K mg base N qual (defScope st) f cdv A outer s H E) R.EX → (∀ σ, R.EX σ = E) → R.ad = ad →
   PSs (cxOf (CX1 P w) P w K mg base N qual (defScope st) f cdv A outer s H E) (defBody st) (lS R (List.range N.length) body)) : MetX P w K mg base C m (k + 1) ps (spR ad ms (runDef N.length ms body)) :=
 F.okX S (fun vs H Q E h => by rw [Z563 h, hps]) fun f cdv A outer s H vs Q E hr h => by
  obtain ⟨R, e, ea, q⟩ := Z69 hN h
  exact ⟨_, hb f cdv A outer s H E R hr (by rw [e]; exact passTX) (fun σ => by rw [e]) ea, q⟩
theorem okI {C : Addr} {qual : Str} {st : Stmt} {ps N : List Str} {k : Nat} {ms : List Bool} {body : SF} {ad : Str → Addr} (F : AtI K C qual st ps) (S : FnScope N ps (defScope st)) (hps : ms.length = ps.length) (hN : ms.length ≤ N.length)
  (hb : ∀ (f : Addr) (cdv : Value) (A : Around) (outer : List Env) (s : Shared) (H : Hp) (E : XK) (R : RC), Room k (A.deeper (envOfC qual (defScope st) s.heap.objs.size f cdv)) → PassT (cxOf (CX1 P w) P w K mg base N qual (defScope st) f cdv A outer s H E) R.EX → (∀ σ, R.EX σ = E) → R.ad = ad →
   PSs (cxOf (CX1 P w) P w K mg base N qual (defScope st) f cdv A outer s H E) (defBody st) (lS R (List.range N.length) body)) : InitX P w K mg base C (k + 1) ps (spR ad ms (runDef N.length ms body)) :=
 F.okX S (fun vs H Q E h => by rw [Z563 h, hps]) fun f cdv A outer s H vs Q E hr h => by
  obtain ⟨R, e, ea, q⟩ := Z69 hN h
  exact ⟨_, hb f cdv A outer s H E R hr (by rw [e]; exact passTX) (fun σ => by rw [e]) ea, q⟩

variable {N : List Str} {qual : Str} {scope : Scope} {f : Addr} {cd : Value} {A : Around} {outer : List Env} {s : Shared} {H : Hp} {E : XK} {R : RC} {ix : List Nat}
noncomputable def sRaise (C : Str) (g : AF) : SF := fun s => match g s with
 | .ok rs s1 => if rs.length ≤ 1000 then .ex C s1 else .no
 | .ex C' s1 => .ex C' s1
 | .no => .no
theorem Z664 {ts : Ts} : ∀ {vs : List V} {tvs : List TV}, TvsOk ts vs tvs → vs.length = tvs.length
 | _, _, .nil => rfl
 | _, _, .cons _ r => by simp [Z664 r]
theorem Z507 {x : Str} {C : Addr} {np cpos pos : Pos} {e : Expr} {es : List Expr} {g : AF} (hE : ∀ σ, R.EX σ = E) (hA : R.ad x = C) (O : ExC K mg x C) (ha : PA (cxOf (CX1 P w) P w K mg base N qual scope f cd A outer s H E) (e :: es) (lA R ix g))
  (hg : Gl (cxOf (CX1 P w) P w K mg base N qual scope f cd A outer s H E) x := by rfl) (hdb : (x == ("__debug__" : Str)) = false := by decide)
  (he : starEach (e :: es) (cxOf (CX1 P w) P w K mg base N qual scope f cd A outer s H E).env = (false, eval e (cxOf (CX1 P w) P w K mg base N qual scope f cd A outer s H E).env) :: starEach es (cxOf (CX1 P w) P w K mg base N qual scope f cd A outer s H E).env := by rfl)
  (hpl : (backTo cpos (starEach es (cxOf (CX1 P w) P w K mg base N qual scope f cd A outer s H E).env)).any (·.1) = false := by rfl) :
  PS (cxOf (CX1 P w) P w K mg base N qual scope f cd A outer s H E) (.Raise (some (.Call (.Name x np) (e :: es) [] cpos)) none pos) (lS R ix (sRaise x g)) := by
 refine psM (Z442 O ha hg hdb he hpl) fun D σ H' h => ?_
 obtain ⟨hd, ts, fr, Cc, h⟩ := h
 refine ⟨hd, ts, fr, Cc, ?_⟩
 unfold sRaise at h
 cases ef : g (ts.map TL.er) with
 | no => rw [ef] at h; exact h
 | ex E' s1 => rw [ef] at h; intro H1 ts1 e1 C1; exact h H1 σ ts1 e1 C1
 | ok rs s1 =>
  rw [ef] at h
  intro H1 ts1 tvs vs e1 e2 hv C1
  dsimp only at h
  by_cases hz : rs.length ≤ 1000
  ·rw [if_pos hz] at h
   refine ⟨?_, ?_⟩
   ·rw [Z664 hv]
    have : tvs.length = rs.length := by rw [← e2]; simp
    rw [this]
    exact Nat.le_trans hz (by decide)
   ·have := h H1 σ ts1 e1 C1.drops
    rwa [hE, hA] at this
  ·rw [if_neg hz] at h; exact h.elim
end
end RM
set_option Elab.async false
set_option linter.all false
set_option maxRecDepth 100000

namespace RM
open PySem PySem.Spec PyProof.Rows L2
noncomputable def eMk (C : Addr) (ms : List Bool) (fn : Fn) (f : AF) : EF := fun s => match f s with
 | .ok rs s1 => (match takes rs ms s1 with
  | some (sh, l) => (match fills sh rs l with
   | some ds => (match fn (.nd (.ins true C []) [] :: ds) with
    | .ok (.val (.at .non)) (d0 :: ds') => .ok (.val d0) (gives rs ms ds' sh)
    | _ => .no)
   | none => .no)
  | none => .no)
 | .ex C s1 => .ex C s1
 | .no => .no
section
variable {R : RC} {ix : List Nat} {hd : List (Nat × Addr)} {X : Cx} {H H' : Hp} {σ : L2.St} {ts : Ts} {fr : List T}
theorem Cf.swap {t : T} {m fr : List T} (C : Cf R ix hd H σ ts (m ++ (t :: fr))) : Cf R ix hd H σ ts (t :: (m ++ fr)) := by
 have ok := T.oks_app.mp C.fok
 refine C.less (x := []) ⟨ok.2.1, T.oks_app.mpr ⟨ok.1, ok.2.2⟩⟩ ?_ fun b hb => ?_
 ·refine List.perm_iff_count.mpr fun b => ?_
  simp only [T.owns_cons, T.owns_app, List.count_append, List.append_nil]; omega
 ·left
  simp only [T.ros_cons, T.ros_app, List.mem_append] at hb ⊢
  rcases hb with hb | hb | hb <;> simp [hb]
theorem Cf.swap' {t : T} {m fr : List T} (C : Cf R ix hd H σ ts (t :: (m ++ fr))) : Cf R ix hd H σ ts (m ++ (t :: fr)) := by
 have ok := C.fok
 refine C.less (x := []) (T.oks_app.mpr ⟨(T.oks_app.mp ok.2).1, ok.1, (T.oks_app.mp ok.2).2⟩) ?_ fun b hb => ?_
 ·refine List.perm_iff_count.mpr fun b => ?_
  simp only [T.owns_cons, T.owns_app, List.count_append, List.append_nil]; omega
 ·left
  simp only [T.ros_cons, T.ros_app, List.mem_append] at hb ⊢
  rcases hb with hb | hb | hb <;> simp [hb]
theorem Z83 {tsh : Ts} {as : List (Option T)} {l : List T} {ms : List Bool} {x : List Addr} (a4 : Cf R ix hd H σ tsh (as.filterMap id ++ fr)) (hl : ms.length = l.length) (l3 : T.oks H l)
  (l5 : ∀ (i : Nat) t, l[i]? = some t → as[i]? = some (some t) ∨ (as[i]? = some none ∧ ∃ (k : Nat) (p : List Nat) (w : Bool) (u : T), tsh[k]? = some (TL.own w u) ∧ u.get p = some t))
  (p1 : (T.owns (as.filterMap id)).Perm (T.owns (selM true ms l) ++ x)) (p2 : ∀ (i : Nat) t, ms[i]? = some false → as[i]? = some (some t) → ∀ a ∈ t.own, a ∈ x) : Ent H (fun a => R.B a ∨ a ∈ ownS tsh ∨ a ∈ T.owns fr) ms l := by
 have nd := List.nodup_append.mp a4.nd
 have ndw : (T.owns (as.filterMap id) ++ T.owns fr).Nodup := by have := nd.2.1; rwa [T.owns_app] at this
 have ndw' := List.nodup_append.mp ndw
 have ndp := List.nodup_append.mp (p1.nodup_iff.mp ndw'.1)
 have inw : ∀ a, a ∈ T.owns (selM true ms l) → a ∈ T.owns (as.filterMap id ++ fr) := fun a z => by rw [T.owns_app]; exact List.mem_append_left _ (p1.mem_iff.mpr (List.mem_append_left _ z))
 have rosl : ∀ a ∈ T.ros l, a ∈ roS tsh ∨ a ∈ T.ros (as.filterMap id ++ fr) := fun a z => by
  obtain ⟨t, ht, hz⟩ := T.mem_ros.mp z
  obtain ⟨i, hi⟩ := List.mem_iff_getElem?.mp ht
  rcases l5 i t hi with h | ⟨_, k, p, w, u, h1, h2⟩
  ·exact .inr (by rw [T.ros_app]; exact List.mem_append_left _ (T.mem_ros.mpr ⟨t, List.mem_filterMap.mpr ⟨some t, List.mem_of_getElem? h, rfl⟩, hz⟩))
  ·obtain ⟨c, r, K⟩ := T.ctx h2
   exact .inl (Z327.mpr ⟨w, u, List.mem_of_getElem? h1, K.ro.mem_iff.mpr (List.mem_append_right _ hz)⟩)
 refine ⟨hl, l3, ndp.1, fun a z => ?_, fun a z => ?_, fun a z => ?_⟩
 ·obtain ⟨s1, s2, s3⟩ := a4.sep a (rosl a z)
  refine ⟨fun q => s2 (inw a q), fun q => ?_⟩
  rcases q with q | q | q
  ·exact s3 q
  ·exact s1 q
  ·exact s2 (by rw [T.owns_app]; exact List.mem_append_right _ q)
 ·obtain ⟨t, ht, hz⟩ := T.mem_owns.mp z
  obtain ⟨i, hi, hm⟩ := Z328 ht
  rcases l5 i t hi with h | ⟨_, k, p, w, u, h1, h2⟩
  ·intro q
   exact ndp.2.2 a q a (p2 i t hm h a hz) rfl
  ·obtain ⟨c, r, K⟩ := T.ctx h2
   have hu : a ∈ u.own := K.own.mem_iff.mpr (List.mem_append_right _ hz)
   intro q
   cases w with
   | true => exact nd.2.2 a (Z324.mpr ⟨u, List.mem_of_getElem? h1, hu⟩) a (inw a q) rfl
   | false => exact (a4.rd a (Z326.mpr ⟨u, List.mem_of_getElem? h1, hu⟩)).2 (inw a q)
 ·rcases z with z | z | z
  ·obtain ⟨g1, g2, g3, g4⟩ := a4.g a (a4.bg a z)
   exact ⟨fun q => g4 (inw a q), g2⟩
  ·obtain ⟨t, ht, hz⟩ := Z324.mp z
   exact ⟨fun q => nd.2.2 a z a (inw a q) rfl, T.there (a4.ok true t ht) (.inl hz)⟩
  ·exact ⟨fun q => ndw'.2.2 a (p1.mem_iff.mpr (List.mem_append_left _ q)) a z rfl, T.theres (T.oks_app.mp a4.fok).2 (.inl z)⟩
theorem lA_mk {C : Addr} {ms : List Bool} {fn : Fn} {f : AF} {E : XK} (σ : L2.St) (H : Hp) (Q : VK) (hms : ALen ms.length f) (q : lE R ix (eMk C ms fn f) σ H Q) :
  lA R ix f σ H fun vs H1 => ∀ x dx, H1 x = none → H1 dx = none → dx ≠ x → spR R.ad (true :: ms) fn (.ref x :: vs) (upd (upd H1 dx (.own x)) x (.ins C dx [])) (fun v H2 => v = .non ∧ Q (.ref x) H2) E := by
 obtain ⟨hd, ts, fr, C0, q⟩ := q
 refine ⟨hd, ts, fr, C0, ?_⟩
 unfold eMk at q
 cases ef : f (ts.map TL.er) with
 | no => rw [ef] at q; exact q
 | ex E s1 => rw [ef] at q; exact q
 | ok rs s1 =>
  rw [ef] at q
  intro H1 ts1 tvs vs e1 e2 hv C1 x dx hx hdx hne
  subst e1 e2
  have hlen : ms.length = tvs.length := by have := hms _ _ _ ef; simpa using this.symm
  generalize hH2 : upd (upd H1 dx (.own x)) x (.ins C dx []) = H2
  have t0ok : (T.nd x (.ins true C []) []).ok H2 := ⟨⟨rfl, dx, by rw [← hH2]; exact Z605⟩, trivial⟩
  have N0 : NewOk H1 H2 [] (T.nd x (.ins true C []) []) := by
   refine ⟨t0ok, by simp [T.own, NK.mut, T.owns], fun a z => ?_, fun a z => ?_, fun a z => ?_, fun a z => ?_⟩
   ·have : a = x := by simpa [T.own, NK.mut, T.owns] using z
    rw [this]; exact hx
   ·simp [T.ro, NK.mut, T.ros] at z
   ·simp [T.ro, NK.mut, T.ros] at z
   ·rw [← hH2, Z604 (by rintro rfl; exact z hx), Z604 (by rintro rfl; exact z hdx)]
  have C2 : Cf R ix hd H2 σ ts1 (trs tvs ++ (T.nd x (.ins true C []) [] :: fr)) := Cf.swap' (Cf.new (m := []) (fr := trs tvs ++ fr) C1 N0 (by simp [T.ros]))
  dsimp only at q
  cases et : takes (tvs.map TV.er) ms (ts1.map TL.er) with
  | none => rw [et] at q; exact q.elim
  | some y =>
   obtain ⟨sh, lo⟩ := y
   rw [et] at q
   obtain ⟨hw, rfl⟩ := hv.all
   obtain ⟨tsh, as, a1, a2, a3, a4, a5, a6, a7, a8, a9, a10⟩ := Z572 hw C2 et hlen
   subst a1 a2
   have tl := (Z571 et).2
   dsimp only at q
   cases el : fills (tsh.map TL.er) (tvs.map TV.er) (as.map (Option.map T.er)) with
   | none => rw [el] at q; exact q.elim
   | some ds =>
    rw [el] at q
    have aok : ∀ t, some t ∈ as → t.ok H2 := fun t z => T.oks_iff.mp (T.oks_app.mp a4.fok).1 t (List.mem_filterMap.mpr ⟨some t, z, rfl⟩)
    obtain ⟨l, l1, l2, l3, l4, l5⟩ := Z153 a4 el (fun x z => a6 x (hw x z)) aok a7 (fun i t h z => tl i t.er (by rw [List.getElem?_map, h]; rfl) (by rw [List.getElem?_map, z]; rfl))
    have a4' : Cf R ix hd H2 σ tsh ((some (T.nd x (.ins true C []) []) :: as).filterMap id ++ fr) := by
     simp only [List.filterMap_cons, id, List.cons_append]
     exact a4.swap
    have m5 : ∀ (i : Nat) t, (T.nd x (.ins true C []) [] :: l)[i]? = some t → (some (T.nd x (.ins true C []) []) :: as)[i]? = some (some t) ∨ ((some (T.nd x (.ins true C []) []) :: as)[i]? = some none ∧ ∃ (k : Nat) (p : List Nat) (w : Bool) (u : T), tsh[k]? = some (TL.own w u) ∧ u.get p = some t) := fun i t hi => by
     cases i with
     | zero => cases hi; exact .inl rfl
     | succ i => simpa using l5 i t (by simpa using hi)
    have hml : (true :: ms).length = (T.nd x (.ins true C []) [] :: l).length := by simp [hlen, l4, a3]
    obtain ⟨y, p1, p2⟩ := Z554 (ms := true :: ms) (l := T.nd x (.ins true C []) [] :: l) (as := some (T.nd x (.ins true C []) []) :: as) hml (by simp [l4]) (fun i t hi => (m5 i t hi).imp id fun z => z.1) (fun i hi => by
     cases i with
     | zero => cases hi
     | succ i => simpa using a8 i (by simpa using hi))
    have ent := Z83 a4' hml ⟨t0ok, l3⟩ m5 p1 p2
    refine ⟨T.nd x (.ins true C []) [] :: l, _, by simp [l2, T.val], ent, ?_⟩
    rw [T.ers, l1]
    dsimp only at q
    have e0 : (T.nd x (.ins true C []) []).er = .nd (.ins true C []) [] := rfl
    rw [e0]
    cases en : fn (.nd (.ins true C []) [] :: ds) with
    | no => rw [en] at q; exact q.elim
    | ex E ds' => rw [en] at q; exact q.elim
    | ok rv ds' =>
     rw [en] at q
     intro H3 l' rt v e3 e4 hr X2
     cases rv with
     | arg j qq => exact q.elim
     | val d =>
      cases ds' with
      | nil =>
       exfalso
       cases d with
       | nd k l => exact q
       | «at» u => cases u <;> exact q
      | cons d0 ds' =>
       cases l' with
       | nil => cases e3
       | cons t0 l' =>
        simp only [T.ers, List.cons.injEq] at e3
        obtain ⟨rfl, rfl⟩ := e3
        cases rt with
        | arg _ _ _ => cases e4
        | val t =>
         simp only [RT.er, RV.val.injEq] at e4
         subst e4
         cases hr
         cases t with
         | nd a k l => exact q.elim
         | «at» u =>
          cases u with
          | non =>
           refine ⟨rfl, ?_⟩
           have C3 := a4'.after p1 (fun a z => z) X2
           simp only [selM, if_true, RT.tr] at C3
           have C4 : Cf R ix hd H3 σ tsh (selM true ms l' ++ (t0 :: fr)) := by
            have C5 : Cf R ix hd H3 σ tsh (T.at .non :: ((t0 :: selM true ms l') ++ fr)) := Cf.swap (m := t0 :: selM true ms l') C3
            exact Cf.swap' C5.drop
           have hvl := X2.val
           simp only [List.map_cons, List.cons.injEq] at hvl
           obtain ⟨ts', g1, g2, g3, g4⟩ := Z169 (rest := t0 :: fr) a5 hlen (hvl.2.trans l2) C4 a9
           exact q H3 ts' (.val t0) (.ref x) g1 rfl hvl.1.symm g2
          | _ => exact q.elim
theorem rc_mk {x : Str} {C : Addr} {k : Nat} {ps : List Str} {ms : List Bool} {fn : Fn} {p pos : Pos} {e : Expr} {es : List Expr} {f : AF} (D : InitX X.prog X.w X.K X.mg X.base C k ps (spR R.ad (true :: ms) fn)) (hr : Room (k + 1) X.A) (hm : X.mg x = some (.ref C)) (ha : PA X (e :: es) (lA R ix f)) (hl : ALen ms.length f) (hg : Gl X x := by rfl) (hdb : (x == ("__debug__" : Str)) = false := by decide)
  (he : starEach (e :: es) X.env = (false, eval e X.env) :: starEach es X.env := by rfl) (hpl : (backTo pos (starEach es X.env)).any (·.1) = false := by rfl) : PE X (.Call (.Name x p) (e :: es) [] pos) (lE R ix (eMk C ms fn f)) :=
 peM (Z414 D hr hm ha hg hdb he hpl) fun σ H Q q => lA_mk σ H Q hl q

noncomputable def tryH (exm : Str → Str → Option Bool) : List (Str × SF) → Str → Sd → SR
 | [], _, _ => .no
 | (x, f) :: r, C, s => match exm C x with | some true => f s | some false => tryH exm r C s | none => .no
noncomputable def sTry (exm : Str → Str → Option Bool) (b : SF) (hs : List (Str × SF)) : SF := fun s => match b s with
 | .ex C s1 => tryH exm hs C s1
 | r => r
noncomputable def hsT (K : PySem.W.Frag) (R : RC) (ix : List Nat) : List (Str × SF) → Value → L2.TS
 | [] => hNil
 | (x, f) :: r => hCons K (R.ad x) (lS R ix f) (hsT K R ix r)
theorem Z589 {K : PySem.W.Frag} {exm : Str → Str → Option Bool} (hex : ∀ C x b, exm C x = some b → PySem.W.exmOne K (.ref (R.ad C)) (.ref (R.ad x)) = some b) {D : Ends} {C : Str} (Cc : Cf R ix hd H σ ts fr) : ∀ {hs : List (Str × SF)}, (match tryH exm hs C (ts.map TL.er) with
  | .nx s' => ∀ H' σ' ts', ts'.map TL.er = s' → Cf R ix hd H' σ' ts' fr → D.nx σ' H'
  | .rt r s' => ∀ H' σ' ts' tv v, ts'.map TL.er = s' → tv.er = r → TvOk ts' v tv → Cf R ix hd H' σ' ts' (tv.tr ++ fr) → D.rt v H'
  | .bk s' => ∀ H' σ' ts', ts'.map TL.er = s' → Cf R ix hd H' σ' ts' fr → D.bk σ' H'
  | .ct s' => ∀ H' σ' ts', ts'.map TL.er = s' → Cf R ix hd H' σ' ts' fr → D.ct σ' H'
  | .ex C s' => ∀ H' σ' ts', ts'.map TL.er = s' → Cf R ix hd H' σ' ts' fr → R.EX σ' (.ref (R.ad C)) none H'
  | .no => False) → hsT K R ix hs (.ref (R.ad C)) D σ H
 | [], h => h
 | (x, f) :: r, h => by
  simp only [tryH] at h
  cases e : exm C x with
  | none => rw [e] at h; exact h.elim
  | some b =>
   rw [e] at h
   refine ⟨b, hex C x b e, ?_⟩
   cases b with
   | true => rw [if_pos rfl]; exact ⟨hd, ts, fr, Cc, h⟩
   | false => rw [if_neg Bool.false_ne_true]; exact Z589 hex Cc h
theorem Cf.ex {EX : L2.St → XK} (C : Cf R ix hd H σ ts fr) : Cf { R with EX := EX } ix hd H σ ts fr := ⟨C.ok, C.fok, C.nd, C.sep, C.rd, C.g, C.bg, C.bor, C.ixs, C.sl, C.hdi, C.hdx, C.len, C.hdn⟩
theorem Cf.unex {EX : L2.St → XK} (C : Cf { R with EX := EX } ix hd H σ ts fr) : Cf R ix hd H σ ts fr := ⟨C.ok, C.fok, C.nd, C.sep, C.rd, C.g, C.bg, C.bor, C.ixs, C.sl, C.hdi, C.hdx, C.len, C.hdn⟩
theorem Z510 {exm : Str → Str → Option Bool} {body : List Stmt} {h0 : ExceptHandler} {hl : List ExceptHandler} {pos : Pos} {b : SF} {hs : List (Str × SF)} (hex : ∀ C x b, exm C x = some b → PySem.W.exmOne X.K (.ref (R.ad C)) (.ref (R.ad x)) = some b) (hstk : X.stack = X.env :: X.outer) (hfr : X.env.frame = some X.env.locals)
  (hb : ∀ (pn : List (Addr × Obj)) (xe : Value → Shared → Prop) (EX : L2.St → XK), PassT (X.tr pn xe) EX → PSs (X.tr pn xe) body (lS { R with EX := EX } ix b)) (hh : PHs X (h0 :: hl) (hsT X.K R ix hs)) : PS X (.Try body (h0 :: hl) [] [] pos) (lS R ix (sTry exm b hs)) := by
 refine psM (Z445 (tb := fun EX => lS { R with EX := EX } ix b) hstk hfr hb hh) fun D σ H h => ?_
 obtain ⟨hd, ts, fr, C, h⟩ := h
 refine ⟨hd, ts, fr, C.ex, ?_⟩
 unfold sTry at h
 cases eb : b (ts.map TL.er) with
 | nx s' => rw [eb] at h; intro H' σ' ts' e C'; exact h H' σ' ts' e C'.unex
 | rt r s' => rw [eb] at h; intro H' σ' ts' tv v e e2 hv C'; exact h H' σ' ts' tv v e e2 hv C'.unex
 | bk s' => rw [eb] at h; intro H' σ' ts' e C'; exact h H' σ' ts' e C'.unex
 | ct s' => rw [eb] at h; intro H' σ' ts' e C'; exact h H' σ' ts' e C'.unex
 | no => rw [eb] at h; exact h
 | ex E s' =>
  rw [eb] at h
  intro H' σ' ts' e C'
  subst e
  exact Z589 hex C'.unex h
theorem Z492 : PHs X [] (hsT X.K R ix []) := Z428
theorem Z491 {x : Str} {np hpos : Pos} {b0 : Stmt} {suite : List Stmt} {rest : List ExceptHandler} {f : SF} {hs : List (Str × SF)} (hm : X.mg x = some (.ref (R.ad x))) (hsu : ∀ ea, PSs (X.inH ea) (b0 :: suite) (lS R ix f)) (hr : PHs X rest (hsT X.K R ix hs))
  (hg : Gl X x := by rfl) (hdb : (x == ("__debug__" : Str)) = false := by decide) : PHs X (.ExceptHandler (some (.Name x np)) none (b0 :: suite) hpos :: rest) (hsT X.K R ix ((x, f) :: hs)) := Z427 hm hsu hr hg hdb

noncomputable def tgN : Sd → List DV → Option Sd
 | s, [] => some s
 | _, _ => none
noncomputable def tgC (b : Sd → DV → Option Sd) (g : Sd → List DV → Option Sd) : Sd → List DV → Option Sd
 | s, r :: rs => (match b s r with | some s1 => g s1 rs | none => none)
 | _, [] => none
noncomputable def tgT (g : Sd → List DV → Option Sd) : Sd → DV → Option Sd
 | s, .val (.nd .tup l) => if D.imms l then g s (l.map .val) else none
 | _, _ => none
noncomputable def lGs (R : RC) (ix : List Nat) (g : Sd → List DV → Option Sd) : TGs := fun vs σ H Q => ∃ hd ts fr l, Cf R ix hd H σ ts (l ++ fr) ∧ l.map T.val = vs ∧ ∃ s', g (ts.map TL.er) ((T.ers l).map .val) = some s' ∧ ∀ σ' ts', ts'.map TL.er = s' → Cf R ix hd H σ' ts' fr → Q σ' H
theorem Z276 (vs : List V) (σ : L2.St) (H : Hp) (Q : L2.St → Hp → Prop) (h : lGs R ix tgN vs σ H Q) : gNil vs σ H Q := by
 obtain ⟨hd, ts, fr, l, C, rfl, s', e, q⟩ := h
 cases l with
 | nil => cases e; exact ⟨rfl, q σ ts rfl C⟩
 | cons t l => simp [T.ers, tgN] at e
theorem Z275 {b : Sd → DV → Option Sd} {g : Sd → List DV → Option Sd} (vs : List V) (σ : L2.St) (H : Hp) (Q : L2.St → Hp → Prop) (h : lGs R ix (tgC b g) vs σ H Q) : gCons (lG R ix b) (lGs R ix g) vs σ H Q := by
 obtain ⟨hd, ts, fr, l, C, rfl, s', e, q⟩ := h
 cases l with
 | nil => simp [T.ers, tgC] at e
 | cons t l =>
  simp only [T.ers, List.map_cons, tgC] at e
  cases eb : b (ts.map TL.er) (.val t.er) with
  | none => rw [eb] at e; cases e
  | some s1 =>
   rw [eb] at e
   refine ⟨t.val, l.map T.val, rfl, hd, ts, l ++ fr, .val t, C, rfl, s1, eb, fun σ1 ts1 e1 C1 => ⟨hd, ts1, fr, l, C1, rfl, s', by rw [e1]; exact e, q⟩⟩
theorem Z274 {K : PySem.W.Frag} {n : Nat} {g : Sd → List DV → Option Sd} (hn : ∀ s l s', g s l = some s' → l.length = n) (v : V) (σ : L2.St) (H : Hp) (Q : L2.St → Hp → Prop) (h : lG R ix (tgT g) v σ H Q) : gTup K n (lGs R ix g) v σ H Q := by
 obtain ⟨hd, ts, fr, tv, C, hv, s', e, q⟩ := h
 cases tv with
 | plc k p a => simp [TV.er, tgT] at e
 | val t =>
  cases hv
  cases t with
  | «at» v => simp [TV.er, T.er, tgT] at e
  | nd a kd ch =>
   cases kd with
   | tup =>
    simp only [TV.er, T.er, tgT] at e
    cases hi : D.imms (T.ers ch) with
    | false => rw [hi] at e; simp at e
    | true =>
     rw [hi, if_pos rfl] at e
     have ok := C.fok.1
     have ho := T.imms_own hi
     refine ⟨a, ch.map T.val, rfl, ok.1.sqT, ?_, hd, ts, fr, ch, ?_, rfl, s', e, q⟩
     ·have := hn _ _ _ e
      simpa [T.ers_eq] using this
     ·refine C.less (x := []) (T.oks_app.mpr ⟨ok.2, C.fok.2⟩) ?_ fun b hb => ?_
      ·show (T.owns (T.nd a .tup ch :: fr)).Perm (T.owns (ch ++ fr) ++ [])
       rw [T.owns_cons, T.owns_app, T.own, ho]; simp [NK.mut]
      ·left
       show b ∈ T.ros (T.nd a .tup ch :: fr)
       rw [T.ros_cons, T.ro]
       rw [T.ros_app] at hb
       simp only [List.mem_append] at hb ⊢
       rcases hb with hb | hb
       ·exact .inl (.inr hb)
       ·exact .inr hb
   | _ => simp [TV.er, T.er, tgT] at e
noncomputable def TgLen (n : Nat) (g : Sd → List DV → Option Sd) : Prop := ∀ s l s', g s l = some s' → l.length = n
theorem Z583 : TgLen 0 tgN := fun s l s' h => by cases l with | nil => rfl | cons => simp [tgN] at h
theorem Z582 {n : Nat} {b : Sd → DV → Option Sd} {g : Sd → List DV → Option Sd} (h : TgLen n g) : TgLen (n + 1) (tgC b g) := fun s l s' e => by
 cases l with
 | nil => simp [tgC] at e
 | cons r rs =>
  simp only [tgC] at e
  cases eb : b s r with
  | none => rw [eb] at e; cases e
  | some s1 => rw [eb] at e; simp [h _ _ _ e]
theorem Z490 : PGs X [] (lGs R ix tgN) := fun pins s σ H vs us Q I r h => Z426 pins s σ H vs us Q I r (Z276 vs σ H Q h)
theorem Z489 {e : Expr} {es : List Expr} {b : Sd → DV → Option Sd} {g : Sd → List DV → Option Sd} (h1 : PG X e (lG R ix b)) (h2 : PGs X es (lGs R ix g)) (hs : (assignEach (e :: es) X.env).map (·.2) = assign e X.env :: (assignEach es X.env).map (·.2) := by rfl) : PGs X (e :: es) (lGs R ix (tgC b g)) :=
 fun pins s σ H vs us Q I r h => Z425 h1 h2 hs pins s σ H vs us Q I r (Z275 vs σ H Q h)
theorem Z488 {es : List Expr} {k n : Nat} {pos : Pos} {g : Sd → List DV → Option Sd} (hc : X.calm = true) (h : PGs X es (lGs R ix g)) (hl : TgLen n g) (hn : (assignEach es X.env).length = n := by rfl) (hst : (assignEach es X.env).findIdx? (·.1) = none := by rfl) : PG X (.Tuple es k pos) (lG R ix (tgT g)) :=
 fun pins s σ H v u Q I r hh => Z424 hc h hn hst pins s σ H v u Q I r (Z274 hl v σ H Q hh)
end
end RM
set_option Elab.async false
set_option linter.all false
set_option maxRecDepth 100000

namespace RM
open PySem PySem.Spec PyProof.Rows L2
theorem er_at {t : T} {v : V} (h : t.er = .at v) (hv : flatV v = true) : t = .at v := by
 cases t with
 | nd a k l => cases h
 | «at» u =>
  cases u with
  | ref a => cases h; cases hv
  | _ => cases h; rfl
theorem Z39 {v : V} (h : flatV v = true) : cl v = v := by cases v <;> first | rfl | cases h
section
variable {X : Cx} {R : RC} {ix : List Nat} {H H' : Hp} {σ : L2.St}
theorem gNw1 {h : List D → Option D} {x : V} {Q : VK} (q : gNw h [x] H Q) : ∃ t : T, t.ok H ∧ t.val = x ∧ ∃ d, h [t.er] = some d ∧ ∀ t' H', t'.er = d → NewOk H H' [t] t' → Q t'.val H' := by
 obtain ⟨l, ok, hv, q⟩ := q
 obtain ⟨t, rfl, rfl⟩ := map1 hv
 exact ⟨t, ok.1, rfl, q⟩
theorem gNw2 {h : List D → Option D} {x y : V} {Q : VK} (q : gNw h [x, y] H Q) : ∃ t u : T, t.ok H ∧ u.ok H ∧ t.val = x ∧ u.val = y ∧ ∃ d, h [t.er, u.er] = some d ∧ ∀ t' H', t'.er = d → NewOk H H' [t, u] t' → Q t'.val H' := by
 obtain ⟨l, ok, hv, q⟩ := q
 obtain ⟨t, u, rfl, rfl, rfl⟩ := map2 hv
 exact ⟨t, u, ok.1, ok.2.1, rfl, rfl, q⟩
theorem CallR.or {f : Value} {r r' : List V → Hp → VK → Prop} (h : CallR X f r) (h' : CallR X f r') : CallR X f fun x H Q => r x H Q ∨ r' x H Q := fun pins s σ H x u Q I rx q => q.elim (h pins s σ H x u Q I rx) (h' pins s σ H x u Q I rx)

noncomputable def hI (C : Int → Int → Bool) (g : Int → Int → V) : List D → Option D
 | [.at (.int i), .at (.int j)] => if C i j then some (.at (g i j)) else none
 | _ => none
theorem Z173 {C : Int → Int → Bool} {g : Int → Int → V} {a b d : D} (h : hI C g [a, b] = some d) : ∃ i j, a = .at (.int i) ∧ b = .at (.int j) ∧ C i j = true ∧ d = .at (g i j) := by
 unfold hI at h
 split at h
 case h_1 i j e =>
  cases e
  split at h
  ·cases h; exact ⟨i, j, rfl, rfl, by assumption, rfl⟩
  ·cases h
 case h_2 => cases h
theorem on_hI {f : Value → Value → Sem Value} {Cp : Int → Int → Prop} {C : Int → Int → Bool} {g : Int → Int → V} (ho : OpR X f (rI Cp g)) (hC : ∀ i j, C i j = true → Cp i j) (hg : ∀ i j, flatV (g i j) = true) : OpR X f (oNw (hI C g)) := opM ho fun x y H Q q => by
 obtain ⟨t, u, ht, hu, rfl, rfl, d, hh, q⟩ := gNw2 q
 obtain ⟨i, j, e1, e2, c, rfl⟩ := Z173 hh
 cases er_at e1 rfl
 cases er_at e2 rfl
 exact ⟨i, j, rfl, rfl, hC i j c, q (.at (g i j)) H (by rw [T.er, Z39 (hg i j)]) (.atom _)⟩
theorem Z378 {f : Value → Value → Sem Value} {g : Int → Int → V} (ho : OpR X f (rI0 g)) (hg : ∀ i j, flatV (g i j) = true) : OpR X f (oNw (hI (fun _ _ => true) g)) := opM ho fun x y H Q q => by
 obtain ⟨t, u, ht, hu, rfl, rfl, d, hh, q⟩ := gNw2 q
 obtain ⟨i, j, e1, e2, c, rfl⟩ := Z173 hh
 cases er_at e1 rfl
 cases er_at e2 rfl
 exact ⟨i, j, rfl, rfl, q (.at (g i j)) H (by rw [T.er, Z39 (hg i j)]) (.atom _)⟩
noncomputable abbrev hSub : List D → Option D := hI (fun _ _ => true) fun i j => .int (i - j)
noncomputable abbrev hMul : List D → Option D := hI (fun i j => decide (-(2 ^ 64) < i ∧ i < 2 ^ 64) || decide (-(2 ^ 64) < j ∧ j < 2 ^ 64)) fun i j => .int (i * j)
noncomputable abbrev hDiv : List D → Option D := hI (fun _ j => decide (0 < j) && decide (j < 1073741824)) fun i j => .int (i / j)
noncomputable abbrev hMod : List D → Option D := hI (fun _ j => decide (0 < j)) fun i j => .int (i % j)
noncomputable abbrev hLt : List D → Option D := hI (fun _ _ => true) fun i j => .bl (decide (i < j))
noncomputable abbrev hGt : List D → Option D := hI (fun _ _ => true) fun i j => .bl (decide (j < i))
theorem Z381 : OpR X (binaryOp .Sub) (oNw hSub) := Z378 Z388 fun _ _ => rfl
theorem Z380 : OpR X (binaryOp .Mult) (oNw hMul) := on_hI Z387 (fun i j h => by simpa [CMul] using h) fun _ _ => rfl
theorem Z377 : OpR X (binaryOp .FloorDiv) (oNw hDiv) := on_hI Z384 (fun i j h => by simpa [CDiv] using h) fun _ _ => rfl
theorem Z379 : OpR X (binaryOp .Mod) (oNw hMod) := on_hI Z386 (fun i j h => by simpa using h) fun _ _ => rfl
theorem on_lt : OpR X (compareOp .Lt) (oNw hLt) := Z378 op_lt fun _ _ => rfl
theorem on_gt : OpR X (compareOp .Gt) (oNw hGt) := Z378 op_gt fun _ _ => rfl

noncomputable def hEq (neg : Bool) : List D → Option D
 | [.at x, .at y] => if flatV x && flatV y && scal x y then some (.at (.bl (decide (x = y) != neg))) else none
 | _ => none
theorem Z172 {neg : Bool} {a b d : D} (h : hEq neg [a, b] = some d) : ∃ x y, a = .at x ∧ b = .at y ∧ flatV x = true ∧ flatV y = true ∧ scal x y = true ∧ d = .at (.bl (decide (x = y) != neg)) := by
 unfold hEq at h
 split at h
 case h_1 x y e =>
  cases e
  split at h
  case isTrue z =>
   simp only [Bool.and_eq_true] at z
   cases h; exact ⟨x, y, rfl, rfl, z.1.1, z.1.2, z.2, rfl⟩
  case isFalse => cases h
 case h_2 => cases h
theorem on_eq : OpR X (compareOp .Eq) (oNw (hEq false)) := opM op_eq fun x y H Q q => by
 obtain ⟨t, u, ht, hu, rfl, rfl, d, hh, q⟩ := gNw2 q
 obtain ⟨i, j, e1, e2, f1, f2, c, rfl⟩ := Z172 hh
 cases er_at e1 f1
 cases er_at e2 f2
 exact ⟨c, q (.at (.bl (decide (i = j)))) H (by simp [T.er, cl]) (.atom _)⟩
theorem on_ne : OpR X (compareOp .NotEq) (oNw (hEq true)) := opM op_ne fun x y H Q q => by
 obtain ⟨t, u, ht, hu, rfl, rfl, d, hh, q⟩ := gNw2 q
 obtain ⟨i, j, e1, e2, f1, f2, c, rfl⟩ := Z172 hh
 cases er_at e1 f1
 cases er_at e2 f2
 exact ⟨c, q (.at (.bl (!decide (i = j)))) H (by simp [T.er, cl]) (.atom _)⟩
noncomputable def hIsN (neg : Bool) : List D → Option D
 | [.at x, .at .non] => some (.at (.bl (decide (x = .non) != neg)))
 | [.nd _ _, .at .non] => some (.at (.bl neg))
 | _ => none

theorem Z353 {l : List T} {k : NK} {ch : List T} {p : Addr} {o : HO} (hp : H p = none) (ho : NodeOk (upd H p o) p k (ch.map T.val)) (hk : k.mut = true ∨ k = .tup) (hc : ∀ t ∈ ch, t.ok H ∧ t.own = []) (hr : ∀ a ∈ T.ros ch, a ∈ T.ros l) : NewOk H (upd H p o) l (.nd p k ch) := by
 have hown : T.owns ch = [] := by
  refine List.eq_nil_iff_forall_not_mem.mpr fun a z => ?_
  obtain ⟨t, h1, h2⟩ := T.mem_owns.mp z
  rw [(hc t h1).2] at h2; cases h2
 have there : ∀ a ∈ T.ros ch, a ≠ p := fun a z e => by
  obtain ⟨t, h1, h2⟩ := T.mem_ros.mp z
  exact T.there (hc t h1).1 (.inr h2) (by rw [e]; exact hp)
 refine ⟨⟨ho, T.oks_iff.mpr fun t ht => T.keep (hc t ht).1 fun a z => ?_⟩, ?_, fun a z => ?_, fun a z => ?_, fun a z => ?_, fun a z => Z604 (by rintro rfl; exact z hp)⟩
 ·refine Z604 ?_
  rcases z with z | z
  ·rw [(hc t ht).2] at z; cases z
  ·exact there a (T.mem_ros.mpr ⟨t, ht, z⟩)
 ·rw [T.own, hown]; cases k.mut <;> simp
 ·rw [T.own, hown] at z
  have : a = p := by revert z; cases k.mut <;> simp
  rw [this]; exact hp
 ·rw [T.ro] at z
  rcases List.mem_append.mp z with z | z
  ·left
   have : a = p := by revert z; cases k.mut <;> simp
   rw [this]; exact hp
  ·exact .inr (hr a z)
 ·rw [T.ro] at z
  rw [T.own, hown]
  rcases List.mem_append.mp z with z | z
  ·revert z; cases k.mut <;> simp
  ·intro q
   have : a = p := by revert q; cases k.mut <;> simp
   exact there a z this
theorem Z202 {l : List T} (h : D.imms (T.ers l) = true) : ∀ t ∈ l, t.own = [] := fun t ht => by
 have := T.imms_own h
 refine List.eq_nil_iff_forall_not_mem.mpr fun a z => ?_
 have : a ∈ T.owns l := T.mem_owns.mpr ⟨t, ht, z⟩
 rw [T.imms_own h] at this; cases this
noncomputable def hAdd : List D → Option D
 | [.at (.int i), .at (.int j)] => some (.at (.int (i + j)))
 | [.at (.str x), .at (.str y)] => if x.length + y.length ≤ sizeLine then some (.at (.str (x ++ y))) else none
 | [.nd (.lst true) l, .nd (.lst true) m] => if D.imms l && D.imms m && decide (l.length + m.length ≤ sizeLine) then some (.nd (.lst true) (l ++ m)) else none
 | [.nd .tup l, .nd .tup m] => if D.imms l && D.imms m && decide (l ≠ [] ∧ m ≠ [] ∧ l.length + m.length ≤ sizeLine) then some (.nd .tup (l ++ m)) else none
 | _ => none
theorem Z316 {t : T} {m : Bool} {l : List D} (h : t.er = .nd (.lst m) l) : ∃ a ch, t = .nd a (.lst m) ch ∧ l = T.ers ch := by
 cases t with
 | «at» v => cases h
 | nd a k ch => cases h; exact ⟨a, ch, rfl, rfl⟩
theorem Z87 (l m : List T) : T.ers (l ++ m) = T.ers l ++ T.ers m := by rw [T.ers_eq, T.ers_eq, T.ers_eq, List.map_append]
theorem Z88 (l : List T) : (T.ers l).length = l.length := by rw [T.ers_eq, List.length_map]

open Classical in
noncomputable def hLen (K : PySem.W.Frag) : List D → Option D
 | [.at (.str x)] => if x.length ≤ sizeLine then some (.at (.int x.length)) else none
 | [.nd (.lst _) l] => some (.at (.int l.length))
 | [.nd .tup l] => some (.at (.int l.length))
 | [.nd (.dic _ _) l] => some (.at (.int l.length))
 | [.nd (.kst K') l] => if K' = K then some (.at (.int l.length)) else none
 | _ => none
theorem Z42 : CallR X (.builtin "len") (gNw (hLen X.K)) := callM (CallR.or call_len Z32) fun vs H Q q => by
 obtain ⟨l, ok, hv, q⟩ := q
 obtain ⟨d, hh, q⟩ := q
 match l, ok, hv, hh, q with
 | [], _, _, hh, _ => cases hh
 | _ :: _ :: _, _, _, hh, _ => simp [T.ers, hLen] at hh
 | [t], ok, hv, hh, q =>
  subst hv
  simp only [T.ers] at hh
  cases t with
  | «at» v =>
   cases v with
   | str x =>
    simp only [T.er, cl, hLen] at hh
    split at hh
    ·cases hh
     exact .inl ⟨.str x, x.length, rfl, ⟨by assumption, rfl⟩, q (.at (.int x.length)) H rfl (.atom _)⟩
    ·cases hh
   | _ => simp [T.er, cl, hLen] at hh
  | nd a k ch =>
   cases k with
   | lst m =>
    simp only [T.er, hLen, Option.some.injEq, Z88] at hh
    subst hh
    exact .inl ⟨.ref a, ch.length, rfl, .inl ⟨_, ok.1.1.sqL, by simp⟩, q (.at (.int ch.length)) H rfl (.atom _)⟩
   | tup =>
    simp only [T.er, hLen, Option.some.injEq, Z88] at hh
    subst hh
    exact .inl ⟨.ref a, ch.length, rfl, .inr ⟨_, ok.1.1.sqT, by simp⟩, q (.at (.int ch.length)) H rfl (.atom _)⟩
   | dic m ks =>
    simp only [T.er, hLen, Option.some.injEq, Z88] at hh
    subst hh
    obtain ⟨h1, _, h2⟩ := ok.1.1
    refine .inr ⟨a, ks.zip (ch.map T.val), rfl, h2, ?_⟩
    have : (ks.zip (ch.map T.val)).length = ch.length := by
     simp only [List.length_map] at h1
     simp [h1]
    rw [this]
    exact q (.at (.int ch.length)) H rfl (.atom _)
   | kst K' =>
    simp only [T.er, hLen, Z88] at hh
    split at hh
    case isTrue e =>
     subst e
     cases hh
     exact .inl ⟨.ref a, ch.length, rfl, .inl ⟨_, .inr ok.1.1, by simp⟩, q (.at (.int ch.length)) H rfl (.atom _)⟩
    case isFalse => cases hh
   | _ => simp [T.er, hLen] at hh
theorem rc_b {x : Str} {id : String} {h : List D → Option D} {p pos : Pos} {e : Expr} {es : List Expr} {f : AF} (hc : CallR X (.builtin id) (gNw h)) (hg : Gl X x) (hm : X.mg x = none) (hv : bootBuiltins x = some (.builtin id)) (ha : PA X (e :: es) (lA R ix f)) (hn : x ≠ "__name__" := by decide) (hdb : (x == ("__debug__" : Str)) = false := by decide)
  (he : starEach (e :: es) X.env = (false, eval e X.env) :: starEach es X.env := by rfl) (hpl : (backTo pos (starEach es X.env)).any (·.1) = false := by rfl) : PE X (.Call (.Name x p) (e :: es) [] pos) (lE R ix (eNw h f)) :=
 peM (Z399 hc hg hm hv ha hn hdb he hpl) fun σ H Q q => lA_nw σ H Q q
theorem rc_ty {x : Str} {Ty : String} {h : List D → Option D} {p pos : Pos} {e : Expr} {es : List Expr} {f : AF} (hc : CallR X (.type Ty) (gNw h)) (hg : Gl X x) (hm : X.mg x = none) (hv : bootBuiltins x = some (.type Ty)) (ha : PA X (e :: es) (lA R ix f)) (hn : x ≠ "__name__" := by decide) (hdb : (x == ("__debug__" : Str)) = false := by decide)
  (he : starEach (e :: es) X.env = (false, eval e X.env) :: starEach es X.env := by rfl) (hpl : (backTo pos (starEach es X.env)).any (·.1) = false := by rfl) : PE X (.Call (.Name x p) (e :: es) [] pos) (lE R ix (eNw h f)) :=
 peM (Z400 hc hg hm hv ha hn hdb he hpl) fun σ H Q q => lA_nw σ H Q q
noncomputable def hList : List D → Option D
 | [.nd (.lst _) l] => if D.imms l then some (.nd (.lst true) l) else none
 | [.nd .tup l] => if D.imms l then some (.nd (.lst true) l) else none
 | _ => none
theorem Z43 : CallR X (.type "list") (gNw hList) := callM Z33 fun vs H Q q => by
 obtain ⟨l, ok, hv, d, hh, q⟩ := q
 match l, ok, hv, hh, q with
 | [], _, _, hh, _ => cases hh
 | _ :: _ :: _, _, _, hh, _ => simp [T.ers, hList] at hh
 | [t], ok, hv, hh, q =>
  subst hv
  simp only [T.ers] at hh
  cases t with
  | «at» v => simp [T.er, hList] at hh
  | nd a k ch =>
   have main : (SqL X.K H a (ch.map T.val) ∨ SqT X.K H a (ch.map T.val)) → D.imms (T.ers ch) = true → d = .nd (.lst true) (T.ers ch) → (∀ b ∈ T.ros ch, b ∈ T.ros [T.nd a k ch]) → ∃ p ys, [(T.nd a k ch).val] = [V.ref p] ∧ (SqL X.K H p ys ∨ SqT X.K H p ys) ∧ ∀ l, H l = none → Q (.ref l) (upd H l (.lst ys)) := by
    rintro hs hi rfl hr
    exact ⟨a, ch.map T.val, rfl, hs, fun p hp => q (.nd p (.lst true) ch) _ rfl (Z353 hp Z605 (.inl rfl) (fun t ht => ⟨T.oks_iff.mp ok.1.2 t ht, Z202 hi t ht⟩) hr)⟩
   cases k with
   | lst m =>
    simp only [T.er, hList] at hh
    split at hh
    ·cases hh
     exact main (.inl ok.1.1.sqL) (by assumption) rfl fun b hb => by simp [T.ros, T.ro, hb]
    ·cases hh
   | tup =>
    simp only [T.er, hList] at hh
    split at hh
    ·cases hh
     exact main (.inr ok.1.1.sqT) (by assumption) rfl fun b hb => by simp [T.ros, T.ro, hb]
    ·cases hh
   | _ => simp [T.er, hList] at hh
end
end RM
set_option Elab.async false
set_option linter.all false
set_option maxRecDepth 100000

namespace RM
open PySem PySem.Spec PyProof.Rows L2
section
variable {X : Cx} {R : RC} {ix : List Nat} {H H' : Hp} {σ : L2.St} {K : PySem.W.Frag}
theorem gCh2 {h : List D → Option Sel} {x y : V} {Q : VK} (q : gCh h [x, y] H Q) : ∃ t u : T, t.ok H ∧ u.ok H ∧ t.val = x ∧ u.val = y ∧ ∃ c v, h [t.er, u.er] = some c ∧ selT [t, u] c = some v ∧ Q v H := by
 obtain ⟨l, ok, hv, q⟩ := q
 obtain ⟨t, u, rfl, rfl, rfl⟩ := map2 hv
 exact ⟨t, u, ok.1, ok.2.1, rfl, rfl, q⟩
open Classical in
noncomputable def hIx (K : PySem.W.Frag) : List D → Option Sel
 | [.nd (.lst _) l, .at (.int i)] => (ixN l.length i).map .ch
 | [.nd .tup l, .at (.int i)] => (ixN l.length i).map .ch
 | [.nd (.kst K') l, .at (.int i)] => if K' = K then (ixN l.length i).map .ch else none
 | [.at (.str z), .at (.int i)] => if z.length ≤ sizeLine then (atI z.cps.toList i).map fun c => .cs (.str ⟨#[c]⟩) else none
 | _ => none
theorem ixM {r r' : R2} (h : IxR X r) (m : ∀ x y H Q, r' x y H Q → r x y H Q) : IxR X r' := fun v sl pins s σ H x y ov u Q I rx ry q hs => h v sl pins s σ H x y ov u Q I rx ry (m _ _ _ _ q) hs
theorem ix_h : IxR X fun x y H Q => gCh (hIx X.K) [x, y] H Q := ixM ix_seq fun x y H Q q => by
 obtain ⟨t, u, ht, hu, rfl, rfl, c, v, hh, hs, qq⟩ := gCh2 q
 have hi : ∃ i, u = .at (.int i) := by
  cases u with
  | nd a k l => cases t with
   | nd b k' l' => cases k' <;> simp [T.er, hIx] at hh
   | «at» w => cases w <;> simp [T.er, hIx, cl] at hh
  | «at» w => cases w with
   | int i => exact ⟨i, rfl⟩
   | _ => cases t with
    | nd b k' l' => cases k' <;> simp [T.er, hIx, cl] at hh
    | «at» w => cases w <;> simp [T.er, hIx, cl] at hh
 obtain ⟨i, rfl⟩ := hi
 have seq : ∀ {a : Addr} {k : NK} {ch : List T}, T.nd a k ch = t → (ixN (T.ers ch).length i).map Sel.ch = some c → atI (ch.map T.val) i = some v := by
  rintro a k ch rfl h
  rw [Z88] at h
  cases e : ixN ch.length i with
  | none => rw [e] at h; cases h
  | some j =>
   rw [e] at h
   cases h
   unfold atI
   rw [List.length_map, e]
   simpa [selT] using hs
 cases t with
 | nd a k ch =>
  cases k with
  | lst m => exact .inl ⟨a, ch.map T.val, i, v, rfl, rfl, ht.1.sqL, seq rfl (by simpa [T.er, hIx, cl] using hh), qq⟩
  | tup => exact .inr (.inl ⟨a, ch.map T.val, i, v, rfl, rfl, ht.1.sqT, seq rfl (by simpa [T.er, hIx, cl] using hh), qq⟩)
  | kst K' =>
   have e : K' = X.K := by
    by_cases e : K' = X.K
    ·exact e
    ·simp [T.er, hIx, cl, e] at hh
   subst e
   exact .inl ⟨a, ch.map T.val, i, v, rfl, rfl, .inr ht.1, seq rfl (by simpa [T.er, hIx, cl] using hh), qq⟩
  | _ => simp [T.er, hIx] at hh
 | «at» w =>
  cases w with
  | str z =>
   simp only [T.er, cl, hIx] at hh
   split at hh
   ·cases e : atI z.cps.toList i with
    | none => rw [e] at hh; cases hh
    | some ch =>
     rw [e] at hh
     cases hh
     cases hs
     exact .inr (.inr ⟨z, i, ch, rfl, rfl, by assumption, e, qq⟩)
   ·cases hh
  | _ => simp [T.er, hIx, cl] at hh
theorem re_ix {a b : Expr} {pos : Pos} {fa fb : EF} (ha : PE X a (lE R ix fa)) (hb : PE X b (lE R ix fb)) (hs : PlainIx b) : PE X (.Subscript a b pos) (lE R ix (eCh (hIx X.K) (aCons fa (aCons fb aNil)))) :=
 peM (pe_ix ix_h ha hb hs) fun σ H Q q => lA_2 (lA_ch σ H Q q)

noncomputable def idx (f : Str) (ns : List Str) : Option Nat := ns.findIdx? (· == f)
theorem Z306 {f : Str} {j : Nat} : ∀ {ns : List Str} {vs : List V}, ns.length = vs.length → idx f ns = some j → ∃ v, vs[j]? = some v ∧ (ns.zip vs).lookup f = some v
 | [], _, _, h => by cases h
 | n :: ns, [], hl, _ => by simp at hl
 | n :: ns, v :: vs, hl, h => by
  unfold idx at h
  rw [List.findIdx?_cons] at h
  cases e : n == f with
  | true =>
   rw [e, if_pos rfl] at h
   cases h
   refine ⟨v, rfl, ?_⟩
   have : f == n := by rw [beq_iff_eq] at e ⊢; exact e.symm
   simp [List.lookup_cons, this]
  | false =>
   rw [e, if_neg Bool.false_ne_true] at h
   cases e2 : ns.findIdx? (· == f) with
   | none => rw [e2] at h; cases h
   | some k =>
    rw [e2] at h
    cases h
    obtain ⟨w, h1, h2⟩ := Z306 (f := f) (j := k) (ns := ns) (vs := vs) (by simpa using hl) e2
    refine ⟨w, by simpa using h1, ?_⟩
    have : (f == n) = false := by
     cases e3 : f == n with
     | false => rfl
     | true => rw [beq_iff_eq] at e3; rw [e3] at e; simp at e
    simp only [List.zip_cons_cons, List.lookup_cons, this]
    exact h2
noncomputable def hFld (C : Addr) (f : Str) : List D → Option Sel
 | [.nd (.ins _ C' ns) _] => if C' = C then (idx f ns).map .ch else none
 | _ => none
theorem Z471 {C : Addr} {f : Str} {e : Expr} {pos : Pos} {fe : EF} (c : Cls K C) (n : NoAttr K C f) (he : PE X e (lE R ix fe)) (hb : attributeBase e f X.env (eval e X.env) = eval e X.env := by rfl) (hK : X.K = K := by rfl) : PE X (.Attribute e f pos) (lE R ix (eCh (hFld C f) (aCons fe aNil))) :=
 peM (Z406 c n he hb hK) fun σ H Q q => by
  refine Z271 (fun v H1 q => ?_) (lA_1 (lA_ch σ H Q q))
  obtain ⟨l, ok, hv, sl, w, hh, hs, q⟩ := q
  obtain ⟨t, rfl, rfl⟩ := map1 hv
  simp only [T.ers] at hh
  cases t with
  | «at» u => simp [T.er, hFld] at hh
  | nd a k ch =>
   cases k with
   | ins m C' ns =>
    simp only [T.er, hFld] at hh
    by_cases hC : C' = C
    ·subst hC
     rw [if_pos rfl] at hh
     cases ei : idx f ns with
     | none => rw [ei] at hh; cases hh
     | some j =>
      rw [ei] at hh
      cases hh
      obtain ⟨h1, dx, h2⟩ := ok.1.1
      obtain ⟨u, u1, u2⟩ := Z306 h1 ei
      have : u = w := by
       rw [List.getElem?_map] at u1
       simp only [selT] at hs
       rw [u1] at hs
       cases hs; rfl
      subst this
      exact ⟨a, dx, _, u, rfl, h2, u2, q⟩
    ·rw [if_neg hC] at hh; cases hh
   | _ => simp [T.er, hFld] at hh

noncomputable def keyD : D → Option Key
 | .at (.int i) => some (.inl i)
 | .at (.str x) => some (.inr x)
 | _ => none
theorem Z242 {t : T} {k : Key} (h : keyD t.er = some k) : t = .at (kV k) := by
 cases t with
 | nd a q l => simp [T.er, keyD] at h
 | «at» v => cases v <;> simp [T.er, cl, keyD] at h <;> (subst h; rfl)
noncomputable def keysD : List D → Option (List Key)
 | [] => some []
 | d :: r => match keyD d, keysD r with | some k, some ks => some (k :: ks) | _, _ => none
theorem Z251 : ∀ {l : List T} {ks : List Key}, keysD (T.ers l) = some ks → l.map T.val = ks.map kV
 | [], ks, h => by cases h; rfl
 | t :: l, ks, h => by
  simp only [T.ers, keysD] at h
  cases e1 : keyD t.er with
  | none => simp [e1] at h
  | some k => cases e2 : keysD (T.ers l) with
   | none => simp [e1, e2] at h
   | some r =>
    simp only [e1, e2, Option.some.injEq] at h
    subst h
    rw [Z242 e1, List.map_cons, List.map_cons, Z251 e2]; rfl
noncomputable def idk {κ : Type} [DecidableEq κ] (k : κ) (ks : List κ) : Option Nat := ks.findIdx? fun x => decide (x = k)
theorem Z657 {κ : Type} [DecidableEq κ] (k : κ) : ∀ {ks : List κ} {vs : List V}, ks.length = vs.length → valV (ks.zip vs) k = (idk k ks).bind fun j => vs[j]?
 | [], vs, h => by cases vs with | nil => rfl | cons => simp at h
 | x :: ks, [], h => by simp at h
 | x :: ks, v :: vs, h => by
  have ih := Z657 k (ks := ks) (vs := vs) (by simpa using h)
  unfold idk at *
  rw [List.zip_cons_cons, List.findIdx?_cons]
  by_cases e : x = k
  ·rw [Z659 (by exact e), decide_eq_true e]; rfl
  ·rw [Z658 (by exact e), decide_eq_false e, if_neg Bool.false_ne_true, ih]
   cases List.findIdx? (fun x => decide (x = k)) ks <;> rfl
noncomputable def findD : D → D → Option (Option Nat)
 | .nd (.dic _ ks) _, k => (keyD k).map fun k => idk k ks
 | .nd (.dit _ ks) _, .nd .tup l => (keysD l).map fun k => idk k ks
 | _, _ => none
theorem Z157 {t u : T} {o : Option Nat} (ht : t.ok H) (hu : u.ok H) (h : findD t.er u.er = some o) : ∃ a k ch, t = .nd a k ch ∧ DGet H a u.val (o.bind fun j => (ch.map T.val)[j]?) := by
 cases t with
 | «at» v => simp [T.er, findD] at h
 | nd a k ch =>
  cases k with
  | dic m ks =>
   refine ⟨a, _, ch, rfl, ?_⟩
   simp only [T.er, findD] at h
   cases e : keyD u.er with
   | none => rw [e] at h; cases h
   | some key =>
    rw [e] at h
    cases h
    obtain ⟨h1, _, h2⟩ := ht.1
    rw [Z242 e, ← Z657 key h1]
    exact DGet.k h2
  | dit m ks =>
   refine ⟨a, _, ch, rfl, ?_⟩
   cases u with
   | «at» v => simp [T.er, findD] at h
   | nd b k' l =>
    cases k' with
    | tup =>
     simp only [T.er, findD] at h
     cases e : keysD (T.ers l) with
     | none => rw [e] at h; cases h
     | some key =>
      rw [e] at h
      cases h
      obtain ⟨h1, _, h2⟩ := ht.1
      rw [← Z657 key h1]
      refine DGet.t h2 ?_
      rw [← Z251 e]; exact hu.1
    | _ => simp [T.er, findD] at h
  | _ => simp [T.er, findD] at h
noncomputable def hDGet : List D → Option Sel
 | [d, k] => match findD d k with | some (some j) => some (.ch j) | _ => none
 | _ => none
noncomputable def hDIn (neg : Bool) : List D → Option D
 | [k, d] => match findD d k with | some o => some (.at (.bl (o.isSome != neg))) | none => none
 | _ => none
theorem Z171 {neg : Bool} {k d r : D} (h : hDIn neg [k, d] = some r) : ∃ o, findD d k = some o ∧ r = .at (.bl (o.isSome != neg)) := by
 simp only [hDIn] at h
 split at h
 case h_1 o e => cases h; exact ⟨o, e, rfl⟩
 case h_2 => cases h
theorem Z218 {o : Option Nat} {ch : List T} {k : NK} {a : Addr} {u : T} (h : findD (T.nd a k ch).er u.er = some o) (hok : (T.nd a k ch).ok H) : (o.bind fun j => (ch.map T.val)[j]?).isSome = o.isSome := by
 cases o with
 | none => rfl
 | some j =>
  have hj : j < ch.length := by
   cases k with
   | dic m ks =>
    simp only [T.er, findD] at h
    cases e : keyD u.er with
    | none => rw [e] at h; cases h
    | some key =>
     rw [e] at h
     simp only [Option.map_some, Option.some.injEq] at h
     have := (List.findIdx?_eq_some_iff_getElem.mp h).1
     have h1 := hok.1.1
     simp only [List.length_map] at h1
     omega
   | dit m ks =>
    cases u with
    | «at» v => simp [T.er, findD] at h
    | nd b k' l =>
     cases k' with
     | tup =>
      simp only [T.er, findD] at h
      cases e : keysD (T.ers l) with
      | none => rw [e] at h; cases h
      | some key =>
       rw [e] at h
       simp only [Option.map_some, Option.some.injEq] at h
       have := (List.findIdx?_eq_some_iff_getElem.mp h).1
       have h1 := hok.1.1
       simp only [List.length_map] at h1
       omega
     | _ => simp [T.er, findD] at h
   | _ => simp [T.er, findD] at h
  simp [hj]
theorem Z498 {i o : Expr} {fi fo : EF} (hu : X.A.units + 1 < cLine) (hi : PE X i (lE R ix fi)) (ho : PE X o (lE R ix fo)) : PC X .In i o (lE R ix (eNw (hDIn false) (aCons fi (aCons fo aNil)))) := fun pins s σ H Q I q => Z396 hu hi ho pins s σ H Q I (by
 refine Z271 (fun x H1 q => Z271 (fun y H2 q => ?_) q) (lA_2 (lA_nw σ H Q q))
 obtain ⟨t, u, ht, hu', rfl, rfl, d, hh, qq⟩ := gNw2 q
 obtain ⟨oo, e, rfl⟩ := Z171 hh
 obtain ⟨a, k, ch, rfl, g⟩ := Z157 hu' ht e
 refine ⟨a, _, rfl, g, ?_⟩
 rw [Z218 e hu']
 exact qq (.at (.bl oo.isSome)) H2 (by simp [T.er, cl]) (.atom _))

noncomputable def hGet2 : List D → Option Sel
 | [d, k, _] => match findD d k with | some (some j) => some (.ch j) | some none => some (.ar 2) | none => none
 | _ => none
noncomputable def isDic : D → Bool
 | .nd (.dic _ _) _ => true | .nd (.dit _ _) _ => true | _ => false
end
end RM
set_option Elab.async false
set_option linter.all false
set_option maxRecDepth 100000

namespace RM
open PySem PySem.Spec PyProof.Rows L2
noncomputable def vals : List DV → Option (List D)
 | [] => some []
 | .val d :: r => (match vals r with | some l => some (d :: l) | none => none)
 | .plc _ _ :: _ => none
noncomputable def eDisp (k : NK) (f : AF) : EF := fun s => match f s with
 | .ok rs s1 => (match vals rs with | some l => if l.length ≤ sizeLine then .ok (.val (.nd k l)) s1 else .no | none => .no)
 | .ex C s1 => .ex C s1
 | .no => .no
section
variable {X : Cx} {R : RC} {ix : List Nat} {hd : List (Nat × Addr)} {H H' : Hp} {σ : L2.St} {K : PySem.W.Frag} {ts : Ts} {fr : List T}
theorem Z663 : ∀ {tvs : List TV} {vs : List V} {l : List D}, vals (tvs.map TV.er) = some l → TvsOk ts vs tvs → ∃ ch : List T, trs tvs = ch ∧ T.ers ch = l ∧ ch.map T.val = vs
 | [], _, _, h, .nil => by cases h; exact ⟨[], rfl, rfl, rfl⟩
 | tv :: tvs, _, l, h, .cons hv hr => by
  cases tv with
  | plc k p a => simp [TV.er, vals] at h
  | val t =>
   simp only [List.map_cons, TV.er, vals] at h
   cases e : vals (tvs.map TV.er) with
   | none => rw [e] at h; cases h
   | some r =>
    rw [e] at h
    cases h
    obtain ⟨ch, h1, h2, h3⟩ := Z663 e hr
    refine ⟨t :: ch, ?_, by rw [T.ers, h2], by rw [List.map_cons, h3, hv]⟩
    show [t] ++ trs tvs = t :: ch
    rw [h1]; rfl
theorem Cf.wrap {ch : List T} {k : NK} {p : Addr} {o : HO} (C : Cf R ix hd H σ ts (ch ++ fr)) (hp : H p = none) (ho : NodeOk (upd H p o) p k (ch.map T.val)) (hko : k.out = false := by rfl) : Cf R ix hd (upd H p o) σ ts (.nd p k ch :: fr) := by
 obtain ⟨f1, f2, f3, f4, f5, f6⟩ := C.fresh hp
 have ok := T.oks_app.mp C.fok
 have kp : ∀ a, H a ≠ none → upd H p o a = H a := fun a z => Z604 (by rintro rfl; exact z hp)
 rw [T.owns_app] at f4
 rw [T.ros_app] at f5
 simp only [List.mem_append, not_or] at f4 f5
 have eo : T.owns (.nd p k ch :: fr) = (if k.mut then [p] else []) ++ (T.owns ch ++ T.owns fr) := by rw [T.owns_cons, T.own, List.append_assoc]
 have er : T.ros (.nd p k ch :: fr) = (if k.mut then [] else [p]) ++ (T.ros ch ++ T.ros fr) := by rw [T.ros_cons, T.ro, hko, Bool.or_false, List.append_assoc]
 have hin : ∀ a, a ∈ (if k.mut then [p] else []) → a = p := fun a z => by revert z; cases k.mut <;> simp
 have hin' : ∀ a, a ∈ (if k.mut then [] else [p]) → a = p ∧ k.mut = false := fun a z => by revert z; cases k.mut <;> simp
 refine ⟨fun w t z => T.keep (C.ok w t z) fun a q => kp a (T.there (C.ok w t z) q), ⟨⟨ho, T.keeps ok.1 fun a q => kp a (T.theres ok.1 q)⟩, T.keeps ok.2 fun a q => kp a (T.theres ok.2 q)⟩, ?_, fun a z => ?_, fun a z => ?_, fun a z => ?_, C.bg, C.bor, C.ixs, C.sl, C.hdi, C.hdx, C.len, C.hdn⟩
 ·rw [eo]
  have nd := C.nd
  rw [T.owns_app] at nd
  have n1 := List.nodup_append.mp nd
  refine List.nodup_append.mpr ⟨n1.1, List.nodup_append.mpr ⟨by cases k.mut <;> simp, n1.2.1, fun a za b zb e => ?_⟩, fun a za b zb e => ?_⟩
  ·subst e
   rw [hin a za] at zb
   exact (List.mem_append.mp zb).elim f4.1 f4.2
  ·subst e
   rcases List.mem_append.mp zb with zb | zb
   ·rw [hin a zb] at za; exact f1 za
   ·exact n1.2.2 a za a zb rfl
 ·rw [eo]
  rw [er] at z
  have zz := z
  have main : ∀ a, a ∈ roS ts ∨ a ∈ T.ros (ch ++ fr) → a ∉ ownS ts ∧ a ∉ (if k.mut then [p] else []) ++ (T.owns ch ++ T.owns fr) ∧ ¬ R.B a := by
   clear z
   intro a z
   obtain ⟨s1, s2, s3⟩ := C.sep a z
   rw [T.owns_app] at s2
   refine ⟨s1, fun q => ?_, s3⟩
   rcases List.mem_append.mp q with q | q
   ·have e := hin a q
    rw [e] at z
    rcases z with z | z
    ·exact f2 z
    ·rw [T.ros_app] at z; exact (List.mem_append.mp z).elim f5.1 f5.2
   ·exact s2 q
  rcases zz with z | z
  ·exact main a (.inl z)
  ·rcases List.mem_append.mp z with z | z
   ·obtain ⟨rfl, hm⟩ := hin' a z
    refine ⟨f1, fun q => ?_, fun q => f6 (C.bg a q)⟩
    rw [hm] at q
    simp only [Bool.false_eq_true, if_false, List.nil_append] at q
    exact (List.mem_append.mp q).elim f4.1 f4.2
   ·exact main a (.inr (by rw [T.ros_app]; exact z))
 ·rw [eo]
  obtain ⟨s1, s2⟩ := C.rd a z
  rw [T.owns_app] at s2
  refine ⟨s1, fun q => ?_⟩
  rcases List.mem_append.mp q with q | q
  ·rw [hin a q] at z; exact f3 z
  ·exact s2 q
 ·rw [eo]
  obtain ⟨g1, g2, g3, g4⟩ := C.g a z
  rw [T.owns_app] at g4
  refine ⟨(kp a g2).trans g1, by rw [kp a g2]; exact g2, g3, fun q => ?_⟩
  rcases List.mem_append.mp q with q | q
  ·rw [hin a q] at z; exact f6 z
  ·exact g4 q
theorem Z263 {k : NK} {f : AF} {o : List V → HO} (hko : k.out = false) (hk : ∀ (H : Hp) p vs, NodeOk (upd H p (o vs)) p k vs) (σ : L2.St) (H : Hp) (Q : VK) (q : lE R ix (eDisp k f) σ H Q) : lA R ix f σ H fun vs H1 => vs.length ≤ sizeLine ∧ ∀ p, H1 p = none → Q (.ref p) (upd H1 p (o vs)) := by
 obtain ⟨hd, ts, fr, C, q⟩ := q
 refine ⟨hd, ts, fr, C, ?_⟩
 unfold eDisp at q
 cases ef : f (ts.map TL.er) with
 | no => rw [ef] at q; exact q
 | ex E s1 => rw [ef] at q; exact q
 | ok rs s1 =>
  rw [ef] at q
  intro H1 ts1 tvs vs e1 e2 hv C1
  subst e1 e2
  dsimp only at q
  cases ev : vals (tvs.map TV.er) with
  | none => rw [ev] at q; exact q.elim
  | some l =>
   rw [ev] at q
   obtain ⟨ch, c1, c2, c3⟩ := Z663 ev hv
   subst c2 c3
   rw [c1] at C1
   dsimp only at q
   by_cases hz : (T.ers ch).length ≤ sizeLine
   ·rw [if_pos hz] at q
    refine ⟨by rw [Z88] at hz; simpa using hz, fun p hp => ?_⟩
    exact q _ ts1 (.val (.nd p k ch)) (.ref p) rfl rfl rfl (C1.wrap hp (hk H1 p _) hko)
   ·rw [if_neg hz] at q; exact q.elim
theorem Z480 {es : List Expr} {x1} {pos : Pos} {f : AF} (h : PA X es (lA R ix f)) : PE X (.Tuple es x1 pos) (lE R ix (eDisp .tup f)) := peM (Z420 h) fun σ H Q q => Z263 (k := .tup) (o := HO.tup) rfl (fun _ _ _ => Z605) σ H Q q
theorem Z475 {es : List Expr} {pos : Pos} {f : AF} (h : PA X es (lA R ix f)) : PE X (.List es pos) (lE R ix (eDisp (.lst true) f)) := peM (Z412 h) fun σ H Q q => Z263 (k := .lst true) (o := HO.lst) rfl (fun _ _ _ => Z605) σ H Q q
theorem Z469 {pos : Pos} : PE X (.Dict [] [] pos) (lE R ix (eDisp (.dic true []) aNil)) := peM Z404 fun σ H Q q => by
 obtain ⟨hd, ts, fr, C, q⟩ := q
 intro p hp
 refine q _ ts (.val (.nd p (.dic true []) [])) (.ref p) rfl rfl rfl (Cf.wrap (ch := []) C hp ⟨rfl, List.nodup_nil, Z605⟩)
theorem Z479 {pos : Pos} : PE X (.Dict [] [] pos) (lE R ix (eDisp (.dit true []) aNil)) := peM Z405 fun σ H Q q => by
 obtain ⟨hd, ts, fr, C, q⟩ := q
 intro p hp
 refine q _ ts (.val (.nd p (.dit true []) [])) (.ref p) rfl rfl rfl (Cf.wrap (ch := []) C hp ⟨rfl, List.nodup_nil, Z605⟩)

noncomputable def hPutF (C : Addr) (f : Str) : List D → Option Mu
 | [_, .nd (.ins true C' ns) l] => if C' = C ∧ l.length < 1000 then (match idx f ns with | some j => some (.set j 0) | none => some (.add (.ins true C (ns ++ [f])) 0)) else none
 | _ => none
theorem Z452 {f : Str} {v : V} : ∀ {ns : List Str} {vs : List V}, ns.length = vs.length → putF f v (ns.zip vs) = match idx f ns with | some j => ns.zip (vs.set j v) | none => (ns ++ [f]).zip (vs ++ [v])
 | [], [], _ => rfl
 | [], _ :: _, h => by simp at h
 | _ :: _, [], h => by simp at h
 | n :: ns, u :: vs, h => by
  have ih := Z452 (f := f) (v := v) (ns := ns) (vs := vs) (by simpa using h)
  unfold idx at *
  rw [List.zip_cons_cons, List.findIdx?_cons]
  cases e : n == f with
  | true =>
   rw [if_pos rfl]
   have : n = f := by simpa using e
   subst this
   simp [putF]
  | false =>
   rw [if_neg Bool.false_ne_true]
   have hne : ¬ n = f := by simpa using e
   have : putF f v ((n, u) :: ns.zip vs) = (n, u) :: putF f v (ns.zip vs) := by simp [putF, hne]
   rw [this, ih]
   cases ns.findIdx? (· == f) <;> rfl
theorem Z501 {C : Addr} {f : Str} {o value : Expr} {pos pos' : Pos} {fo fv : EF} (c : Cls K C) (n : NoAttr K C f) (ho : PE X o (lE R ix fo)) (hv : PE X value (lE R ix fv)) (hs : swapsWith value (some (.Attribute o f pos')) pos.line X.env = pure false := by rfl) (hK : X.K = K := by rfl) :
  PS X (.Assign [.Attribute o f pos'] value pos) (lS R ix (sE (eMu 1 (hPutF C f) (aCons fv (aCons fo aNil))))) := psM (Z440 c n ho hv hs hK) fun D σ H h => by
 have h1 := lA_2 (lA_mu σ H (fun _ H1 => D.nx σ H1) (lS_e D σ H h))
 refine Z271 (fun y H1 q => Z271 (fun x H2 q => ?_) q) h1
 obtain ⟨l, ok, hvl, a, kd, ch, op, hl, hm, hh, q⟩ := q
 obtain ⟨tv, to, rfl, rfl, rfl⟩ := map2 hvl
 cases hl
 simp only [T.ers, T.er] at hh
 cases kd with
 | ins m C' ns =>
  cases m with
  | false => simp [hPutF] at hh
  | true =>
   simp only [hPutF] at hh
   split at hh
   case isFalse => cases hh
   case isTrue z =>
    obtain ⟨rfl, hlt⟩ := z
    obtain ⟨h1, dx, h2⟩ := ok.2.1.1
    rw [Z88] at hlt
    refine ⟨a, dx, _, rfl, h2, ?_, ?_⟩
    ·simp only [List.length_zip, List.length_map] at h1 ⊢; omega
    ·rw [Z452 h1]
     cases ei : idx f ns with
     | none =>
      rw [ei] at hh
      cases hh
      obtain ⟨x, hx, q⟩ := q
      cases hx
      refine q _ ⟨by simp at h1 ⊢; omega, dx, rfl⟩
     | some j =>
      rw [ei] at hh
      cases hh
      obtain ⟨x, hx, _, q⟩ := q
      cases hx
      exact q _ ⟨by simpa using h1, dx, rfl⟩
 | _ => simp [hPutF] at hh

noncomputable def hPutD : List D → Option Mu
 | [_, .nd (.dic true ks) l, k] => if l.length < sizeLine then (match keyD k with | some k => (match idk k ks with | some j => some (.set j 0) | none => some (.add (.dic true (ks ++ [k])) 0)) | none => none) else none
 | [_, .nd (.dit true ks) l, .nd .tup kl] => if l.length < sizeLine then (match keysD kl with | some k => (match idk k ks with | some j => some (.set j 0) | none => some (.add (.dit true (ks ++ [k])) 0)) | none => none) else none
 | _ => none
theorem Z453 {κ : Type} [DecidableEq κ] {k : κ} {v : V} : ∀ {ks : List κ} {vs : List V}, ks.length = vs.length → ks.Nodup → putK (ks.zip vs) k v = match idk k ks with | some j => ks.zip (vs.set j v) | none => (ks ++ [k]).zip (vs ++ [v]) := by
 intro ks vs hl hn
 cases e : idk k ks with
 | none =>
  have : valV (ks.zip vs) k = none := by rw [Z657 k hl, e]; rfl
  rw [Z454 v this]
  dsimp only
  rw [List.zip_append hl]; rfl
 | some j =>
  have hj := List.findIdx?_eq_some_iff_getElem.mp e
  obtain ⟨h1, h2, h3⟩ := hj
  have hk : ks[j] = k := by simpa using h2
  have hv : valV (ks.zip vs) k = some (vs[j]'(by omega)) := by
   rw [Z657 k hl, e]
   simp [show j < vs.length by omega]
  unfold putK
  rw [Z656, hv]
  simp only [Option.isSome_some, if_true]
  refine List.ext_getElem? fun i => ?_
  rw [List.getElem?_map, List.zip_eq_zipWith, List.zip_eq_zipWith, List.getElem?_zipWith, List.getElem?_zipWith, List.getElem?_set]
  by_cases hij : j = i
  ·subst hij
   rw [if_pos rfl, if_pos (by omega), List.getElem?_eq_getElem h1, List.getElem?_eq_getElem (show j < vs.length by omega)]
   simp [hk]
  ·rw [if_neg hij]
   cases e1 : ks[i]? with
   | none => rfl
   | some x =>
    cases e2 : vs[i]? with
    | none => rfl
    | some y =>
     have hx : x ≠ k := by
      rintro rfl
      obtain ⟨hi, rfl⟩ := List.getElem?_eq_some_iff.mp e1
      exact hij ((List.getElem_inj hn).mp hk)
     simp [hx]
theorem Z200 {κ : Type} [DecidableEq κ] {k : κ} {ks : List κ} (h : idk k ks = none) : k ∉ ks := fun z => by
 have := List.findIdx?_eq_none_iff.mp h k z
 simp at this
theorem Z455 {Q : Hp → Prop} {v d k : T} (hk : k.ok H) {a : Addr} {kd : NK} {ch : List T} {op : Mu} (hd : d = .nd a kd ch) (ok : (T.nd a kd ch).ok H) (hh : hPutD [v.er, (T.nd a kd ch).er, k.er] = some op)
  (q : match op with
   | .add kd' m => ∃ x, [v, d, k][m]? = some x ∧ ∀ o, HoOk o kd' (ch.map T.val ++ [x.val]) → Q (upd H a o)
   | .set j m => ∃ x, [v, d, k][m]? = some x ∧ j < ch.length ∧ ∀ o, HoOk o kd ((ch.map T.val).set j x.val) → Q (upd H a o)) : ∃ H4, DPut H a k.val v.val H4 ∧ Q H4 := by
 subst hd
 cases kd with
 | dic m ks =>
  cases m with
  | false => simp [T.er, hPutD] at hh
  | true =>
   simp only [T.er, hPutD] at hh
   split at hh
   case isFalse => cases hh
   case isTrue hz =>
    cases ek : keyD k.er with
    | none => rw [ek] at hh; cases hh
    | some key =>
     rw [ek] at hh
     obtain ⟨h1, h2, h3⟩ := ok.1
     have hzl : (ks.zip (ch.map T.val)).length < sizeLine := by
      rw [Z88] at hz
      simp only [List.length_zip]; simp only [List.length_map] at h1 ⊢; omega
     refine ⟨_, by rw [Z242 ek]; exact DPut.k h3 hzl, ?_⟩
     rw [Z453 h1 h2]
     dsimp only at hh
     cases ei : idk key ks with
     | none =>
      rw [ei] at hh
      cases hh
      obtain ⟨x, hx, q⟩ := q
      cases hx
      refine q _ ⟨by simp at h1 ⊢; omega, Z351 h2 (Z200 ei), rfl⟩
     | some j =>
      rw [ei] at hh
      cases hh
      obtain ⟨x, hx, _, q⟩ := q
      cases hx
      exact q _ ⟨by simpa using h1, h2, rfl⟩
 | dit m ks =>
  cases m with
  | false => cases k with
   | «at» u => simp [T.er, hPutD] at hh
   | nd b k' l => cases k' <;> simp [T.er, hPutD] at hh
  | true =>
   cases k with
   | «at» u => simp [T.er, hPutD] at hh
   | nd b k' kl =>
    cases k' with
    | tup =>
     simp only [T.er, hPutD] at hh
     split at hh
     case isFalse => cases hh
     case isTrue hz =>
      cases ek : keysD (T.ers kl) with
      | none => rw [ek] at hh; cases hh
      | some key =>
       rw [ek] at hh
       obtain ⟨h1, h2, h3⟩ := ok.1
       have hzl : (ks.zip (ch.map T.val)).length < sizeLine := by
        rw [Z88] at hz
        simp only [List.length_zip]; simp only [List.length_map] at h1 ⊢; omega
       refine ⟨_, DPut.t h3 (show H b = some (.tup (key.map kV)) by rw [← Z251 ek]; exact hk.1) hzl, ?_⟩
       rw [Z453 h1 h2]
       dsimp only at hh
       cases ei : idk key ks with
       | none =>
        rw [ei] at hh
        cases hh
        obtain ⟨x, hx, q⟩ := q
        cases hx
        refine q _ ⟨by simp at h1 ⊢; omega, Z351 h2 (Z200 ei), rfl⟩
       | some j =>
        rw [ei] at hh
        cases hh
        obtain ⟨x, hx, _, q⟩ := q
        cases hx
        exact q _ ⟨by simpa using h1, h2, rfl⟩
    | _ => simp [T.er, hPutD] at hh
 | _ => cases k with
  | «at» u => simp [T.er, hPutD] at hh
  | nd b k' l => cases k' <;> simp [T.er, hPutD] at hh
theorem Z500 {o i value : Expr} {pos pos' : Pos} {fo fi fv : EF} (hu : X.A.units + 1 < cLine) (ho : PE X o (lE R ix fo)) (hi : PE X i (lE R ix fi)) (hv : PE X value (lE R ix fv)) (hs : swapsWith value (some (.Subscript o i pos')) pos.line X.env = pure false := by rfl) :
  PS X (.Assign [.Subscript o i pos'] value pos) (lS R ix (sE (eMu 1 hPutD (aCons fv (aCons fo (aCons fi aNil)))))) := psM (Z438 hu ho hi hv hs) fun D σ H h => by
 have h1 := lA_3 (lA_mu σ H (fun _ H1 => D.nx σ H1) (lS_e D σ H h))
 refine Z271 (fun v H1 q => Z271 (fun x H2 q => Z271 (fun y H3 q => ?_) q) q) h1
 obtain ⟨l, ok, hvl, a, kd, ch, op, hl, hm, hh, qq⟩ := q
 obtain ⟨tv, r, rfl, e1⟩ : ∃ t r, l = t :: r ∧ r.map T.val = [x, y] := by
  cases l with
  | nil => cases hvl
  | cons t r => exact ⟨t, r, rfl, (List.cons.inj hvl).2⟩
 obtain ⟨td, tk, rfl, rfl, rfl⟩ := map2 e1
 cases (List.cons.inj hvl).1
 cases hl
 obtain ⟨H4, p1, p2⟩ := Z455 (Q := fun H1 => D.nx σ H1) (v := tv) (k := tk) ok.2.2.1 rfl ok.2.1 hh (by cases op <;> exact qq)
 exact ⟨a, H4, rfl, p1, p2⟩

noncomputable def isLst : D → Bool
 | .nd (.lst _) _ => true | _ => false
noncomputable def hApp : List D → Option Mu
 | [.nd (.lst true) l, _] => if l.length < sizeLine then some (.add (.lst true) 1) else none
 | _ => none
theorem Z465 {o e : Expr} {apos cpos : Pos} {fo fe : EF} (ho : PE X o (lE R ix fo)) (he : PE X e (lE R ix fe)) (hbase : attributeBase o "append" X.env (eval o X.env) = eval o X.env := by rfl)
  (hfew : ((backTo cpos (starEach [e] X.env)).all (fun x => !x.1) && (backToKw cpos (keywordEach [] X.env)).all (fun x => x.1.isSome) && decide ([e].length + ([] : List Keyword).length + (if ([] : List Keyword).isEmpty then 0 else 1) < 30)) = true := by rfl)
  (hline : (apos.endLine == cpos.line) = true := by rfl) (hs : starEach [e] X.env = (false, eval e X.env) :: starEach [] X.env := by rfl) (hplain : (backTo cpos (starEach [] X.env)).any (·.1) = false := by rfl) :
  PE X (.Call (.Attribute o "append" apos) [e] [] cpos) (lE R ix (eMu 0 hApp (aCons (eGuard isLst fo) (aCons fe aNil)))) :=
 peM (pe_bm PySem.F.plainAttrs_list PySem.F.slot_list_append PySem.F.type_list_append Z334 ho (Z393 he Z394 hs) hbase hfew hline hs hplain) fun σ H Q q => by
  have q1 := lA_2 (lA_mu σ H Q q)
  refine Z271 (fun x H1 q => ?_) (Z270 q1)
  obtain ⟨⟨t0, rfl, t2, t3⟩, q⟩ := q
  obtain ⟨a, k, ch, rfl, hD⟩ : ∃ a m ch, t0 = .nd a (.lst m) ch ∧ SqL X.K H1 a (ch.map T.val) := by
   cases t0 with
   | «at» v => simp [T.er, isLst] at t3
   | nd a k ch => cases k with
    | lst m => exact ⟨a, m, ch, rfl, t2.1.sqL⟩
    | _ => simp [T.er, isLst] at t3
  refine ⟨.inl ⟨rfl, _, hD⟩, Z271 (fun y H2 q => ?_) q⟩
  obtain ⟨l, ok, hvl, a', kd, ch', op, hl, hm, hh, q⟩ := q
  obtain ⟨tl, te, rfl, e1, rfl⟩ := map2 hvl
  cases hl
  cases e1
  simp only [T.ers, T.er] at hh
  cases kd with
  | lst m =>
   cases m with
   | false => simp [hApp] at hh
   | true =>
    simp only [hApp] at hh
    split at hh
    case isFalse => cases hh
    case isTrue hz =>
     cases hh
     obtain ⟨x, hx, q⟩ := q
     cases hx
     exact ⟨a, ch'.map T.val, te.val, rfl, rfl, ok.1.1, by rw [Z88] at hz; simpa using hz, q _ rfl⟩
  | _ => simp [hApp] at hh
end
end RM
namespace RM
open PySem PySem.Spec PyProof.Rows L2
theorem Z515 {X : Cx} {R : RC} {ix : List Nat} {a b : Expr} {op : CmpOp} {pos : Pos} {h : List D → Option D} {fa fb : EF} (ho : OpR X (compareOp op) (oNw h)) (ha : PE X a (lE R ix fa)) (hb : PE X b (lE R ix fb)) (hm : behindInMarks op b = false) : PT X (.Compare a [op] [b] pos) (lT R ix (bV (eNw h (aCons fa (aCons fb aNil))))) :=
 ptM (Z449 ho ha hb hm) fun σ H Q q => lA_2 (lA_nw σ H _ (lT_v σ H Q q))
end RM
set_option Elab.async false
set_option linter.all false
set_option maxRecDepth 100000

namespace RM
open PySem PySem.Spec PyProof.Rows L2
noncomputable def augGo (k : Nat) (p : List Nat) (sel : D → Option Nat) (g : Int → Int → Int) (fe : EF) (s1 : Sd) : SR := match dref s1 (.plc k p), s1[k]? with
 | some (.nd kd l), some (.own true _) => (match sel (.nd kd l) with
  | some j => (match l[j]? with
   | some (.at (.int x)) => (match fe (s1 ++ [.bor k p]) with
    | .ok (.val (.at (.int y))) s2 => (match unh s1.length k p s2 with
     | some s3 => (match dref s3 (.plc k p), s3[k]? with
      | some (.nd kd' l'), some (.own true _) => (match sel (.nd kd' l') with
       | some j' => if kd'.mut = true ∧ j' < l'.length then .nx (wr s3 k p (.nd kd' (l'.set j' (.at (.int (g x y))))) fun i => i != j') else .no
       | none => .no)
      | _, _ => .no)
     | none => .no)
    | .ok _ _ => .no
    | .ex C s2 => (match unx s1.length s2 with | some s3 => .ex C s3 | none => .no)
    | .no => .no)
   | _ => .no)
  | none => .no)
 | _, _ => .no
noncomputable def selF (C : Addr) (f : Str) : D → Option Nat
 | .nd (.ins true C' ns) l => if C' = C ∧ l.length < 1000 then idx f ns else none
 | _ => none
noncomputable def selI (i : Int) : D → Option Nat
 | .nd (.lst true) l => if 0 ≤ i ∧ i < l.length then some i.toNat else none
 | _ => none
noncomputable def sAugF (C : Addr) (f : Str) (g : Int → Int → Int) (fo fe : EF) : SF := fun s => match fo s with
 | .ok (.plc k p) s1 => augGo k p (selF C f) g fe s1
 | .ok _ _ => .no
 | .ex C s1 => .ex C s1
 | .no => .no
noncomputable def sAugI (g : Int → Int → Int) (fo fi fe : EF) : SF := fun s => match aCons fo (aCons fi aNil) s with
 | .ok [.plc k p, .val (.at (.int i))] s1 => augGo k p (selI i) g fe s1
 | .ok _ _ => .no
 | .ex C s1 => .ex C s1
 | .no => .no
section
variable {X : Cx} {R : RC} {ix : List Nat} {hd : List (Nat × Addr)} {H H' : Hp} {σ : L2.St} {K : PySem.W.Frag} {ts : Ts} {fr : List T}
end
end RM
set_option Elab.async false
set_option linter.all false
set_option maxRecDepth 100000
namespace RM
open PySem PySem.Spec PyProof.Rows L2
section
variable {X : Cx} {R : RC} {ix : List Nat} {hd : List (Nat × Addr)} {H H' : Hp} {σ : L2.St} {K : PySem.W.Frag} {ts : Ts} {fr : List T}
theorem Cf.fill {p : Addr} {kd kd' : NK} {l l' m : List T} {x : List Addr} {o : HO} (C : Cf R ix hd H σ ts (.nd p kd l :: (m ++ fr))) (hm : kd.mut = true) (hm' : kd'.mut = true) (ho : NodeOk (upd H p o) p kd' (l'.map T.val)) (hl : ∀ t ∈ l', t.ok H) (hown : (T.owns l ++ T.owns m).Perm (T.owns l' ++ x)) (hro : ∀ a ∈ T.ros l', a ∈ T.ros l ∨ a ∈ T.ros m) : Cf R ix hd (upd H p o) σ ts (.nd p kd' l' :: fr) := by
 have eo : T.owns (.nd p kd l :: (m ++ fr)) = p :: (T.owns l ++ (T.owns m ++ T.owns fr)) := by rw [T.owns_cons, T.own, hm, T.owns_app]; simp
 have er : T.ros (.nd p kd l :: (m ++ fr)) = T.ros l ++ (T.ros m ++ T.ros fr) := by rw [T.ros_cons, T.ro, hm, T.ros_app]; simp
 have eo' : T.owns (.nd p kd' l' :: fr) = p :: (T.owns l' ++ T.owns fr) := by rw [T.owns_cons, T.own, hm']; simp
 have er' : T.ros (.nd p kd' l' :: fr) = T.ros l' ++ T.ros fr := by rw [T.ros_cons, T.ro, hm']; simp
 have nd := C.nd
 rw [eo] at nd
 have pm : (ownS ts ++ p :: (T.owns l ++ (T.owns m ++ T.owns fr))).Perm ((ownS ts ++ p :: (T.owns l' ++ T.owns fr)) ++ x) := by
  refine List.perm_iff_count.mpr fun b => ?_
  have := List.perm_iff_count.mp hown b
  simp only [List.count_append, List.count_cons] at this ⊢; omega
 have nd2 := List.nodup_append.mp (pm.nodup_iff.mp nd)
 have n1 := List.nodup_append.mp nd
 have n2 := List.nodup_cons.mp n1.2.1
 have pS : p ∉ ownS ts := fun z => n1.2.2 p z p List.mem_cons_self rfl
 have pro : ∀ a, a ∈ roS ts ∨ a ∈ T.ros l ++ (T.ros m ++ T.ros fr) → a ≠ p := fun a z e => by
  have := (C.sep a (by rw [er]; exact z)).2.1
  rw [eo, e] at this
  exact this List.mem_cons_self
 have prd : ∀ a, a ∈ rdS ts → a ≠ p := fun a z e => by
  have := (C.rd a z).2
  rw [eo, e] at this
  exact this List.mem_cons_self
 have sub : ∀ a, a ∈ p :: (T.owns l' ++ T.owns fr) → a ∈ p :: (T.owns l ++ (T.owns m ++ T.owns fr)) := fun a z => by
  rcases List.mem_cons.mp z with rfl | z
  ·exact List.mem_cons_self
  ·refine List.mem_cons_of_mem _ ?_
   rcases List.mem_append.mp z with z | z
   ·have := hown.mem_iff.mpr (List.mem_append_left x z)
    simp only [List.mem_append] at this ⊢
    rcases this with z | z <;> simp [z]
   ·simp [z]
 have fok := C.fok
 have ffr := (T.oks_app.mp fok.2).2
 refine ⟨fun w t z => T.keep (C.ok w t z) fun a q => Z604 ?_, ⟨⟨ho, T.oks_iff.mpr fun t ht => T.keep (hl t ht) fun a q => Z604 ?_⟩, T.keeps ffr fun a q => Z604 ?_⟩, ?_, fun a z => ?_, fun a z => ?_, fun a z => ?_, C.bg, C.bor, C.ixs, C.sl, C.hdi, C.hdx, C.len, C.hdn⟩
 ·rintro rfl
  rcases q with q | q
  ·cases w with
   | true => exact pS (Z324.mpr ⟨t, z, q⟩)
   | false => exact prd a (Z326.mpr ⟨t, z, q⟩) rfl
  ·exact pro a (.inl (Z327.mpr ⟨w, t, z, q⟩)) rfl
 ·rintro rfl
  rcases q with q | q
  ·have := hown.mem_iff.mpr (List.mem_append_left x (T.mem_owns.mpr ⟨t, ht, q⟩))
   apply n2.1
   simp only [List.mem_append] at this ⊢
   rcases this with z | z <;> simp [z]
  ·refine pro a (.inr ?_) rfl
   have := hro a (T.mem_ros.mpr ⟨t, ht, q⟩)
   simp only [List.mem_append]
   rcases this with z | z <;> simp [z]
 ·rintro rfl
  rcases q with q | q
  ·exact n2.1 (by simp [q])
  ·exact pro a (.inr (by simp [q])) rfl
 ·rw [eo']; exact nd2.1
 ·rw [eo']
  rw [er'] at z
  have : a ∈ roS ts ∨ a ∈ T.ros (.nd p kd l :: (m ++ fr)) := by
   rw [er]
   simp only [List.mem_append] at z ⊢
   rcases z with z | z | z
   ·exact .inl z
   ·rcases hro a z with z | z <;> simp [z]
   ·simp [z]
  obtain ⟨s1, s2, s3⟩ := C.sep a this
  rw [eo] at s2
  exact ⟨s1, fun q => s2 (sub a q), s3⟩
 ·rw [eo']
  obtain ⟨s1, s2⟩ := C.rd a z
  rw [eo] at s2
  exact ⟨s1, fun q => s2 (sub a q)⟩
 ·rw [eo']
  obtain ⟨g1, g2, g3, g4⟩ := C.g a z
  rw [eo] at g4
  have : a ≠ p := by rintro rfl; exact g4 List.mem_cons_self
  rw [Z604 this]
  exact ⟨g1, g2, g3, fun q => g4 (sub a q)⟩

noncomputable def pairsA : List (EF × EF) → AF
 | [] => aNil
 | (k, v) :: r => aCons k (aCons v (pairsA r))
noncomputable def kvD : List D → Option (List Key × List D)
 | [] => some ([], [])
 | k :: v :: r => (match keyD k, kvD r with | some k, some (ks, vs) => some (k :: ks, v :: vs) | _, _ => none)
 | [_] => none
noncomputable def eDict (fs : List (EF × EF)) : EF := fun s => match pairsA fs s with
 | .ok rs s1 => (match vals rs with
  | some l => (match kvD l with | some (ks, vs) => if ks.Nodup ∧ ks.length ≤ 15 then .ok (.val (.nd (.dic true ks) vs)) s1 else .no | none => .no)
  | none => .no)
 | .ex C s1 => .ex C s1
 | .no => .no
end
end RM
set_option Elab.async false
set_option linter.all false
set_option maxRecDepth 100000
namespace RM
open PySem PySem.Spec PyProof.Rows L2
section
variable {X : Cx} {R : RC} {ix : List Nat} {hd : List (Nat × Addr)} {H H' : Hp} {σ : L2.St} {K : PySem.W.Frag} {ts : Ts} {fr : List T}

noncomputable def eAppT (f : AF) : EF := fun s => match f s with
 | .ok [.val (.nd (.lst true) l), .val _] s1 => if l.length < sizeLine then .ok (.val (.at .non)) s1 else .no
 | .ok _ _ => .no
 | .ex C s1 => .ex C s1
 | .no => .no

noncomputable def killN (j : Nat) (s : Sd) : Sd := (s.map (unrootD j)).set j .non
theorem Cf.killN {i j : Nat} (C : Cf R ix hd H σ ts fr) (hix : ix[i]? = some j) : Cf R ix hd H σ ((ts.map (unrootT j)).set j .non) fr := by
 have hj : j < ts.length := C.ixs j (List.mem_of_getElem? hix)
 obtain ⟨y0, hy0⟩ : ∃ y0, ts[j]? = some y0 := ⟨ts[j], List.getElem?_eq_getElem hj⟩
 have hy0' : (ts.map (unrootT j))[j]? = some (unrootT j y0) := by rw [List.getElem?_map, hy0]; rfl
 obtain ⟨x1, z1, o1, o2⟩ := Z160 (f := TL.own1) hy0'
 obtain ⟨x2, z2, r1, r2⟩ := Z160 (f := TL.ro1) hy0'
 obtain ⟨x3, z3, d1, d2⟩ := Z160 (f := TL.rd1) hy0'
 rw [Z602 (by intros; rfl)] at o1 r1 d1
 have fO : ownS ts = x1 ++ ((unrootT j y0).own1 ++ z1) := o1
 have fR : roS ts = x2 ++ ((unrootT j y0).ro1 ++ z2) := r1
 have fD : rdS ts = x3 ++ ((unrootT j y0).rd1 ++ z3) := d1
 have gO : ownS ((ts.map (unrootT j)).set j .non) = x1 ++ z1 := by unfold ownS; rw [o2]; rfl
 have gR : roS ((ts.map (unrootT j)).set j .non) = x2 ++ z2 := by unfold roS; rw [r2]; rfl
 have gD : rdS ((ts.map (unrootT j)).set j .non) = x3 ++ z3 := by unfold rdS; rw [d2]; rfl
 have s1 : ∀ a, a ∈ x1 ++ z1 → a ∈ ownS ts := fun a z => by rw [fO]; simp only [List.mem_append] at z ⊢; rcases z with z | z <;> simp [z]
 have s2 : ∀ a, a ∈ x2 ++ z2 → a ∈ roS ts := fun a z => by rw [fR]; simp only [List.mem_append] at z ⊢; rcases z with z | z <;> simp [z]
 have s3 : ∀ a, a ∈ x3 ++ z3 → a ∈ rdS ts := fun a z => by rw [fD]; simp only [List.mem_append] at z ⊢; rcases z with z | z <;> simp [z]
 have slot : ∀ (j' : Nat) (s : TL), ((ts.map (unrootT j)).set j .non)[j']? = some s → (j' = j ∧ s = .non) ∨ (j' ≠ j ∧ ∃ s0, ts[j']? = some s0 ∧ s = unrootT j s0) := by
  intro j' s hs
  rw [List.getElem?_set] at hs
  by_cases h : j = j'
  ·subst h
   rw [if_pos rfl, if_pos (by simpa using hj)] at hs
   cases hs; exact .inl ⟨rfl, rfl⟩
  ·rw [if_neg h, List.getElem?_map] at hs
   cases e : ts[j']? with
   | none => rw [e] at hs; cases hs
   | some s0 => rw [e] at hs; cases hs; exact .inr ⟨Ne.symm h, s0, rfl, rfl⟩
 have vv : ∀ (j' : Nat) (s : TL) (v : V), ((ts.map (unrootT j)).set j .non)[j']? = some s → s.v = some v → ∃ s0, ts[j']? = some s0 ∧ s0.v = some v := by
  intro j' s v hs hv
  rcases slot j' s hs with ⟨rfl, rfl⟩ | ⟨_, s0, h0, rfl⟩
  ·cases hv
  ·refine ⟨s0, h0, ?_⟩
   rcases Z600 (j := j) s0 with ⟨e', _⟩ | ⟨e', _⟩
   ·rwa [e'] at hv
   ·rw [e'] at hv; cases hv
 have lenS : ((ts.map (unrootT j)).set j TL.non).length = ts.length := by simp
 refine ⟨fun w u hu => ?_, C.fok, ?_, fun b z => ?_, fun b z => ?_, fun b z => ?_, C.bg, fun j' k q b hj' => ?_, fun j' hj' => by rw [lenS]; exact C.ixs j' hj', fun i' j' s u h1 h2 h3 => ?_, fun j' b hb => by rw [lenS]; exact C.hdi j' b hb, C.hdx, C.len, fun j' b hb s u h2 h3 => ?_⟩
 ·obtain ⟨j', hj'⟩ := List.mem_iff_getElem?.mp hu
  rcases slot j' _ hj' with ⟨rfl, e⟩ | ⟨_, s0, h0, e⟩
  ·cases e
  ·rcases Z600 (j := j) s0 with ⟨e', _⟩ | ⟨e', _⟩
   ·rw [e'] at e; subst e; exact C.ok w u (List.mem_of_getElem? h0)
   ·rw [e'] at e; cases e
 ·rw [gO]
  have nd := C.nd
  rw [fO] at nd
  have pm : ((x1 ++ ((unrootT j y0).own1 ++ z1)) ++ T.owns fr).Perm ((x1 ++ z1 ++ T.owns fr) ++ (unrootT j y0).own1) := by
   refine List.perm_iff_count.mpr fun b => ?_
   simp only [List.count_append]; omega
  exact (List.nodup_append.mp (pm.nodup_iff.mp nd)).1
 ·rw [gO]
  obtain ⟨q1, q2, q3⟩ := C.sep b (z.imp (fun z => s2 b (by rwa [gR] at z)) id)
  exact ⟨fun q => q1 (s1 b q), q2, q3⟩
 ·rw [gO]
  rw [gD] at z
  obtain ⟨q1, q2⟩ := C.rd b (s3 b z)
  exact ⟨fun q => q1 (s1 b q), q2⟩
 ·rw [gO]
  obtain ⟨g1, g2, g3, g4⟩ := C.g b z
  exact ⟨g1, g2, fun q => g3 (s1 b q), g4⟩
 ·rcases slot j' _ hj' with ⟨rfl, e⟩ | ⟨_, s0, h0, e⟩
  ·cases e
  ·rcases Z600 (j := j) s0 with ⟨e', hne⟩ | ⟨e', _⟩
   ·rw [e'] at e
    subst e
    obtain ⟨w, u, s, q1, q2, q3⟩ := C.bor j' k q b h0
    have hk : k ≠ j := fun z => hne q b (by rw [z])
    exact ⟨w, u, s, by rw [List.getElem?_set, if_neg (Ne.symm hk), List.getElem?_map, q1]; rfl, q2, q3⟩
   ·rw [e'] at e; cases e
 ·obtain ⟨s0, q1, q2⟩ := vv j' s u h2 h3
  exact C.sl i' j' s0 u h1 q1 q2
 ·obtain ⟨s0, q1, q2⟩ := vv j' s u h2 h3
  exact C.hdn j' b hb s0 u q1 q2
noncomputable def kills (js : List Nat) (s : Sd) : Sd := js.foldl (fun s j => killN j s) s
theorem Cf.kills {js : List Nat} : ∀ {ts : Ts}, (∀ j ∈ js, j ∈ ix) → Cf R ix hd H σ ts fr → ∃ ts', ts'.map TL.er = RM.kills js (ts.map TL.er) ∧ Cf R ix hd H σ ts' fr := by
 induction js with
 | nil => intro ts _ C; exact ⟨ts, rfl, C⟩
 | cons j js ih =>
  intro ts h C
  obtain ⟨i, hi⟩ := List.mem_iff_getElem?.mp (h j List.mem_cons_self)
  obtain ⟨ts', e, C'⟩ := ih (fun x z => h x (List.mem_cons_of_mem _ z)) (C.killN hi)
  refine ⟨ts', ?_, C'⟩
  rw [e]
  show RM.kills js _ = RM.kills js (RM.killN j (ts.map TL.er))
  congr 1
  unfold RM.killN
  rw [List.map_set, List.map_map, List.map_map]
  exact congrArg (fun l => List.set l j DL.non) (List.map_congr_left fun s _ => Z601 s)
noncomputable def sKill (js : List Nat) (f : SF) : SF := fun s => match f s with
 | .nx s1 => .nx (kills js s1)
 | .ct s1 => .ct (kills js s1)
 | .bk s1 => .bk (kills js s1)
 | r => r
theorem Z512 {js : List Nat} {sts : List Stmt} {f : SF} (hj : ∀ j ∈ js, j ∈ ix) (h : PSs X sts (lS R ix f)) : PSs X sts (lS R ix (sKill js f)) := pssM h fun D σ H q => by
 obtain ⟨hd, ts, fr, C, q⟩ := q
 refine ⟨hd, ts, fr, C, ?_⟩
 unfold sKill at q
 cases ef : f (ts.map TL.er) with
 | nx s => rw [ef] at q; intro H' σ' ts' e C'; subst e; obtain ⟨t2, e2, C2⟩ := C'.kills hj; exact q H' σ' t2 e2 C2
 | ct s => rw [ef] at q; intro H' σ' ts' e C'; subst e; obtain ⟨t2, e2, C2⟩ := C'.kills hj; exact q H' σ' t2 e2 C2
 | bk s => rw [ef] at q; intro H' σ' ts' e C'; subst e; obtain ⟨t2, e2, C2⟩ := C'.kills hj; exact q H' σ' t2 e2 C2
 | rt r s => rw [ef] at q; exact q
 | ex E s => rw [ef] at q; exact q
 | no => rw [ef] at q; exact q

noncomputable def Scr (K : PySem.W.Frag) (k : NK) : Prop := k = .lst false ∨ k = .kst K
noncomputable def scD (k : NK) (ns : List Int) : D := .nd k (ns.map fun n => .at (.int n))
noncomputable def spLaw (K : PySem.W.Frag) : Sp := fun vs H Q _ => ∃ (a : Addr) (ns : List Int), vs = [.ref a] ∧ SqL K H a (ns.map V.int) ∧ ns.length ≤ 63 ∧ ∀ H', Q (.bl true) H'
theorem Z562 {a : Addr} {ns : List Int} {E : XK} (hl : ns.length ≤ 63) (hS : SqL K H a (ns.map V.int)) : spLaw K [.ref a] H (fun v _ => v = .bl true) E := ⟨a, ns, rfl, hS, hl, fun _ => rfl⟩
theorem Z288 {ad : Str → Addr} {fn : Fn} (h : ∀ k ns, Scr K k → ns.length ≤ 63 → ∃ ds, fn [scD k ns] = .ok (.val (.at (.bl true))) ds) {vs : List V} {Q : VK} {E : XK} (q : spLaw K vs H Q E) : spR ad [false] fn vs H Q E := by
 obtain ⟨a, ns, rfl, hS, hl, q⟩ := q
 have main : ∀ k, Scr K k → NodeOk H a k (ns.map V.int) → spR ad [false] fn [.ref a] H Q E := by
  intro k hk hn
  obtain ⟨ds, e⟩ := h k ns hk hl
  have vm : (ns.map fun n => T.at (.int n)).map T.val = ns.map V.int := by rw [List.map_map]; rfl
  have em : T.ers (ns.map fun n => T.at (.int n)) = ns.map fun n => D.at (.int n) := by rw [T.ers_eq, List.map_map]; rfl
  refine ⟨[.nd a k (ns.map fun n => .at (.int n))], fun _ => False, rfl, ⟨rfl, ⟨⟨by rw [vm]; exact hn, T.oks_iff.mpr fun t ht => ?_⟩, trivial⟩, List.nodup_nil, fun b _ => ⟨by simp [selM, T.owns], fun z => z⟩, fun b _ => by simp [selM, T.owns], fun b z => z.elim⟩, ?_⟩
  ·obtain ⟨n, _, rfl⟩ := List.mem_map.mp ht; trivial
  ·have : T.ers [T.nd a k (ns.map fun n => .at (.int n))] = [scD k ns] := by simp only [T.ers, T.er, em, scD]
   rw [this, e]
   intro H' l' rt v _ e2 hr _
   cases rt with
   | arg _ _ _ => cases e2
   | val t =>
    simp only [RT.er, RV.val.injEq] at e2
    have := er_at e2 rfl
    subst this
    cases hr
    exact q H'
 rcases hS with hS | hS
 ·exact main (.lst false) (.inl rfl) hS
 ·exact main (.kst K) (.inr rfl) hS
theorem DefX.imp {P : Program} {w : World} {mg : Str → Option Value} {base : Heap} {x : Str} {k : Nat} {ps : List Str} {sp sp' : Sp} (D : DefX P w K mg base x k ps sp) (h : ∀ vs H Q E, sp' vs H Q E → sp vs H Q E) : DefX P w K mg base x k ps sp' := by
 obtain ⟨f, fd, G, rest⟩ := D.ex
 exact ⟨f, fd, G.imp h, rest⟩
end
end RM
set_option Elab.async false
set_option linter.all false
set_option maxRecDepth 100000

namespace RM
open PySem PySem.Spec PyProof.Rows L2
mutual
noncomputable def toDt : D → Option Dt
 | .at .non => some .non
 | .at (.bl b) => some (.bl b)
 | .at (.int i) => some (.int i)
 | .at (.str x) => some (.str x)
 | .at _ => none
 | .nd (.lst true) l => if l.length < sizeLine then (match toDts l with | some r => some (.lst r) | none => none) else none
 | .nd .tup l => if l.length < sizeLine then (match toDts l with | some r => some (.tup r) | none => none) else none
 | .nd _ _ => none
noncomputable def toDts : List D → Option (List Dt)
 | [] => some []
 | d :: l => match toDt d, toDts l with | some x, some r => some (x :: r) | _, _ => none
end
mutual
theorem Z482 {H : Hp} : ∀ {t : T} {d : Dt}, t.ok H → toDt t.er = some d → RelD H d t.val
 | .at v, d, _, h => by
  cases v <;> simp only [T.er, cl, toDt, Option.some.injEq, reduceCtorEq] at h <;> (subst h; rfl)
 | .nd a k l, d, ok, h => by
  cases k with
  | lst m =>
   cases m with
   | false => simp [T.er, toDt] at h
   | true =>
    simp only [T.er, toDt] at h
    split at h
    case isFalse => cases h
    case isTrue hz =>
     cases e : toDts (T.ers l) with
     | none => rw [e] at h; cases h
     | some r =>
      rw [e] at h
      cases h
      refine ⟨a, l.map T.val, rfl, ok.1, ?_, Z483 ok.2 e⟩
      rw [T.ers_eq, List.length_map] at hz
      simpa using hz
  | tup =>
   simp only [T.er, toDt] at h
   split at h
   case isFalse => cases h
   case isTrue hz =>
    cases e : toDts (T.ers l) with
    | none => rw [e] at h; cases h
    | some r =>
     rw [e] at h
     cases h
     refine ⟨a, l.map T.val, rfl, ok.1, ?_, Z483 ok.2 e⟩
     rw [T.ers_eq, List.length_map] at hz
     simpa using hz
  | _ => simp [T.er, toDt] at h
theorem Z483 {H : Hp} : ∀ {l : List T} {r : List Dt}, T.oks H l → toDts (T.ers l) = some r → RelDs H r (l.map T.val)
 | [], r, _, h => by simp only [T.ers, toDts, Option.some.injEq] at h; subst h; trivial
 | t :: l, r, ok, h => by
  simp only [T.ers, toDts] at h
  cases e1 : toDt t.er with
  | none => simp [e1] at h
  | some x =>
   cases e2 : toDts (T.ers l) with
   | none => simp [e1, e2] at h
   | some r' =>
    simp only [e1, e2, Option.some.injEq] at h
    subst h
    exact ⟨Z482 ok.1 e1, Z483 ok.2 e2⟩
end
noncomputable def sameF (n : Nat) : Fn
 | [a, b] => match toDt a, toDt b with | some d, some d' => if d'.dep ≤ n then .ok (.val (.at (.bl (Dt.eq d d')))) [a, b] else .no | _, _ => .no
 | _ => .no
theorem Z535 {ad : Str → Addr} {n : Nat} {vs : List V} {H : Hp} {Q : VK} {E : XK} (h : spR ad [false, false] (sameF n) vs H Q E) : ∃ (x y : V) (d d' : Dt), vs = [x, y] ∧ RelD H d x ∧ RelD H d' y ∧ d'.dep ≤ n ∧ ∀ H', Same H H' → Q (.bl (Dt.eq d d')) H' := by
 obtain ⟨l, B, rfl, en, h⟩ := h
 have hl : l.length = 2 := en.len.symm
 match l, hl, en, h with
 | [t, u], _, en, h =>
  simp only [T.ers, sameF] at h
  cases e1 : toDt t.er with
  | none => simp only [e1] at h
  | some d =>
   cases e2 : toDt u.er with
   | none => simp only [e1, e2] at h
   | some d' =>
    simp only [e1, e2] at h
    by_cases hd : d'.dep ≤ n
    case neg => rw [if_neg hd] at h; exact h.elim
    rw [if_pos hd] at h
    refine ⟨t.val, u.val, d, d', rfl, Z482 en.ok.1 e1, Z482 en.ok.2.1 e2, hd, fun H' sm => ?_⟩
    refine h H' [t, u] (.val (.at (.bl (Dt.eq d d')))) _ rfl rfl rfl ⟨rfl, rfl, trivial, ⟨trivial, trivial⟩, by simp [selM, T.owns, RT.tr, T.own], fun a z => ?_, fun a z => ?_, fun a hn _ => ?_⟩
    ·simp [selM, T.owns, RT.tr, T.own] at z
    ·simp [selM, T.ros, RT.tr, T.ro] at z
    ·cases e : H a with
     | none => exact absurd e hn
     | some o => exact sm a o e
end RM
namespace RM
open PySem PySem.Spec PyProof.Rows L2
end RM
namespace RM
open PySem PySem.Spec PyProof.Rows L2
section
variable {R : RC} {ix : List Nat} {X : Cx} {pos : Pos}
end
end RM
set_option Elab.async false
set_option linter.all false
set_option maxRecDepth 100000

namespace RM
open PySem PySem.Spec PyProof.Rows L2
section
variable {s : Sd} {f g : SF} {e e' : EF} {c d : BF} {a b : AF} {v : V} {j k : Nat} {p : List Nat}
theorem Z127 : sSeq f g s = (match f s with | .nx s1 => g s1 | r => r) := id rfl
theorem ev_if : sIf c f g s = (match c s with | .ok true s1 => f s1 | .ok false s1 => g s1 | .ex C s1 => .ex C s1 | .no => .no) := id rfl
theorem ev_e : sE e s = (match e s with | .ok _ s1 => .nx s1 | .ex C s1 => .ex C s1 | .no => .no) := id rfl
theorem Z123 : sRet e s = (match e s with | .ok r s1 => .rt r s1 | .ex C s1 => .ex C s1 | .no => .no) := id rfl
theorem Z124 : sRetN s = .rt (.val (.at .non)) s := id rfl
theorem Z121 : sPass s = .nx s := id rfl
theorem Z94 : sBrk s = .bk s := id rfl
theorem ev_ct : sCt s = .ct s := id rfl
theorem Z91 {w : Sd → DV → Option Sd} : sAsg e w s = (match e s with | .ok r s1 => (match w s1 r with | some s2 => .nx s2 | none => .no) | .ex C s1 => .ex C s1 | .no => .no) := id rfl
theorem Z103 : eIf c e e' s = (match c s with | .ok true s1 => e s1 | .ok false s1 => e' s1 | .ex C s1 => .ex C s1 | .no => .no) := id rfl
theorem ev_v : bV e s = (match e s with | .ok (.val (.at (.bl b))) s1 => .ok b s1 | .ok _ _ => .no | .ex C s1 => .ex C s1 | .no => .no) := id rfl
theorem Z120 : bNot c s = (match c s with | .ok b s1 => .ok (!b) s1 | r => r) := id rfl
theorem Z89 : bAnd c d s = (match c s with | .ok true s1 => d s1 | r => r) := id rfl
theorem ev_or : bOr c d s = (match c s with | .ok false s1 => d s1 | r => r) := id rfl
theorem ev_C : eC v s = .ok (.val (.at v)) s := id rfl
theorem Z133 : eVar j s = (match s[j]? with
 | some (.own _ d) => .ok (mkV j [] d) s
 | some (.bor k p) => (match dref s (.plc k p) with | some d => .ok (mkV k p d) s | none => .no)
 | _ => .no) := id rfl
theorem Z119 : aNil s = .ok [] s := id rfl
theorem Z99 : aCons e a s = (match e s with
 | .ok (.val d) s1 => (match a s1 with | .ok rs s2 => .ok (.val d :: rs) s2 | .ex C s2 => .ex C s2 | .no => .no)
 | .ok (.plc k p) s1 => (match a (s1 ++ [.bor k p]) with
  | .ok rs s2 => (match unh s1.length k p s2 with | some s3 => .ok (.plc k p :: rs) s3 | none => .no)
  | .ex C s2 => (match unx s1.length s2 with | some s3 => .ex C s3 | none => .no) | .no => .no)
 | .ex C s1 => .ex C s1
 | .no => .no) := id rfl
theorem ev_nw {h : List D → Option D} : eNw h a s = (match a s with
 | .ok rs s1 => (match drefs s1 rs with | some ds => (match h ds with | some d => .ok (.val d) s1 | none => .no) | none => .no)
 | .ex C s1 => .ex C s1
 | .no => .no) := id rfl
theorem ev_ch {h : List D → Option Sel} : eCh h a s = (match a s with
 | .ok rs s1 => (match drefs s1 rs with | some ds => (match h ds with | some c => pick rs ds s1 c | none => .no) | none => .no)
 | .ex C s1 => .ex C s1
 | .no => .no) := id rfl
theorem Z101 {k : NK} : eDisp k a s = (match a s with
 | .ok rs s1 => (match vals rs with | some l => if l.length ≤ sizeLine then .ok (.val (.nd k l)) s1 else .no | none => .no)
 | .ex C s1 => .ex C s1
 | .no => .no) := id rfl
theorem Z100 {fs : List (EF × EF)} : eDict fs s = (match pairsA fs s with
 | .ok rs s1 => (match vals rs with
  | some l => (match kvD l with | some (ks, vs) => if ks.Nodup ∧ ks.length ≤ 15 then .ok (.val (.nd (.dic true ks) vs)) s1 else .no | none => .no)
  | none => .no)
 | .ex C s1 => .ex C s1
 | .no => .no) := id rfl
theorem ev_mu {ri : Nat} {h : List D → Option Mu} : eMu ri h a s = (match a s with
 | .ok rs s1 => (match drefs s1 rs, rs[ri]? with
  | some ds, some (.plc k p) => (match s1[k]?, ds[ri]?, h ds with
   | some (.own true _), some (.nd kd l), some (.add kd' m) => if kd.mut then (match rs[m]? with | some (.val x) => .ok (.val (.at .non)) (wr s1 k p (.nd kd' (l ++ [x])) fun _ => true) | _ => .no) else .no
   | some (.own true _), some (.nd kd l), some (.set j m) => if kd.mut ∧ j < l.length then (match rs[m]? with | some (.val x) => .ok (.val (.at .non)) (wr s1 k p (.nd kd (l.set j x)) fun i => i != j) | _ => .no) else .no
   | _, _, _ => .no)
  | _, _ => .no)
 | .ex C s1 => .ex C s1
 | .no => .no) := id rfl
theorem Z90 : eAppT a s = (match a s with
 | .ok [.val (.nd (.lst true) l), .val _] s1 => if l.length < sizeLine then .ok (.val (.at .non)) s1 else .no
 | .ok _ _ => .no
 | .ex C s1 => .ex C s1
 | .no => .no) := id rfl
theorem Z111 {chk : D → Bool} : eGuard chk e s = (match e s with
 | .ok r s1 => (match dref s1 r with | some d => if chk d then .ok r s1 else .no | none => .no)
 | .ex C s1 => .ex C s1
 | .no => .no) := id rfl
theorem Z95 {ms : List Bool} {fn : Fn} : eCall ms fn a s = (match a s with
 | .ok rs s1 => (match takes rs ms s1 with
  | some (sh, l) => (match fills sh rs l with
   | some ds => (match fn ds with
    | .ok rv ds' => retV rs ms (gives rs ms ds' sh) rv
    | .ex C ds' => .ex C (gives rs ms ds' sh)
    | .no => .no)
   | none => .no)
  | none => .no)
 | .ex C s1 => .ex C s1
 | .no => .no) := id rfl
theorem ev_mk {C : Addr} {ms : List Bool} {fn : Fn} : eMk C ms fn a s = (match a s with
 | .ok rs s1 => (match takes rs ms s1 with
  | some (sh, l) => (match fills sh rs l with
   | some ds => (match fn (.nd (.ins true C []) [] :: ds) with
    | .ok (.val (.at .non)) (d0 :: ds') => .ok (.val d0) (gives rs ms ds' sh)
    | _ => .no)
   | none => .no)
  | none => .no)
 | .ex C s1 => .ex C s1
 | .no => .no) := id rfl
theorem Z92 {C : Addr} {x : Str} {o : Int → Int → Int} : sAugF C x o e e' s = (match e s with
 | .ok (.plc k p) s1 => augGo k p (selF C x) o e' s1
 | .ok _ _ => .no
 | .ex C s1 => .ex C s1
 | .no => .no) := id rfl
theorem Z93 {o : Int → Int → Int} {ei : EF} : sAugI o e ei e' s = (match aCons e (aCons ei aNil) s with
 | .ok [.plc k p, .val (.at (.int i))] s1 => augGo k p (selI i) o e' s1
 | .ok _ _ => .no
 | .ex C s1 => .ex C s1
 | .no => .no) := id rfl
theorem Z118 {js : List Nat} : sKill js f s = (match f s with
 | .nx s1 => .nx (kills js s1)
 | .ct s1 => .ct (kills js s1)
 | .bk s1 => .bk (kills js s1)
 | r => r) := id rfl
theorem Z108 {w : Sd → DV → Option Sd} : sForR a w f s = (match a s with
 | .ok [.val (.at (.int j))] s1 => if -(2 ^ 62) ≤ j ∧ j < 2 ^ 62 then loopG (itR 0 j.toNat) w f (j.toNat + 1) 0 s1 else .no
 | .ok [.val (.at (.int i)), .val (.at (.int j))] s1 => if -(2 ^ 62) ≤ i ∧ i < 2 ^ 62 ∧ -(2 ^ 62) ≤ j ∧ j < 2 ^ 62 then loopG (itR i (j - i).toNat) w f ((j - i).toNat + 1) 0 s1 else .no
 | .ok _ _ => .no
 | .ex C s1 => .ex C s1
 | .no => .no) := id rfl
theorem Z107 {w : Sd → DV → Option Sd} : sForL e w f s = (match e s with
 | .ok (.plc k p) s1 => (match seqOf (dref s1 (.plc k p)) with
  | some (t, m) => fin s1.length (loopG (itP t s1.length k p) w f (m + 1) 0 (s1 ++ [.bor k p]))
  | none => .no)
 | .ok (.val d) s1 => (match seqOf (some d) with
  | some (t, m) => fin s1.length (loopG (itP t s1.length s1.length []) w f (m + 1) 0 (s1 ++ [.own true d]))
  | none => .no)
 | .ex C s1 => .ex C s1
 | .no => .no) := id rfl
theorem Z132 {exm : Str → Str → Option Bool} {hs : List (Str × SF)} : sTry exm f hs s = (match f s with | .ex C s1 => tryH exm hs C s1 | r => r) := id rfl
theorem Z122 {C : Str} : sRaise C a s = (match a s with
 | .ok rs s1 => if rs.length ≤ 1000 then .ex C s1 else .no
 | .ex C' s1 => .ex C' s1
 | .no => .no) := id rfl
theorem Z125 {n : Nat} {ms : List Bool} {ds : List D} : runDef n ms f ds = (match f (ini n ms ds) with
 | .nx s => ends n ms ds (.val (.at .non)) s
 | .rt r s => ends n ms ds r s
 | .ex C s => (match outs s n ms ds with | some ds' => .ex C ds' | none => .no)
 | _ => .no) := id rfl
end
theorem Z241 {k : Nat} {p : List Nat} {kp : Nat → Bool} {w : Bool} {d : D} : killD k p kp (.own w d) = .own w d := rfl
theorem Z240 {k : Nat} {p : List Nat} {kp : Nat → Bool} : killD k p kp .non = .non := rfl
theorem Z239 {k : Nat} {p : List Nat} {kp : Nat → Bool} {k' : Nat} {q : List Nat} : killD k p kp (.bor k' q) = if decide (k' = k) && (match RM.sub p q with | some i => !kp i | none => false) then .non else .bor k' q := rfl
theorem Z608 {j : Nat} {w : Bool} {d : D} : unrootD j (.own w d) = .own w d := rfl
theorem Z607 {j : Nat} : unrootD j .non = .non := rfl
theorem Z606 {j k : Nat} {q : List Nat} : unrootD j (.bor k q) = if k = j then .non else .bor k q := rfl
theorem Z569 : RM.sub [] [] = none := rfl
theorem Z568 {i : Nat} {q : List Nat} : RM.sub [] (i :: q) = some i := rfl
theorem sub_cn {i : Nat} {q : List Nat} : RM.sub (i :: q) [] = none := rfl
theorem Z567 {x y : Nat} {p q : List Nat} : RM.sub (x :: p) (y :: q) = if x = y then RM.sub p q else none := rfl
theorem Z314 {it : Nat → Sd → Option (Option DV)} {b : Sd → DV → Option Sd} {body : SF} {P : Nat → Sd → Prop} {n : Nat}
  (hs : ∀ i s, i < n → P i s → ∃ r s1 s2, it i s = some (some r) ∧ b s r = some s1 ∧ (body s1 = .nx s2 ∨ body s1 = .ct s2) ∧ P (i + 1) s2) (he : ∀ s, P n s → it n s = some none) :
  ∀ m i s, i + m = n → P i s → ∃ s', loopG it b body (m + 1) i s = .nx s' ∧ P n s'
 | 0, i, s, hi, h => by
  have : i = n := by omega
  subst this
  exact ⟨s, by simp only [loopG, he s h], h⟩
 | m + 1, i, s, hi, h => by
  obtain ⟨r, s1, s2, h1, h2, h3, h4⟩ := hs i s (by omega) h
  obtain ⟨s', h5, h6⟩ := Z314 hs he m (i + 1) s2 (by omega) h4
  refine ⟨s', ?_, h6⟩
  rw [← h5, loopG, h1]
  dsimp only
  rw [h2]
  dsimp only
  rcases h3 with h3 | h3 <;> rw [h3]
theorem Z311 {lo : Int} {n : Nat} {b : Sd → DV → Option Sd} {body : SF} {s : Sd} (P : Nat → Sd → Prop) (h0 : P 0 s)
  (hs : ∀ (i : Nat) s, i < n → P i s → ∃ s1 s2, b s (.val (.at (.int (lo + i)))) = some s1 ∧ (body s1 = .nx s2 ∨ body s1 = .ct s2) ∧ P (i + 1) s2) :
  ∃ s', loopG (itR lo n) b body (n + 1) 0 s = .nx s' ∧ P n s' :=
 Z314 (P := P) (fun i s hi h => by
  obtain ⟨s1, s2, h1, h2, h3⟩ := hs i s hi h
  exact ⟨_, s1, s2, by unfold itR; rw [if_pos hi], h1, h2, h3⟩) (fun s h => by unfold itR; rw [if_neg (Nat.lt_irrefl _)]) n 0 s (by omega) h0
theorem Z310 {t : Bool} {n k : Nat} {p : List Nat} {l : List D} {kd : NK} {b : Sd → DV → Option Sd} {body : SF} {s : Sd} (hk : t = false ∧ (∃ m, kd = .lst m) ∨ t = true ∧ kd = .tup) (P : Nat → Sd → Prop) (h0 : P 0 s)
  (hh : ∀ i s, P i s → held n k p s = true ∧ dref s (.plc k p) = some (.nd kd l))
  (hs : ∀ (i : Nat) s c, l[i]? = some c → P i s → ∃ s1 s2, b s (mkV k (p ++ [i]) c) = some s1 ∧ (body s1 = .nx s2 ∨ body s1 = .ct s2) ∧ P (i + 1) s2) :
  ∃ s', loopG (itP t n k p) b body (l.length + 1) 0 s = .nx s' ∧ P l.length s' := by
 have it : ∀ i s, P i s → itP t n k p i s = some ((l[i]?).map (mkV k (p ++ [i]))) := by
  intro i s h
  obtain ⟨h1, h2⟩ := hh i s h
  unfold itP
  rw [h1, h2]
  rcases hk with ⟨rfl, m, rfl⟩ | ⟨rfl, rfl⟩ <;> rfl
 refine Z314 (P := P) (fun i s hi h => ?_) (fun s h => ?_) l.length 0 s (by omega) h0
 ·obtain ⟨s1, s2, h1, h2, h3⟩ := hs i s l[i] (List.getElem?_eq_getElem hi) h
  exact ⟨_, s1, s2, by rw [it i s h, List.getElem?_eq_getElem hi]; rfl, h1, h2, h3⟩
 ·rw [it _ s h, List.getElem?_eq_none (Nat.le_refl _)]; rfl

noncomputable def DtN (n : Nat) (a : D) : Prop := ∃ d, toDt a = some d ∧ d.dep ≤ n
theorem Z77 {n : Nat} {i : Int} : DtN (n + 1) (.at (.int i)) := ⟨.int i, rfl, by simp [Dt.dep]⟩
theorem Z79 {n : Nat} {i : Str} : DtN (n + 1) (.at (.str i)) := ⟨.str i, rfl, by simp [Dt.dep]⟩
theorem dt_bl {n : Nat} {i : Bool} : DtN (n + 1) (.at (.bl i)) := ⟨.bl i, rfl, by simp [Dt.dep]⟩
theorem Z82 {n : Nat} : ∀ {l : List D}, (∀ x ∈ l, DtN n x) → ∃ r, toDts l = some r ∧ Dt.deps r ≤ n
 | [], _ => ⟨[], rfl, Nat.zero_le _⟩
 | x :: l, h => by
  obtain ⟨d, h1, h2⟩ := h x List.mem_cons_self
  obtain ⟨r, h3, h4⟩ := Z82 fun y hy => h y (List.mem_cons_of_mem _ hy)
  exact ⟨d :: r, by rw [toDts, h1, h3], Nat.max_le.mpr ⟨h2, h4⟩⟩
theorem Z78 {n : Nat} {l : List D} (hl : l.length < sizeLine) (h : ∀ x ∈ l, DtN n x) : DtN (n + 1) (.nd (.lst true) l) := by
 obtain ⟨r, h1, h2⟩ := Z82 h
 exact ⟨.lst r, by rw [toDt, if_pos hl, h1], Nat.succ_le_succ h2⟩
theorem Z81 {n : Nat} {l : List D} (hl : l.length < sizeLine) (h : ∀ x ∈ l, DtN n x) : DtN (n + 1) (.nd .tup l) := by
 obtain ⟨r, h1, h2⟩ := Z82 h
 exact ⟨.tup r, by rw [toDt, if_pos hl, h1], Nat.succ_le_succ h2⟩
theorem Z536 {n : Nat} {a : D} (h : DtN n a) : sameF n [a, a] = .ok (.val (.at (.bl true))) [a, a] := by
 obtain ⟨d, h1, h2⟩ := h
 simp only [sameF, h1, if_pos h2, (Dt.eq_iff d d).mpr rfl]
theorem ixN_0 {n : Nat} (h : 0 < n) : ixN n 0 = some 0 := by unfold ixN; rw [if_pos (by omega), if_pos (by omega)]; rfl
theorem ixN_1 {n : Nat} (h : 1 < n) : ixN n 1 = some 1 := by unfold ixN; rw [if_pos (by omega), if_pos (by omega)]; rfl
theorem ixN_2 {n : Nat} (h : 2 < n) : ixN n 2 = some 2 := by unfold ixN; rw [if_pos (by omega), if_pos (by omega)]; rfl
theorem ixN_3 {n : Nat} (h : 3 < n) : ixN n 3 = some 3 := by unfold ixN; rw [if_pos (by omega), if_pos (by omega)]; rfl
theorem ixN_4 {n : Nat} (h : 4 < n) : ixN n 4 = some 4 := by unfold ixN; rw [if_pos (by omega), if_pos (by omega)]; rfl
theorem ixN_5 {n : Nat} (h : 5 < n) : ixN n 5 = some 5 := by unfold ixN; rw [if_pos (by omega), if_pos (by omega)]; rfl
theorem ixN_6 {n : Nat} (h : 6 < n) : ixN n 6 = some 6 := by unfold ixN; rw [if_pos (by omega), if_pos (by omega)]; rfl
theorem ixN_7 {n : Nat} (h : 7 < n) : ixN n 7 = some 7 := by unfold ixN; rw [if_pos (by omega), if_pos (by omega)]; rfl
theorem ixN_8 {n : Nat} (h : 8 < n) : ixN n 8 = some 8 := by unfold ixN; rw [if_pos (by omega), if_pos (by omega)]; rfl
theorem ixN_9 {n : Nat} (h : 9 < n) : ixN n 9 = some 9 := by unfold ixN; rw [if_pos (by omega), if_pos (by omega)]; rfl
theorem Z224 {n : Nat} (h : 10 < n) : ixN n 10 = some 10 := by unfold ixN; rw [if_pos (by omega), if_pos (by omega)]; rfl
theorem Z225 {n : Nat} (h : 11 < n) : ixN n 11 = some 11 := by unfold ixN; rw [if_pos (by omega), if_pos (by omega)]; rfl
theorem Z226 {n : Nat} (h : 12 < n) : ixN n 12 = some 12 := by unfold ixN; rw [if_pos (by omega), if_pos (by omega)]; rfl
section
variable {K : PySem.W.Frag}
theorem Z181 {x : Str} : hLen K [.at (.str x)] = if x.length ≤ sizeLine then some (.at (.int x.length)) else none := rfl
theorem Z180 {m : Bool} {l : List D} : hLen K [.nd (.lst m) l] = some (.at (.int l.length)) := rfl
theorem Z182 {l : List D} : hLen K [.nd .tup l] = some (.at (.int l.length)) := rfl
theorem Z178 {m : Bool} {ks : List Key} {l : List D} : hLen K [.nd (.dic m ks) l] = some (.at (.int l.length)) := rfl
theorem Z179 {l : List D} : hLen K [.nd (.kst K) l] = some (.at (.int l.length)) := if_pos rfl
theorem Z175 {m : Bool} {l : List D} {i : Int} : hIx K [.nd (.lst m) l, .at (.int i)] = (ixN l.length i).map .ch := rfl
theorem Z177 {l : List D} {i : Int} : hIx K [.nd .tup l, .at (.int i)] = (ixN l.length i).map .ch := rfl
theorem Z174 {l : List D} {i : Int} : hIx K [.nd (.kst K) l, .at (.int i)] = (ixN l.length i).map .ch := if_pos rfl
theorem Z176 {z : Str} {i : Int} : hIx K [.at (.str z), .at (.int i)] = if z.length ≤ sizeLine then (atI z.cps.toList i).map fun c => .cs (.str ⟨#[c]⟩) else none := rfl
end
theorem sz : sizeLine = 16777216 := by decide
theorem Z203 {α : Type} {f : α → D} (h : ∀ a, (f a).imm = true) : ∀ l : List α, D.imms (l.map f) = true
 | [] => rfl
 | a :: l => by rw [List.map_cons, D.imms, h, Z203 h l]; rfl
end RM
set_option Elab.async false
set_option linter.all false
set_option maxRecDepth 100000

namespace RM
open PySem PySem.Spec PyProof.Rows L2
section
variable {X : Cx} {R : RC} {ix : List Nat} {hd : List (Nat × Addr)} {H H' : Hp} {σ : L2.St} {ts : Ts} {fr : List T} {e : Expr} {pos : Pos}

noncomputable def tFmt (te : TE) : TE := fun σ H Q => te σ H fun v H1 => (∃ i, v = .int i ∧ i.natAbs.log2 < 1920 ∧ Q (.str (toString i)) H1) ∨ (∃ x, v = .str x ∧ x.length ≤ sizeLine ∧ Q (.str x) H1)
theorem Z408 {te : TE} (he : PE X e te) : PE X (.FormattedValue e (-1) none pos) (tFmt te) := by
 intro pins s σ H Q I h
 refine wpAny_FormattedValue_plain (thn (he pins s σ H _ I h) fun u s1 ⟨v, H1, I1, r1, q⟩ => ?_)
 rcases q with ⟨i, rfl, hz, q⟩ | ⟨x, rfl, hz, q⟩
 ·obtain ⟨t, rfl⟩ := (show ∃ t, u = Value.int i t from r1)
  exact wpAny_formatField_int hz ⟨.str (toString i), H1, I1.tok _, ⟨_, rfl⟩, q⟩
 ·obtain ⟨t, rfl⟩ := (show ∃ t, u = Value.str x t from r1)
  exact wpAny_formatField_str ⟨.str x, H1, I1, ⟨_, rfl⟩, q⟩ ⟨.str x, H1, I1.tok _, ⟨_, rfl⟩, q⟩ hz
noncomputable def hFmt : List D → Option D
 | [.at (.int i)] => if i.natAbs.log2 < 1920 then some (.at (.str (toString i))) else none
 | [.at (.str x)] => if x.length ≤ sizeLine then some (.at (.str x)) else none
 | _ => none
theorem ers2 {l : List T} {a b : D} (h : T.ers l = [a, b]) : ∃ t u, l = [t, u] ∧ t.er = a ∧ u.er = b := by
 rw [T.ers_eq] at h
 exact map2 h
theorem Z472 {f : EF} (he : PE X e (lE R ix f)) : PE X (.FormattedValue e (-1) none pos) (lE R ix (eNw hFmt (aCons f aNil))) :=
 peM (Z408 he) fun σ H Q q => Z271 (fun x H1 q => by
  obtain ⟨t, ok, rfl, d, hh, q⟩ := gNw1 q
  unfold hFmt at hh
  split at hh
  case h_1 i e1 =>
   simp only [List.cons.injEq, and_true] at e1
   split at hh
   case isTrue hz => cases hh; cases er_at e1 rfl; exact .inl ⟨i, rfl, hz, q (.at (.str (toString i))) H1 rfl (.atom _)⟩
   case isFalse => cases hh
  case h_2 x e1 =>
   simp only [List.cons.injEq, and_true] at e1
   split at hh
   case isTrue hz => cases hh; cases er_at e1 rfl; exact .inr ⟨x, rfl, hz, q (.at (.str x)) H1 rfl (.atom _)⟩
   case isFalse => cases hh
  case h_3 => cases hh) (lA_1 (lA_nw σ H Q q))

inductive PJ (X : Cx) : List Expr → List TE → Prop where
 | nil : PJ X [] []
 | cons {e : Expr} {es : List Expr} {t : TE} {ts : List TE} : PE X e t → PJ X es ts → PJ X (e :: es) (t :: ts)
theorem Z474 {f : EF} (he : PE X e (lE R ix f)) : PE X (.JoinedStr [e] pos) (lE R ix f) := fun pins s σ H Q I q => wpAny_JoinedStr_one (he pins s σ H Q I q)
noncomputable def eJoin : List EF → Str → EF
 | [], acc => fun s => if acc.length ≤ sizeLine then .ok (.val (.at (.str acc))) s else .no
 | f :: r, acc => fun s => match f s with
  | .ok (.val (.at (.str y))) s1 => if (acc ++ y).length ≤ sizeLine then eJoin r (acc ++ y) s1 else .no
  | .ok _ _ => .no
  | .ex C s1 => .ex C s1
  | .no => .no

noncomputable def hNeg : List D → Option D
 | [.at (.int i)] => some (.at (.int (-i)))
 | _ => none
theorem Z476 {a : Expr} {f : EF} (ha : PE X a (lE R ix f)) : PE X (.UnaryOp .USub a pos) (lE R ix (eNw hNeg (aCons f aNil))) :=
 peM (pe_un Z598 ha) fun σ H Q q => Z271 (fun x H1 q => by
  obtain ⟨t, ok, rfl, d, hh, q⟩ := gNw1 q
  unfold hNeg at hh
  split at hh
  case h_1 i e1 =>
   simp only [List.cons.injEq, and_true] at e1
   cases hh; cases er_at e1 rfl
   exact ⟨i, rfl, q (.at (.int (-i))) H1 rfl (.atom _)⟩
  case h_2 => cases hh) (lA_1 (lA_nw σ H Q q))
noncomputable def hInt : List D → Option D
 | [.at (.int i)] => some (.at (.int i))
 | [.at (.bl b)] => some (.at (.int (if b then 1 else 0)))
 | _ => none
noncomputable def hStrI : List D → Option D
 | [.at (.int i)] => if i.natAbs.log2 < 1920 then some (.at (.str (toString i))) else none
 | _ => none
noncomputable def hMax : List D → Option D
 | [.at (.int i), .at (.int j)] => some (.at (.int (if j > i then j else i)))
 | _ => none
noncomputable def hMin : List D → Option D
 | [.at (.int i), .at (.int j)] => some (.at (.int (if j < i then j else i)))
 | _ => none
end
end RM
set_option Elab.async false
set_option linter.all false
set_option maxRecDepth 100000

namespace RM
open PySem PySem.Spec PyProof.Rows L2
section
variable {X : Cx} {pins : List (Addr × Obj)} {σ : L2.St} {H : Hp} {s : Shared} {a : Addr} {kvs : List (Key × V)} {A : Around} {E : Value → Shared → Prop} {k : Key} {u r : Value} {d : V}
end
noncomputable def setG2 (s1 : Sd) (k : Nat) (p : List Nat) (x : D) (ky : D) : D → ER DV
  | .nd (.dic true ks) l => (match s1[k]?, keyD ky with
   | some (.own true _), some key => (match idk key ks with
    | some j => (match l[j]? with | some c => .ok (mkV k (p ++ [j]) c) s1 | none => .no)
    | none => if l.length < sizeLine then .ok (mkV k (p ++ [l.length]) x) (wr s1 k p (.nd (.dic true (ks ++ [key])) (l ++ [x])) fun _ => true) else .no)
   | _, _ => .no)
  | _ => .no
noncomputable def setG1 (s1 : Sd) (k : Nat) (p : List Nat) (x : D) : Option (List D) → ER DV
  | some [d0, ky, _] => setG2 s1 k p x ky d0
  | _ => .no
noncomputable def setGo (s1 : Sd) : List DV → ER DV
  | [.plc k p, r1, .val x] => setG1 s1 k p x (drefs s1 [.plc k p, r1, .val x])
  | _ => .no
noncomputable def eSetD (f : AF) : EF := fun s => match f s with
 | .ok rs s1 => setGo s1 rs
 | .ex C s1 => .ex C s1
 | .no => .no
section
variable {R : RC} {ix : List Nat} {hd : List (Nat × Addr)} {X : Cx} {e : Expr} {H H' : Hp} {σ : L2.St} {ts : Ts} {fr : List T}
theorem Z0 {H1 : Hp} {ts1 : Ts} {tvs : List TV} {k m : Nat} {p : List Nat} {a2 : Addr} {kd kd' : NK} {ch : List T} {u t : T} {o : HO} (C1 : Cf R ix hd H1 σ ts1 (trs tvs ++ fr)) (hk : ts1[k]? = some (.own true u)) (hp : u.get p = some (.nd a2 kd ch)) (hm : kd.mut = true)
  (t1 : tvs[m]? = some (.val t)) (ho : HoOk o kd' (ch.map T.val ++ [t.val])) :
  Cf R ix hd (upd H1 a2 o) σ ((ts1.set k (.own true (T.put (.nd a2 kd' (ch ++ [t])) p u))).map (killT k p fun _ => true)) fr := by
 have hok : (T.nd a2 kd ch).ok H1 := T.get_ok hp (C1.ok true u (List.mem_of_getElem? hk))
 have ha2 : a2 ∈ ownS ts1 := by
  obtain ⟨c, r, K⟩ := T.ctx hp
  exact Z324.mpr ⟨u, List.mem_of_getElem? hk, K.own.mem_iff.mpr (List.mem_append_right _ (by simp [T.own, hm]))⟩
 have stay : ∀ (y : T), y ∈ trs tvs ++ fr → y.ok (upd H1 a2 o) := fun y hy => T.keep (T.oks_iff.mp C1.fok y hy) fun b hb => Z604 (by
  rintro rfl
  rcases hb with hb | hb
  ·have := (List.nodup_append.mp C1.nd).2.2 b ha2 b (T.mem_owns.mpr ⟨y, hy, hb⟩)
   exact this rfl
  ·exact (C1.sep b (.inr (T.mem_ros.mpr ⟨y, hy, hb⟩))).1 ha2)
 have kid : ∀ (y : T), y ∈ ch → y.ok (upd H1 a2 o) := fun y hy => T.keep (T.oks_iff.mp hok.2 y hy) fun b hb => Z604 (by
  rintro rfl
  obtain ⟨c, r, K⟩ := T.ctx hp
  rcases hb with hb | hb
  ·have n1 := (List.nodup_append.mp C1.nd).1
   obtain ⟨x1, z1, o1, _⟩ := Z160 (f := TL.own1) hk
   unfold ownS at n1
   rw [o1] at n1
   have n2 := (List.nodup_append.mp ((List.nodup_append.mp n1).2.1)).1
   have n3 := (List.nodup_append.mp (K.own.nodup_iff.mp n2)).2.1
   simp only [T.own, hm, if_true, List.singleton_append, List.nodup_cons] at n3
   exact n3.1 (T.mem_owns.mpr ⟨y, hy, hb⟩)
  ·refine (C1.sep b (.inl (Z327.mpr ⟨true, u, List.mem_of_getElem? hk, K.ro.mem_iff.mpr (List.mem_append_right _ ?_)⟩))).1 ha2
   simp only [T.ro, hm, if_true, List.nil_append]
   exact T.mem_ros.mpr ⟨y, hy, hb⟩)
 obtain ⟨n1, n2⟩ := HoOk.node (H := H1) (a := a2) ho
 obtain ⟨x, p1, p2, p3⟩ := Z587 t1
 exact Cf.write (kd' := kd') (l' := ch ++ [t]) (fr' := fr) (x := x) (o := o) (keep := fun _ => true) C1 hk hp hm n2
  ⟨by simpa using n1, T.oks_app.mpr ⟨T.oks_iff.mpr kid, stay t (List.mem_append_left _ (p3 t (by simp [TV.tr]))), trivial⟩⟩ (T.oks_iff.mpr fun y hy => stay y (List.mem_append_right _ hy))
  (by
   rw [T.owns_app, T.owns_app]
   refine List.perm_iff_count.mpr fun b => ?_
   have := List.perm_iff_count.mp p1 b
   simp only [TV.tr, T.owns, List.count_append, List.count_nil] at this ⊢
   omega)
  (fun b hb => by
   rw [T.ros_app] at hb ⊢
   rcases hb with hb | hb
   ·rcases List.mem_append.mp hb with hb | hb
    ·exact .inl hb
    ·exact .inr (.inl (List.mem_append_left _ (p2 b (by simpa [TV.tr] using hb))))
   ·exact .inr (.inl (List.mem_append_right _ hb)))
  (fun i c _ hc => by rw [List.getElem?_append_left (List.getElem?_eq_some_iff.mp hc).1]; exact hc)
end

section
variable {X : Cx} {R : RC} {ix : List Nat} {e : Expr} {st : Stmt}
end

theorem Z117 {acc : Str} {s : Sd} : eJoin [] acc s = (if acc.length ≤ sizeLine then .ok (.val (.at (.str acc))) s else .no) := id rfl
theorem Z116 {f : EF} {r : List EF} {acc : Str} {s : Sd} : eJoin (f :: r) acc s = (match f s with
  | .ok (.val (.at (.str y))) s1 => if (acc ++ y).length ≤ sizeLine then eJoin r (acc ++ y) s1 else .no
  | .ok _ _ => .no
  | .ex C s1 => .ex C s1
  | .no => .no) := id rfl
theorem Z128 {a : AF} {s : Sd} : eSetD a s = (match a s with
 | .ok rs s1 => setGo s1 rs
 | .ex C s1 => .ex C s1
 | .no => .no) := id rfl
theorem Z131 {s1 : Sd} {k : Nat} {p : List Nat} {r1 : DV} {x : D} : setGo s1 [.plc k p, r1, .val x] = setG1 s1 k p x (drefs s1 [.plc k p, r1, .val x]) := id rfl
theorem Z129 {s1 : Sd} {k : Nat} {p : List Nat} {x d0 ky dx : D} : setG1 s1 k p x (some [d0, ky, dx]) = setG2 s1 k p x ky d0 := id rfl
theorem Z130 {s1 : Sd} {k : Nat} {p : List Nat} {x ky : D} {ks : List Key} {l : List D} : setG2 s1 k p x ky (.nd (.dic true ks) l) = (match s1[k]?, keyD ky with
   | some (.own true _), some key => (match idk key ks with
    | some j => (match l[j]? with | some c => .ok (mkV k (p ++ [j]) c) s1 | none => .no)
    | none => if l.length < sizeLine then .ok (mkV k (p ++ [l.length]) x) (wr s1 k p (.nd (.dic true (ks ++ [key])) (l ++ [x])) fun _ => true) else .no)
   | _, _ => .no) := id rfl
theorem Z115 {C C' : Addr} {m : Str} {b : Bool} {ns : List Str} {l : List D} : isObjD C m (.nd (.ins b C' ns) l) = (decide (C' = C) && !ns.contains m) := rfl
theorem Z114 {m : Bool} {l : List D} : isLst (.nd (.lst m) l) = true := rfl
theorem Z112 {m : Bool} {ks : List Key} {l : List D} : isDic (.nd (.dic m ks) l) = true := rfl
theorem Z113 {m : Bool} {ks : List (List Key)} {l : List D} : isDic (.nd (.dit m ks) l) = true := rfl
theorem Z356 {i : Int} (h : i.natAbs < 2 ^ 64) : i.natAbs.log2 < 1920 := by
 by_cases h0 : i.natAbs = 0
 ·rw [h0]; decide
 ·exact Nat.lt_of_lt_of_le ((Nat.log2_lt h0).mpr h) (by decide)
end RM
set_option Elab.async false
set_option linter.all false
set_option maxRecDepth 100000

namespace RM
open PySem PySem.Spec PyProof.Rows L2
noncomputable def bYes : BF := fun s => .ok true s
noncomputable def compGo (it : Nat → Sd → Option (Option DV)) (n : Nat) (c : BF) (e : EF) : Nat → Nat → List D → Sd → ER (List D)
 | 0, _, _, _ => .no
 | m + 1, i, acc, s => match it i s with
  | none => .no
  | some none => .ok acc s
  | some (some r) => match asgD n s r with
   | none => .no
   | some s1 => match c s1 with
    | .ok true s2 => (match e s2 with
     | .ok (.val d) s3 => if acc.length < sizeLine then compGo it n c e m (i + 1) (acc ++ [d]) s3 else .no
     | _ => .no)
    | .ok false s2 => compGo it n c e m (i + 1) acc s2
    | _ => .no
noncomputable def compFin1 (n : Nat) : ER (List D) → ER DV
 | .ok l s => (match popD n s with | some s1 => .ok (.val (.nd (.lst true) l)) s1 | none => .no)
 | _ => .no
noncomputable def compFin2 (n : Nat) : ER (List D) → ER DV
 | .ok l s => (match popD (n + 1) s with | some s1 => (match popD n s1 with | some s2 => .ok (.val (.nd (.lst true) l)) s2 | none => .no) | none => .no)
 | _ => .no
noncomputable def eCompL (f : EF) (c : Nat → BF) (e : Nat → EF) : EF := fun s => match f s with
 | .ok (.plc k p) s1 => (match seqOf (dref s1 (.plc k p)) with
  | some (t, m) => compFin2 s1.length (compGo (itP t s1.length k p) (s1.length + 1) (c (s1.length + 1)) (e (s1.length + 1)) (m + 1) 0 [] (s1 ++ [.bor k p, .non]))
  | none => .no)
 | .ok (.val d) s1 => (match seqOf (some d) with
  | some (t, m) => compFin2 s1.length (compGo (itP t s1.length s1.length []) (s1.length + 1) (c (s1.length + 1)) (e (s1.length + 1)) (m + 1) 0 [] (s1 ++ [.own true d, .non]))
  | none => .no)
 | .ex C s1 => .ex C s1
 | .no => .no
section
variable {R : RC} {ix : List Nat} {hd : List (Nat × Addr)} {X : Cx} {H H' : Hp} {σ : L2.St} {ts : Ts} {fr : List T}
noncomputable def RC.q (R : RC) : RC := { R with EX := fun _ => E0 }
theorem Cf.enter (C : Cf R ix hd H σ ts fr) : Cf R.q (ts.length :: ix) hd H (none :: σ) (ts ++ [.non]) fr := by
 have e1 : ownS (ts ++ [.non]) = ownS ts := by rw [Z391]; simp [ownS, TL.own1]
 have e2 : roS (ts ++ [.non]) = roS ts := by rw [Z496]; simp [roS, TL.ro1]
 have e3 : rdS (ts ++ [.non]) = rdS ts := by rw [Z462]; simp [rdS, TL.rd1]
 have old : ∀ {j : Nat} {s : TL}, (ts ++ [TL.non])[j]? = some s → s ≠ .non → ts[j]? = some s := by
  intro j s h hn
  rcases Nat.lt_or_ge j ts.length with hj | hj
  ·rwa [List.getElem?_append_left hj] at h
  ·rw [List.getElem?_append_right hj] at h
   have : j - ts.length = 0 := by
    have := (List.getElem?_eq_some_iff.mp h).1
    simp at this; omega
   rw [this] at h
   cases h
   exact absurd rfl hn
 refine ⟨fun w t z => ?_, C.fok, by rw [e1]; exact C.nd, by rw [e1, e2]; exact C.sep, by rw [e1, e3]; exact C.rd, by rw [e1]; exact C.g, C.bg, fun j k p a z => ?_, fun j z => ?_, fun i j s v z1 z2 z3 => ?_, fun j a z => ?_, fun j a z => ?_, ?_, fun j a z s v z2 z3 => ?_⟩
 ·rcases List.mem_append.mp z with z | z
  ·exact C.ok w t z
  ·simp at z
 ·exact (C.bor j k p a (old z (by intro q; cases q))).app _
 ·rcases List.mem_cons.mp z with rfl | z
  ·simp
  ·simpa using Nat.lt_succ_of_lt (C.ixs j z)
 ·have hs : s ≠ .non := by rintro rfl; cases z3
  cases i with
  | zero =>
   simp only [List.getElem?_cons_zero, Option.some.injEq] at z1
   have := (List.getElem?_eq_some_iff.mp (old z2 hs)).1
   omega
  | succ i => exact C.sl i j s v (by simpa using z1) (old z2 hs) z3
 ·simpa using Nat.lt_succ_of_lt (C.hdi j a z)
 ·intro q
  rcases List.mem_cons.mp q with rfl | q
  ·exact absurd (C.hdi _ a z) (Nat.lt_irrefl _)
  ·exact C.hdx j a z q
 ·simpa using C.len
 ·exact C.hdn j a z s v (old z2 (by rintro rfl; cases z3)) z3
theorem Cf.leave {n : Nat} {y : Option V} (C : Cf R.q (n :: ix) hd H (y :: σ) ts fr) : Cf R ix hd H σ ts fr :=
 ⟨C.ok, C.fok, C.nd, C.sep, C.rd, C.g, C.bg, C.bor, fun j z => C.ixs j (List.mem_cons_of_mem _ z), fun i j s v z1 z2 z3 => C.sl (i + 1) j s v (by simpa using z1) z2 z3, C.hdi, fun j a z q => C.hdx j a z (List.mem_cons_of_mem _ q), by simpa using C.len, C.hdn⟩
theorem Z5 {i j : Nat} {v : V} {tv : TV} {s' : Sd} (hix : ix[i]? = some j) (hnd : ix.Nodup) (C : Cf R ix hd H σ ts (tv.tr ++ fr)) (hv : TvOk ts v tv) (hs : asgD j (ts.map TL.er) tv.er = some s') : ∃ ts', ts'.map TL.er = s' ∧ Cf R ix hd H (σ.set i (some v)) ts' fr := by
 have er1 : ∀ y : TL, ((ts.map (unrootT j)).set j y).map TL.er = ((ts.map TL.er).map (unrootD j)).set j y.er := fun y => by
  rw [List.map_set, List.map_map, List.map_map]
  exact congrArg (fun l => List.set l j y.er) (List.map_congr_left fun s _ => Z601 s)
 cases tv with
 | val t =>
  cases hv
  cases hs
  exact ⟨_, er1 (.own true t), Cf.slot (y := .own true t) C hix hnd rfl (.inl ⟨t, rfl, rfl⟩)⟩
 | plc k p a =>
  obtain ⟨rfl, hp⟩ := hv
  simp only [TV.er, asgD] at hs
  by_cases hk : k = j
  ·subst hk
   rw [if_pos rfl] at hs
   by_cases hp0 : p = []
   ·subst hp0
    rw [if_pos rfl] at hs
    cases hs
    have : σ.set i (some (.ref a)) = σ := by
     obtain ⟨w, t, s, h1, h2, h3⟩ := hp
     cases h2
     have h4 := C.sl i k _ _ hix h1 rfl
     rw [h3] at h4
     refine List.ext_getElem? fun n => ?_
     rw [List.getElem?_set]
     by_cases hn : i = n
     ·subst hn
      rw [if_pos rfl, if_pos (List.getElem?_eq_some_iff.mp h4).1, h4]
     ·rw [if_neg hn]
    rw [this]
    exact ⟨ts, rfl, C⟩
   ·rw [if_neg hp0] at hs; cases hs
  ·rw [if_neg hk] at hs
   cases hs
   exact ⟨_, er1 (.bor k p a), Cf.slot (y := .bor k p a) (m := []) C hix hnd rfl (.inr ⟨rfl, k, p, a, rfl, hk, hp⟩)⟩
theorem Cf.grow {D : Addr} {acc : List T} {t : T} (C : Cf R ix hd H σ ts (t :: .nd D (.lst true) acc :: fr)) : H D = some (.lst (acc.map T.val)) ∧ Cf R ix hd (upd H D (.lst ((acc ++ [t]).map T.val))) σ ts (.nd D (.lst true) (acc ++ [t]) :: fr) := by
 have hok := C.fok
 refine ⟨hok.2.1.1, ?_⟩
 have C2 : Cf R ix hd H σ ts (.nd D (.lst true) acc :: ([t] ++ fr)) := C.less (x := []) ⟨hok.2.1, hok.1, hok.2.2⟩ (by
  simp only [T.owns_cons, List.append_nil, List.singleton_append]
  rw [← List.append_assoc, ← List.append_assoc]
  exact List.Perm.append_right _ List.perm_append_comm) fun a z => .inl (by
  simp only [T.ros_cons, List.singleton_append, List.mem_append] at z ⊢
  rcases z with z | z | z <;> simp [z])
 refine Cf.fill (kd := .lst true) (kd' := .lst true) (l := acc) (l' := acc ++ [t]) (m := [t]) (x := []) C2 rfl rfl (by show upd H D _ D = _; exact Z605) (fun u hu => ?_) (by rw [T.owns_app, List.append_nil]) (fun a z => by rw [T.ros_app] at z; exact List.mem_append.mp z)
 rcases List.mem_append.mp hu with hu | hu
 ·exact T.oks_iff.mp hok.2.1.2 u hu
 ·rw [List.mem_singleton.mp hu]; exact hok.1
noncomputable def PostC (R : RC) (ix : List Nat) (hd : List (Nat × Addr)) (fr : List T) (σ : L2.St) (D : Addr) (Q : Hp → Prop) : ER (List RM.D) → Prop
 | .ok l s => ∀ H' y ts' acc, ts'.map TL.er = s → T.ers acc = l → Cf R ix hd H' (y :: σ) ts' (.nd D (.lst true) acc :: fr) → Q H'
 | _ => False
noncomputable def xE (R : RC) (ix : List Nat) (e : Nat → EF) : TE := fun σ H Q => ∃ n, (∀ j ∈ ix, j < n) ∧ lE R.q (n :: ix) (e n) σ H Q
noncomputable def xT (R : RC) (ix : List Nat) (c : Nat → BF) : TT := fun σ H Q => ∃ n, (∀ j ∈ ix, j < n) ∧ lT R.q (n :: ix) (c n) σ H Q
theorem px_e {e : Expr} {f : Nat → EF} (h : ∀ n, (∀ j ∈ ix, j < n) → PE X e (lE R.q (n :: ix) (f n))) : PE X e (xE R ix f) := fun pins s σ H Q I ⟨n, hn, q⟩ => h n hn pins s σ H Q I q
theorem Z457 : PF X [] (xT R ix fun _ => bYes) := fun pins s σ H Q I ⟨n, hn, hd, ts, fr, C, q⟩ => Z422 pins s σ H Q I (q H ts rfl C)
theorem Z55 {J : It} {it : Nat → Sd → Option (Option DV)} {n m : Nat} {c : Nat → BF} {e : Nat → EF} {Q : VK} {R : RC} {ix : List Nat} {hd : List (Nat × Addr)} {σ : L2.St} {ts : Ts} {fr : List T} {H : Hp} {y0 : Option V}
  (hn : ∀ j ∈ ix, j < n) (ok : ∀ i H τ ts fr, Cf R.q (n :: ix) hd H τ ts fr → (it i (ts.map TL.er) = some none → J.stop i H) ∧ ∀ r, it i (ts.map TL.er) = some (some r) → J.go i H ∧ ∀ x H', J.yld i H x H' → ∃ tv, tv.er = r ∧ TvOk ts x tv ∧ Cf R.q (n :: ix) hd H' τ ts (tv.tr ++ fr))
  (hnd : ix.Nodup) (C : Cf R.q (n :: ix) hd H (y0 :: σ) ts fr) (P : ∀ D, H D = none → PostC R.q (n :: ix) hd fr σ D (fun H' => Q (.ref D) H') (compGo it n (c n) (e n) m 0 [] (ts.map TL.er))) (hy : y0 = none) :
  compW J 1 (gName 0) (xT R ix c) (xE R ix e) σ H Q := by
 intro D hD
 subst hy
 have hnd : (n :: ix).Nodup := List.nodup_cons.mpr ⟨fun z => Nat.lt_irrefl _ (hn n z), hnd⟩
 refine ⟨fun i m ys τ H => ∃ y ts acc, τ = y :: σ ∧ Cf R.q (n :: ix) hd H τ ts (.nd D (.lst true) acc :: fr) ∧ acc.map T.val = ys ∧ PostC R.q (n :: ix) hd fr σ D (fun H' => Q (.ref D) H') (compGo it n (c n) (e n) m i (T.ers acc) (ts.map TL.er)), ⟨m, none, ts, [], rfl, Cf.wrap (ch := []) C hD (by show upd H D _ D = _; exact Z605), rfl, P D hD⟩, ?_⟩
 rintro i m ys τ H ⟨y, ts, acc, rfl, C, rfl, P⟩
 cases m with
 | zero => exact P.elim
 | succ m =>
  unfold compGo at P
  obtain ⟨o1, o2⟩ := ok i H _ ts _ C
  cases ei : it i (ts.map TL.er) with
  | none => rw [ei] at P; exact P.elim
  | some z =>
   rw [ei] at P
   cases z with
   | none => exact .inl ⟨o1 ei, P H y ts acc rfl rfl C⟩
   | some r =>
    obtain ⟨g1, g2⟩ := o2 r ei
    refine .inr ⟨g1, fun zs τ' H' => ∃ y ts acc, τ' = y :: σ ∧ Cf R.q (n :: ix) hd H' τ' ts (.nd D (.lst true) acc :: fr) ∧ acc.map T.val = zs ∧ PostC R.q (n :: ix) hd fr σ D (fun H' => Q (.ref D) H') (compGo it n (c n) (e n) m (i + 1) (T.ers acc) (ts.map TL.er)), fun zs τ' H' z => ⟨m, Nat.lt_succ_self m, z⟩, fun x H' hy => ?_⟩
    obtain ⟨tv, rfl, hv, C'⟩ := g2 x H' hy
    dsimp only at P
    cases eb : asgD n (ts.map TL.er) tv.er with
    | none => rw [eb] at P; exact P.elim
    | some s1 =>
     rw [eb] at P
     obtain ⟨ts1, rfl, C1⟩ := Z5 (i := 0) rfl hnd C' hv eb
     have C1 : Cf R.q (n :: ix) hd H' (some x :: σ) ts1 (.nd D (.lst true) acc :: fr) := C1
     show xT R ix c (some x :: σ) H' _
     refine ⟨n, hn, hd, ts1, _, C1, ?_⟩
     dsimp only at P
     cases ec : c n (ts1.map TL.er) with
     | no => rw [ec] at P; exact P.elim
     | ex E s2 => rw [ec] at P; exact P.elim
     | ok b s2 =>
      rw [ec] at P
      intro H2 ts2 e2 C2
      subst e2
      cases b with
      | false =>
       dsimp only at P
       rw [if_neg Bool.false_ne_true]
       exact ⟨some x, ts2, acc, rfl, C2, rfl, P⟩
      | true =>
       dsimp only at P
       rw [if_pos rfl]
       refine ⟨n, hn, hd, ts2, _, C2, ?_⟩
       cases ee : e n (ts2.map TL.er) with
       | no => rw [ee] at P; exact P.elim
       | ex E s3 => rw [ee] at P; exact P.elim
       | ok r s3 =>
        rw [ee] at P
        intro H3 ts3 tv v e3 e4 hv3 C3
        subst e3
        cases r with
        | plc k p => exact P.elim
        | val d =>
         obtain ⟨t, rfl, rfl, rfl⟩ := hv3.er_val e4
         dsimp only at P
         by_cases hz : (T.ers acc).length < sizeLine
         case neg => rw [if_neg hz] at P; exact P.elim
         rw [if_pos hz] at P
         obtain ⟨q1, q2⟩ := Cf.grow C3
         refine ⟨q1, by simpa [T.ers_eq] using hz, some x, ts3, acc ++ [t], rfl, ?_, by simp, ?_⟩
         ·simpa using q2
         ·simpa [T.ers_eq] using P
theorem Z154 {n : Nat} {r : ER (List RM.D)} {Q : VK} {σ : L2.St} {fr : List T} {n1 : Nat} (hi : ∀ j ∈ ix, j < n) (hj : ∀ j a, (j, a) ∈ hd → j < n)
  (q : match compFin1 n r with
   | .ok r s' => ∀ H' ts' tv v, ts'.map TL.er = s' → tv.er = r → TvOk ts' v tv → Cf R ix hd H' σ ts' (tv.tr ++ fr) → Q v H'
   | .ex C s' => ∀ H' ts', ts'.map TL.er = s' → Cf R ix hd H' σ ts' fr → R.EX σ (.ref (R.ad C)) none H'
   | .no => False) (D : Addr) : PostC R.q (n1 :: ix) hd fr σ D (fun H' => Q (.ref D) H') r := by
 cases r with
 | no => exact q.elim
 | ex E s => exact q.elim
 | ok l s =>
  simp only [compFin1] at q
  cases e1 : popD n s with
  | none => rw [e1] at q; exact q.elim
  | some s1 =>
   rw [e1] at q
   intro H' y ts' acc f1 f2 C
   have C1 := C.leave
   obtain ⟨ts0, x, rfl, hl, f3⟩ := Z435 e1 f1
   have C2 : Cf R ix (hd ++ []) H' σ (ts0 ++ [x]) (.nd D (.lst true) acc :: fr) := by rw [List.append_nil]; exact C1
   have C3 := C2.popAny (fun j z => by have := hi j z; omega) (fun j b z => by have := hj j b z; omega)
   rw [hl] at C3
   exact q H' _ (.val (.nd D (.lst true) acc)) (.ref D) f3 (by simp only [TV.er, T.er, f2]) rfl C3
end

theorem len1 {α : Type} {l : List α} (h : l.length = 1) : ∃ a0, l = [a0] := match l, h with | [a0], _ => ⟨a0, rfl⟩
theorem len2 {α : Type} {l : List α} (h : l.length = 2) : ∃ a0 a1, l = [a0, a1] := match l, h with | [a0, a1], _ => ⟨a0, a1, rfl⟩
theorem len3 {α : Type} {l : List α} (h : l.length = 3) : ∃ a0 a1 a2, l = [a0, a1, a2] := match l, h with | [a0, a1, a2], _ => ⟨a0, a1, a2, rfl⟩
theorem len4 {α : Type} {l : List α} (h : l.length = 4) : ∃ a0 a1 a2 a3, l = [a0, a1, a2, a3] := match l, h with | [a0, a1, a2, a3], _ => ⟨a0, a1, a2, a3, rfl⟩

noncomputable abbrev hAddI : List D → Option D := hI (fun _ _ => true) fun i j => .int (i + j)
section
variable {X : Cx}
theorem Z375 : OpR X (binaryOp .Add) (oNw hAddI) := Z378 Z382 fun _ _ => rfl
end
end RM
set_option Elab.async false
set_option linter.all false
set_option maxRecDepth 100000

namespace RM
open PySem PySem.Spec PyProof.Rows L2
section
variable {s s1 s2 s3 : Sd} {f g : SF} {e e' : EF} {c c' : BF} {a : AF} {v : V} {j k m n : Nat} {p : List Nat} {d d' : D} {ds l : List D} {r r' : DV} {rs : List DV} {w b : Bool} {R : SR} {C : Str}






end
end RM
set_option Elab.async false
set_option linter.all false
set_option maxRecDepth 100000

namespace RM
open PySem PySem.Spec PyProof.Rows L2
noncomputable def eCompR1 (f : EF) (c : Nat → BF) (e : Nat → EF) : EF := fun s => match f s with
 | .ok (.val (.at (.int j))) s1 => if -(2 ^ 62) ≤ j ∧ j < 2 ^ 62 then compFin1 s1.length (compGo (itR 0 j.toNat) s1.length (c s1.length) (e s1.length) (j.toNat + 1) 0 [] (s1 ++ [.non])) else .no
 | .ok _ _ => .no
 | .ex C s1 => .ex C s1
 | .no => .no
section
variable {R : RC} {ix : List Nat} {hd : List (Nat × Addr)} {X : Cx} {H H' : Hp} {σ : L2.St} {ts : Ts} {fr : List T}
theorem Z268 {f : EF} {c : Nat → BF} {e : Nat → EF} (hnd : ix.Nodup) (σ : L2.St) (H : Hp) (Q : VK) (h : lE R ix (eCompR1 f c e) σ H Q) :
  lE R ix f σ H fun v H1 => ∃ j, v = .int j ∧ -(2 ^ 62) ≤ j ∧ j < 2 ^ 62 ∧ compW (Itr 0 j.toNat) 1 (gName 0) (xT R ix c) (xE R ix e) σ H1 Q := by
 obtain ⟨hd, ts, fr, C, h⟩ := h
 refine ⟨hd, ts, fr, C, ?_⟩
 unfold eCompR1 at h
 cases ef : f (ts.map TL.er) with
 | no => rw [ef] at h; exact h
 | ex E s1 => rw [ef] at h; exact h
 | ok r s1 =>
  rw [ef] at h
  intro H1 ts1 tv v e1 e2 hv C1
  subst e1
  cases r with
  | plc k p => exact h.elim
  | val d =>
   obtain ⟨t, rfl, rfl, rfl⟩ := hv.er_val e2
   cases t with
   | nd a k l => exact h.elim
   | «at» u =>
    cases u with
    | int j =>
     have hlen : (ts1.map TL.er).length = ts1.length := by simp
     simp only [T.er, cl] at h
     by_cases hj : -(2 ^ 62) ≤ j ∧ j < 2 ^ 62
     ·rw [if_pos hj, hlen] at h
      refine ⟨j, rfl, hj.1, hj.2, ?_⟩
      have C2 := (C1.drop).enter
      refine Z55 (it := itR 0 j.toNat) (m := j.toNat + 1) C1.ixs (fun i H τ ts fr C => Z222 i H τ ts C) hnd C2 (fun D _ => ?_) rfl
      have := Z154 (n1 := ts1.length) C1.ixs C1.hdi h D
      simpa [TL.er] using this
     ·rw [if_neg hj] at h; exact h.elim
    | _ => exact h.elim
end
end RM
set_option Elab.async false
set_option linter.all false
set_option maxRecDepth 100000

namespace RM
open PySem PySem.Spec PyProof.Rows L2
section
variable {R : RC} {ix : List Nat} {X : Cx} {H : Hp} {σ : L2.St}
theorem Z4 {f : EF} {i j : Nat} (hix : ix[i]? = some j) (hnd : ix.Nodup) (D : Ends) (σ : L2.St) (H : Hp) (h : lS R ix (sAsg f (asgD j)) D σ H) : lE R ix f σ H fun v H1 => gName i v σ H1 D.nx :=
 Z271 (fun v H1 q => Z273 hix hnd v σ H1 _ q) (Z277 D σ H h)
theorem Z509 {i j : Nat} {y : Str} {py spos : Pos} {N : List Str} {scope : Scope} {tg a elt : Expr} {ifs : List Expr} {p pos rpos : Pos} {f : EF} {c : Nat → BF} {e : Nat → EF} (hc : X.calm = true) (hnd : ix.Nodup) (hgl : Gl X "range") (hm : X.mg "range" = none) (ha : PE X a (lE R ix f)) (S : CompSc X 1 N scope)
  (hg : ∀ cl C s H fp, PG (cxC X N scope cl C s H fp) tg (gName 0)) (hf : ∀ cl C s H fp, PF (cxC X N scope cl C s H fp) ifs (xT R ix c)) (he : ∀ cl C s H fp, PE (cxC X N scope cl C s H fp) elt (xE R ix e))
  (hN : X.N.Nodup) (hiy : X.N[i]? = some y) (hx : X.env.scope.names.lookup y = some .local) (hix : ix[i]? = some j)
  (hsw : swapsWith (.ListComp elt [⟨tg, .Call (.Name "range" p) [a] [] rpos, ifs, 0⟩] scope pos) (some (.Name y py)) spos.line X.env = pure true)
  (hst : starEach [a] X.env = [(false, eval a X.env)] := by rfl) (hs : ∀ x, foldedSetIterable (.Call (.Name "range" p) [a] [] rpos) X.env x = pure x := by intro _; rfl) :
  PS X (.Assign [.Name y py] (.ListComp elt [⟨tg, .Call (.Name "range" p) [a] [] rpos, ifs, 0⟩] scope pos) spos) (lS R ix (sAsg (eCompR1 f c e) (asgD j))) :=
 psM (Z444 hc (Z430 (ta := tCons (lE R ix f) tNil) hgl hm (Z393 ha Z394 hst) hst) S hg hf he hN hiy hx hsw hs) fun D σ H h => by
  refine Z271 (fun v H1 q => ?_) (Z268 hnd σ H _ (Z4 hix hnd D σ H h))
  obtain ⟨j, rfl, b1, b2, q⟩ := q
  exact ⟨j, rfl, b1, b2, q⟩
end
end RM
set_option Elab.async false
set_option linter.all false
set_option maxRecDepth 100000

namespace RM
open PySem PySem.Spec PyProof.Rows L2
section
variable {R : RC} {ix : List Nat} {hd : List (Nat × Addr)} {X : Cx} {H H1 : Hp} {σ : L2.St} {ts1 : Ts} {fr1 : List T}
theorem set_list {k : Nat} {p : List Nat} {a2 : Addr} {ch cs : List T} {u : T} (C1 : Cf R ix hd H1 σ ts1 fr1) (hk : ts1[k]? = some (.own true u)) (hp : u.get p = some (.nd a2 (.lst true) ch))
  (hcs : ∀ c ∈ cs, c.own = [] ∧ c.ok H1 ∧ ∀ b ∈ c.ro, b ∈ roS ts1 ∨ b ∈ T.ros fr1) :
  Cf R ix hd (upd H1 a2 (.lst (cs.map T.val))) σ ((ts1.set k (.own true (T.put (.nd a2 (.lst true) cs) p u))).map (killT k p fun _ => false)) fr1 := by
 have ha2 : a2 ∈ ownS ts1 := by
  obtain ⟨c, r, K⟩ := T.ctx hp
  exact Z324.mpr ⟨u, List.mem_of_getElem? hk, K.own.mem_iff.mpr (List.mem_append_right _ (by simp [T.own, NK.mut]))⟩
 have hn : T.owns cs = [] := List.eq_nil_iff_forall_not_mem.mpr fun a z => by
  obtain ⟨t, ht, hz⟩ := T.mem_owns.mp z
  rw [(hcs t ht).1] at hz; cases hz
 refine Cf.write (kd := .lst true) (kd' := .lst true) (l := ch) (l' := cs) (fr' := fr1) (x := T.owns ch) (o := .lst (cs.map T.val)) (keep := fun _ => false) C1 hk hp rfl rfl ⟨Z605, T.oks_iff.mpr fun c hc => ?_⟩ (T.oks_iff.mpr fun y hy => ?_) ?_ (fun b hb => ?_) (fun i c h _ => by cases h)
 ·refine T.keep (hcs c hc).2.1 fun b hb => Z604 ?_
  rintro rfl
  rcases hb with hb | hb
  ·rw [(hcs c hc).1] at hb; cases hb
  ·exact (C1.sep b ((hcs c hc).2.2 b hb)).1 ha2
 ·refine T.keep (T.oks_iff.mp C1.fok y hy) fun b hb => Z604 ?_
  rintro rfl
  rcases hb with hb | hb
  ·exact (List.nodup_append.mp C1.nd).2.2 b ha2 b (T.mem_owns.mpr ⟨y, hy, hb⟩) rfl
  ·exact (C1.sep b (.inr (T.mem_ros.mpr ⟨y, hy, hb⟩))).1 ha2
 ·rw [hn, List.nil_append]
  exact List.perm_append_comm
 ·rcases hb with hb | hb
  ·obtain ⟨c, hc, hz⟩ := T.mem_ros.mp hb
   rcases (hcs c hc).2.2 b hz with z | z
   ·exact .inr (.inr (.inl z))
   ·exact .inr (.inl z)
  ·exact .inr (.inl hb)
end
end RM
set_option Elab.async false
set_option linter.all false
set_option maxRecDepth 100000

namespace RM
open PySem PySem.Spec PyProof.Rows L2
noncomputable def extGo (s1 : Sd) : List DV → List D → ER DV
 | .plc k p :: _, [.nd (.lst true) l, .nd (.lst true) m] => (match s1[k]? with
  | some (.own true _) => if D.imms l = true ∧ D.imms m = true ∧ l.length + m.length ≤ sizeLine then .ok (.val (.at .non)) (wr s1 k p (.nd (.lst true) (l ++ m)) fun _ => false) else .no
  | _ => .no)
 | _, _ => .no
noncomputable def eExt (f : AF) : EF := fun s => match f s with
 | .ok rs s1 => (match drefs s1 rs with | some ds => extGo s1 rs ds | none => .no)
 | .ex C s1 => .ex C s1
 | .no => .no
theorem Z136 {s1 : Sd} {rs : List DV} {ds : List D} : extGo s1 rs ds = .no ∨ ∃ k p rr l m u, rs = .plc k p :: rr ∧ ds = [.nd (.lst true) l, .nd (.lst true) m] ∧ s1[k]? = some (.own true u) ∧ D.imms l = true ∧ D.imms m = true ∧ l.length + m.length ≤ sizeLine ∧ extGo s1 rs ds = .ok (.val (.at .non)) (wr s1 k p (.nd (.lst true) (l ++ m)) fun _ => false) := by
 have main : ∀ k p rr l m, rs = .plc k p :: rr → ds = [.nd (.lst true) l, .nd (.lst true) m] → extGo s1 rs ds = .no ∨ ∃ k p rr l m u, rs = .plc k p :: rr ∧ ds = [.nd (.lst true) l, .nd (.lst true) m] ∧ s1[k]? = some (.own true u) ∧ D.imms l = true ∧ D.imms m = true ∧ l.length + m.length ≤ sizeLine ∧ extGo s1 rs ds = .ok (.val (.at .non)) (wr s1 k p (.nd (.lst true) (l ++ m)) fun _ => false) := by
  rintro k p rr l m rfl rfl
  by_cases hz : D.imms l = true ∧ D.imms m = true ∧ l.length + m.length ≤ sizeLine
  ·cases e : s1[k]? with
   | none => left; simp only [extGo, e]
   | some y => cases y with
    | own w u => cases w with
     | true => right; exact ⟨k, p, rr, l, m, u, rfl, rfl, e, hz.1, hz.2.1, hz.2.2, by simp only [extGo, e, if_pos hz]⟩
     | false => left; simp only [extGo, e]
    | non => left; simp only [extGo, e]
    | bor _ _ => left; simp only [extGo, e]
  ·left
   cases e : s1[k]? with
   | none => simp only [extGo, e]
   | some y => cases y with
    | own w u => cases w with
     | true => simp only [extGo, e, if_neg hz]
     | false => simp only [extGo, e]
    | non => simp only [extGo, e]
    | bor _ _ => simp only [extGo, e]
 by_cases h : ∃ k p rr l m, rs = .plc k p :: rr ∧ ds = [.nd (.lst true) l, .nd (.lst true) m]
 ·obtain ⟨k, p, rr, l, m, h1, h2⟩ := h
  exact main k p rr l m h1 h2
 ·left
  unfold extGo
  split
  case h_1 => exact (h ⟨_, _, _, _, _, rfl, rfl⟩).elim
  case h_2 => rfl
section
variable {R : RC} {ix : List Nat} {hd : List (Nat × Addr)} {X : Cx} {H H1 : Hp} {σ : L2.St} {ts : Ts} {fr : List T}
theorem Z264 {f : AF} (σ : L2.St) (H : Hp) (Q : VK) (q : lE R ix (eExt f) σ H Q) : lA R ix f σ H fun vs H1 => ∃ a b xs zs, vs = [.ref a, .ref b] ∧ H1 a = some (.lst xs) ∧ H1 b = some (.lst zs) ∧ xs.length + zs.length ≤ sizeLine ∧ Q .non (upd H1 a (.lst (xs ++ zs))) := by
 obtain ⟨hd, ts, fr, C, q⟩ := q
 refine ⟨hd, ts, fr, C, ?_⟩
 unfold eExt at q
 cases ef : f (ts.map TL.er) with
 | no => rw [ef] at q; exact q
 | ex E s1 => rw [ef] at q; exact q
 | ok rs s1 =>
  rw [ef] at q
  intro H1 ts1 tvs vs e1 e2 hv C1
  subst e1 e2
  dsimp only at q
  cases ed : drefs (ts1.map TL.er) (tvs.map TV.er) with
  | none => rw [ed] at q; exact q.elim
  | some ds =>
   rw [ed] at q
   dsimp only at q
   rcases Z136 (s1 := ts1.map TL.er) (rs := tvs.map TV.er) (ds := ds) with z | ⟨k, p, rr, l, m, u, er, rfl, hk, i1, i2, hz, ez⟩
   ·rw [z] at q; exact q.elim
   ·rw [ez] at q
    obtain ⟨lt, l1, l2, l3, l4, l5⟩ := Z74 C1 hv (T.oks_app.mp C1.fok).1 ed
    obtain ⟨t0, t1, rfl, g0, g1⟩ := ers2 l1
    obtain ⟨a, ch, rfl, rfl⟩ := Z316 g0
    obtain ⟨b, cm, rfl, rfl⟩ := Z316 g1
    have hl : tvs.length = 2 := l4.symm
    obtain ⟨tv0, tv1, rfl⟩ := len2 hl
    rcases l5 0 tv0 _ rfl rfl with z | ⟨k', p', a', w, u', z, hk', hp'⟩
    ·subst z; simp [TV.er] at er
    ·subst z
     simp only [List.map_cons, TV.er, List.cons.injEq, DV.plc.injEq] at er
     obtain ⟨⟨rfl, rfl⟩, _⟩ := er
     rw [List.getElem?_map, hk'] at hk
     simp only [Option.map_some, TL.er, Option.some.injEq, DL.own.injEq] at hk
     obtain ⟨rfl, rfl⟩ := hk
     refine ⟨a, b, ch.map T.val, cm.map T.val, l2.symm, l3.1.1, l3.2.1.1, by simpa [Z88] using hz, ?_⟩
     have hro1 : ∀ c ∈ cm, ∀ x ∈ c.ro, x ∈ roS ts1 ∨ x ∈ T.ros (trs [TV.plc k' p' a', tv1] ++ fr) := by
      intro c hc x hx
      have hx2 : x ∈ T.ros cm := T.mem_ros.mpr ⟨c, hc, hx⟩
      rcases l5 1 tv1 _ rfl rfl with z | ⟨k2, p2, a2, w2, u2, z, hk2, hp2⟩
      ·subst z
       right
       rw [T.ros_app]
       refine List.mem_append_left _ (T.mem_ros.mpr ⟨.nd b (.lst true) cm, by simp [trs, TV.tr], ?_⟩)
       simpa [T.ro, NK.mut] using hx2
      ·left
       obtain ⟨c3, r3, K3⟩ := T.ctx hp2
       exact Z327.mpr ⟨w2, u2, List.mem_of_getElem? hk2, K3.ro.mem_iff.mpr (List.mem_append_right _ (by simpa [T.ro, NK.mut] using hx2))⟩
     have W := set_list (cs := ch ++ cm) C1 hk' hp' (fun c hc => by
      rcases List.mem_append.mp hc with hc | hc
      ·refine ⟨Z202 i1 c hc, T.oks_iff.mp l3.1.2 c hc, fun x hx => .inl ?_⟩
       obtain ⟨c3, r3, K3⟩ := T.ctx hp'
       exact Z327.mpr ⟨true, u', List.mem_of_getElem? hk', K3.ro.mem_iff.mpr (List.mem_append_right _ (by simpa [T.ro, NK.mut] using T.mem_ros.mpr ⟨c, hc, hx⟩))⟩
      ·exact ⟨Z202 i2 c hc, T.oks_iff.mp l3.2.1.2 c hc, hro1 c hc⟩)
     rw [List.map_append] at W
     refine q _ _ (.val (.at .non)) .non ?_ rfl rfl (W.drops.at .non)
     rw [wr_er hk']
     simp only [T.er, Z87]
theorem Z317 {K : PySem.W.Frag} {H : Hp} {t : T} (h : isLst t.er = true) (ok : t.ok H) : ∃ a m ch, t = .nd a (.lst m) ch ∧ SqL K H a (ch.map T.val) := by
 cases t with
 | «at» v => simp [T.er, isLst] at h
 | nd a k ch => cases k with
  | lst m => exact ⟨a, m, ch, rfl, ok.1.sqL⟩
  | _ => simp [T.er, isLst] at h
theorem Z470 {o e : Expr} {apos cpos : Pos} {fo fe : EF} (ho : PE X o (lE R ix fo)) (he : PE X e (lE R ix fe)) (hbase : attributeBase o "extend" X.env (eval o X.env) = eval o X.env := by rfl)
  (hfew : ((backTo cpos (starEach [e] X.env)).all (fun x => !x.1) && (backToKw cpos (keywordEach [] X.env)).all (fun x => x.1.isSome) && decide ([e].length + ([] : List Keyword).length + (if ([] : List Keyword).isEmpty then 0 else 1) < 30)) = true := by rfl)
  (hline : (apos.endLine == cpos.line) = true := by rfl) (hs : starEach [e] X.env = (false, eval e X.env) :: starEach [] X.env := by rfl) (hplain : (backTo cpos (starEach [] X.env)).any (·.1) = false := by rfl) :
  PE X (.Call (.Attribute o "extend" apos) [e] [] cpos) (lE R ix (eExt (aCons (eGuard isLst fo) (aCons fe aNil)))) :=
 peM (pe_bm PySem.F.plainAttrs_list PySem.F.slot_list_extend PySem.F.type_list_extend Z335 ho (Z393 he Z394 hs) hbase hfew hline hs hplain) fun σ H Q q => by
  have q1 := lA_2 (Z264 σ H Q q)
  refine Z271 (fun x H1 q => ?_) (Z270 q1)
  obtain ⟨⟨t0, rfl, t2, t3⟩, q⟩ := q
  obtain ⟨a, m, ch, rfl, hD⟩ := Z317 (K := X.K) t3 t2
  refine ⟨.inl ⟨rfl, _, hD⟩, Z271 (fun y H2 q => ?_) q⟩
  obtain ⟨a', b, xs, zs, ev, h1, h2, hz, qq⟩ := q
  simp only [List.cons.injEq, and_true] at ev
  exact ⟨a', b, xs, zs, ev.1, by rw [ev.2], h1, h2, hz, qq⟩

noncomputable def eClr (f : EF) : EF := fun s => match f s with
 | .ok (.plc k p) s1 => (match dref s1 (.plc k p), s1[k]? with
  | some (.nd (.lst true) _), some (.own true _) => .ok (.val (.at .non)) (wr s1 k p (.nd (.lst true) []) fun _ => false)
  | _, _ => .no)
 | .ok (.val (.nd (.lst true) _)) s1 => .ok (.val (.at .non)) s1
 | .ok _ _ => .no
 | .ex C s1 => .ex C s1
 | .no => .no
end
end RM
set_option Elab.async false
set_option linter.all false
set_option maxRecDepth 100000

namespace RM
open PySem PySem.Spec PyProof.Rows L2
section
variable {R : RC} {ix : List Nat} {hd : List (Nat × Addr)} {X : Cx} {H H1 : Hp} {σ : L2.St} {ts : Ts} {fr : List T}
end
end RM
set_option Elab.async false
set_option linter.all false
set_option maxRecDepth 100000

namespace RM
open PySem PySem.Spec PyProof.Rows L2
noncomputable def graftS (j k : Nat) (p : List Nat) (n : D) (len : Nat) (s1 : Sd) : Sd := ((wr (wr s1 j [] hole fun _ => false) k p n fun _ => true).map (unrootD j)).set j (.bor k (p ++ [len]))
noncomputable def graftGo (j : Nat) (s1 : Sd) : List DV → List D → SR
 | .plc k p :: _, [.nd (.dit true ks) l, .nd .tup kl] => (match s1[j]?, s1[k]?, keysD kl with
  | some (.own true t), some (.own true _), some key => if k ≠ j ∧ t.imm = false ∧ idk key ks = none ∧ l.length < sizeLine then .nx (graftS j k p (.nd (.dit true (ks ++ [key])) (l ++ [t])) l.length s1) else .no
  | _, _, _ => .no)
 | _, _ => .no
noncomputable def sGraft (j : Nat) (f : AF) : SF := fun s => match s[j]? with
 | some (.own true _) => (match f s with
  | .ok rs s1 => (match drefs s1 rs with | some ds => graftGo j s1 rs ds | none => .no)
  | .ex C s1 => .ex C s1
  | .no => .no)
 | _ => .no
theorem Z170 {j : Nat} {s1 : Sd} {rs : List DV} {ds : List D} : graftGo j s1 rs ds = .no ∨ ∃ k p rr ks l kl t u key, rs = .plc k p :: rr ∧ ds = [.nd (.dit true ks) l, .nd .tup kl] ∧ s1[j]? = some (.own true t) ∧ s1[k]? = some (.own true u) ∧ keysD kl = some key ∧ k ≠ j ∧ t.imm = false ∧ idk key ks = none ∧ l.length < sizeLine ∧
  graftGo j s1 rs ds = .nx (graftS j k p (.nd (.dit true (ks ++ [key])) (l ++ [t])) l.length s1) := by
 by_cases h : ∃ k p rr ks l kl t u key, rs = .plc k p :: rr ∧ ds = [.nd (.dit true ks) l, .nd .tup kl] ∧ s1[j]? = some (.own true t) ∧ s1[k]? = some (.own true u) ∧ keysD kl = some key ∧ (k ≠ j ∧ t.imm = false ∧ idk key ks = none ∧ l.length < sizeLine)
 ·obtain ⟨k, p, rr, ks, l, kl, t, u, key, rfl, rfl, h1, h2, h3, h4⟩ := h
  exact .inr ⟨k, p, rr, ks, l, kl, t, u, key, rfl, rfl, h1, h2, h3, h4.1, h4.2.1, h4.2.2.1, h4.2.2.2, by simp only [graftGo, h1, h2, h3, if_pos h4]⟩
 ·left
  unfold graftGo
  split
  case h_2 => rfl
  case h_1 k p rr ks l kl =>
   split
   case h_2 => rfl
   case h_1 t u key h1 h2 h3 =>
    split
    case isTrue h4 => exact (h ⟨k, p, rr, ks, l, kl, t, u, key, rfl, rfl, h1, h2, h3, h4⟩).elim
    case isFalse => rfl
section
variable {R : RC} {ix : List Nat} {hd : List (Nat × Addr)} {X : Cx} {H H1 : Hp} {σ : L2.St} {ts : Ts} {fr : List T}
set_option maxHeartbeats 2000000 in
theorem Z281 {f : AF} {i j : Nat} (hix : ix[i]? = some j) (hnd : ix.Nodup) (D : Ends) (σ : L2.St) (H : Hp) (h : lS R ix (sGraft j f) D σ H) :
  ∃ v, σ[i]? = some (some v) ∧ lA R ix f σ H fun vs H3 => ∃ x y a H4, vs = [x, y] ∧ x = .ref a ∧ DPut H3 a y v H4 ∧ D.nx σ H4 := by
 obtain ⟨hd, ts, fr, C, q⟩ := h
 unfold sGraft at q
 rw [List.getElem?_map] at q
 cases ej : ts[j]? with
 | none => rw [ej] at q; exact q.elim
 | some y =>
  rw [ej] at q
  cases y with
  | non => exact q.elim
  | bor _ _ _ => exact q.elim
  | own w t0 => cases w with
   | false => exact q.elim
   | true =>
    have hσ := C.sl i j _ _ hix ej rfl
    refine ⟨t0.val, hσ, hd, ts, fr, C, ?_⟩
    simp only [Option.map_some, TL.er] at q
    cases ef : f (ts.map TL.er) with
    | no => rw [ef] at q; exact q
    | ex E s1 => rw [ef] at q; intro H1 ts1 e1 C1; exact q H1 σ ts1 e1 C1
    | ok rs s1 =>
     rw [ef] at q
     intro H1 ts1 tvs vs e1 e2 hv C1
     subst e1 e2
     dsimp only at q
     cases ed : drefs (ts1.map TL.er) (tvs.map TV.er) with
     | none => rw [ed] at q; exact q.elim
     | some ds =>
      rw [ed] at q
      dsimp only at q
      rcases Z170 (j := j) (s1 := ts1.map TL.er) (rs := tvs.map TV.er) (ds := ds) with z | ⟨k, p, rr, ks, l, kl, td, ud, key, er, rfl, hj, hk, hkey, hkj, him, hidk, hz, ez⟩
      ·rw [z] at q; exact q.elim
      ·rw [ez] at q
       obtain ⟨lt, l1, l2, l3, l4, l5⟩ := Z74 C1 hv (T.oks_app.mp C1.fok).1 ed
       obtain ⟨x0, x1, rfl, g0, g1⟩ := ers2 l1
       have hl : tvs.length = 2 := l4.symm
       obtain ⟨tv0, tv1, rfl⟩ := len2 hl
       cases x0 with
       | «at» v => simp [T.er] at g0
       | nd a kd ch =>
        simp only [T.er, RM.D.nd.injEq] at g0
        obtain ⟨rfl, rfl⟩ := g0
        cases x1 with
        | «at» v => simp [T.er] at g1
        | nd b kd' cl' =>
         simp only [T.er, RM.D.nd.injEq] at g1
         obtain ⟨rfl, rfl⟩ := g1
         rcases l5 0 tv0 _ rfl rfl with z | ⟨k', p', a', w, u', z, hk', hp'⟩
         ·subst z; simp [TV.er] at er
         ·subst z
          simp only [List.map_cons, TV.er, List.cons.injEq, DV.plc.injEq] at er
          obtain ⟨⟨rfl, rfl⟩, _⟩ := er
          rw [List.getElem?_map, hk'] at hk
          simp only [Option.map_some, TL.er, Option.some.injEq, DL.own.injEq] at hk
          obtain ⟨rfl, rfl⟩ := hk
          rw [List.getElem?_map] at hj
          cases ej1 : ts1[j]? with
          | none => rw [ej1] at hj; cases hj
          | some y1 =>
           rw [ej1] at hj
           cases y1 with
           | non => cases hj
           | bor _ _ _ => cases hj
           | own w1 t =>
            simp only [Option.map_some, TL.er, Option.some.injEq, DL.own.injEq] at hj
            obtain ⟨rfl, rfl⟩ := hj
            have hvt : t.val = t0.val := by
             have := C1.sl i j _ _ hix ej1 rfl
             rw [hσ] at this
             simpa using this.symm
            obtain ⟨at', hat⟩ := Z660 t him
            have C0 := C1.drops
            have ok0 := C0.ok true t (List.mem_of_getElem? ej1)
            have C2 : Cf R ix hd H1 σ ((ts1.set j (.own true (T.put (.at (.ref at')) [] t))).map (killT j [] fun _ => false)) (t :: fr) := Cf.exch (s := t) (x := []) C0 ej1 rfl (by rw [hat]; rfl) trivial ⟨ok0, C0.fok⟩ (by simp [T.own, T.owns_cons]) (fun x hx => by
             rcases hx with hx | hx
             ·simp [T.ro] at hx
             ·rw [T.ros_cons] at hx; exact List.mem_append.mp hx)
            have hk2 : ((ts1.set j (.own true (T.put (.at (.ref at')) [] t))).map (killT j [] fun _ => false))[k']? = some (.own true u') := by
             rw [List.getElem?_map, List.getElem?_set, if_neg (Ne.symm hkj), hk']; rfl
            obtain ⟨nk1, nk2, nk3⟩ := (show NodeOk H1 a (.dit true ks) (ch.map T.val) from l3.1.1)
            have ho : HoOk (.dT ((ks ++ [key]).zip (ch.map T.val ++ [t.val]))) (.dit true (ks ++ [key])) (ch.map T.val ++ [t.val]) := ⟨by simp at nk1 ⊢; omega, Z351 nk2 (Z200 hidk), rfl⟩
            have W := Z0 (tvs := [.val t]) (m := 0) (fr := fr) C2 hk2 hp' rfl rfl ho
            have hkk : ((((ts1.set j (.own true (T.put (.at (.ref at')) [] t))).map (killT j [] fun _ => false)).set k' (.own true (T.put (.nd a (.dit true (ks ++ [key])) (ch ++ [t])) p' u'))).map (killT k' p' fun _ => true))[k']? = some (.own true (T.put (.nd a (.dit true (ks ++ [key])) (ch ++ [t])) p' u')) := by
             rw [List.getElem?_map, List.getElem?_set, if_pos rfl, if_pos (List.getElem?_eq_some_iff.mp hk2).1]; rfl
            have hgt : (T.put (.nd a (.dit true (ks ++ [key])) (ch ++ [t])) p' u').get (p' ++ [ch.length]) = some t := by
             rw [Z163 hp']
             simp [T.get]
            have W2 := Cf.slot (i := i) (j := j) (y := .bor k' (p' ++ [ch.length]) at') (m := []) (v := .ref at') (fr := fr) W hix hnd rfl (.inr ⟨rfl, k', _, at', rfl, hkj, true, _, t, hkk, hgt, hat⟩)
            have hσ2 : σ.set i (some (.ref at')) = σ := by
             refine List.ext_getElem? fun n => ?_
             rw [List.getElem?_set]
             by_cases hn : i = n
             ·subst hn
              rw [if_pos rfl, if_pos (List.getElem?_eq_some_iff.mp hσ).1, hσ, ← hvt, hat]
             ·rw [if_neg hn]
            rw [hσ2] at W2
            refine ⟨.ref a, .ref b, a, upd H1 a (.dT (putK (ks.zip (ch.map T.val)) key t0.val)), l2.symm, rfl, DPut.t nk3 (show H1 b = some (.tup (key.map kV)) by rw [← Z251 hkey]; exact l3.2.1.1) (by rw [Z88] at hz; simp; omega), ?_⟩
            have e9 := Z453 (k := key) (v := t.val) nk1 nk2
            rw [hidk] at e9
            dsimp only at e9
            rw [← hvt, e9]
            refine q _ _ _ ?_ W2
            unfold graftS
            have w1 := wr_er (p := []) (s' := T.at (.ref at')) (keep := fun _ => false) ej1
            have w2 := wr_er (p := p') (s' := .nd a (.dit true (ks ++ [key])) (ch ++ [t])) (keep := fun _ => true) hk2
            rw [w1] at w2
            rw [List.map_set, List.map_map]
            have un : ∀ l : Ts, l.map (TL.er ∘ unrootT j) = (l.map TL.er).map (unrootD j) := fun l => by
             rw [List.map_map]; exact List.map_congr_left fun s _ => Z601 s
            rw [un, w2]
            simp only [T.er, Z87, T.ers, TL.er, Z88, cl, hole]
theorem Z506 {o ie value : Expr} {pos pos' : Pos} {fo fi : EF} {i j : Nat} (hu : X.A.units + 1 < cLine) (ho : PE X o (lE R ix fo)) (hi : PE X ie (lE R ix fi)) (hv : PE X value (tVar i)) (hix : ix[i]? = some j) (hnd : ix.Nodup) (hs : swapsWith value (some (.Subscript o ie pos')) pos.line X.env = pure false := by rfl) :
  PS X (.Assign [.Subscript o ie pos'] value pos) (lS R ix (sGraft j (aCons fo (aCons fi aNil)))) := psM (Z438 hu ho hi hv hs) fun D σ H h => by
 obtain ⟨v, hσ, q⟩ := Z281 hix hnd D σ H h
 refine ⟨v, hσ, Z271 (fun x H2 q => Z271 (fun y H3 q => ?_) q) (lA_2 q)⟩
 obtain ⟨x', y', a, H4, e, ex, p1, p2⟩ := q
 simp only [List.cons.injEq, and_true] at e
 obtain ⟨rfl, rfl⟩ := e
 exact ⟨a, H4, ex, p1, p2⟩
end
end RM
set_option Elab.async false
set_option linter.all false
set_option maxRecDepth 100000

namespace RM
open PySem PySem.Spec PyProof.Rows L2
theorem two_sz {α : Type} {a b : α} : [a, b].length ≤ sizeLine := by show 2 ≤ sizeLine; decide
section
variable {X : Cx} {pins : List (Addr × Obj)} {σ : L2.St} {H : Hp} {s : Shared} {h' : Heap}
theorem Z217 {t' : Nat} {e it a : Addr} {o : HO} (I : Inv X pins σ H s) (k : ∀ b u, b ≠ e → b ≠ it → s.heap.get? b = some u → h'.get? b = some u) (he : FpOk X pins H e) (hi : FpOk X pins H it) (hp : s.heap.objs.size ≤ a) (new : ObjOk X.prog X.w (upd H a o) h' a o) :
  Inv X pins σ (upd H a o) { s with heap := h', toks := t' } := by
 have hn : H a = none := I.hok.fresh hp
 have nit : ∀ b u, H b = some u → (b ≠ e) ∧ (b ≠ it) := fun b u q => ⟨fun z => (by rw [z, he.1] at q; cases q), fun z => (by rw [z, hi.1] at q; cases q)⟩
 have na : ∀ b u, s.heap.get? b = some u → b ≠ a := fun b u q => Nat.ne_of_lt (Nat.lt_of_lt_of_le (Heap.lt_size q) hp)
 have nc : ∀ {b : Addr}, b ∉ [e, it] → b ≠ e ∧ b ≠ it := fun {b} z => by simpa using z
 refine I.step (g' := s.gens) (d' := s.drawn) (ch := [e, it]) (fun b hb => ?_) (fun b o _ _ hc e _ => k b o (nc hc).1 (nc hc).2 e) (fun b o _ _ hc e _ => ⟨o.slots, k b o (nc hc).1 (nc hc).2 e⟩) (fun b o _ q n => by rw [Z604 (na b o q)]; exact n)
  (fun b o hc e => ⟨o, k b o (nc hc).1 (nc hc).2 e⟩) (fun b xs q => by rw [Z604 (Z352 q hn)]; exact q) (fun b u xs q => by rw [Z604 (Z352 q hn)]; exact q) (fun b ps q => ⟨#[], by rw [Z604 (Z352 q hn), q]; simp⟩) (fun m hm => ?_) (fun b u q => ?_) I.bare
 ·have z : b = e ∨ b = it := by simpa using hb
  rcases z with rfl | rfl
  ·exact ⟨he.2.2.2.1, he.2.1, he.2.2.2.2.1, he.2.2.2.2.2⟩
  ·exact ⟨hi.2.2.2.1, hi.2.1, hi.2.2.2.2.1, hi.2.2.2.2.2⟩
 ·obtain ⟨o, es, ep, ho, r⟩ := hm
  exact ⟨o, es, ep, k _ o (Ne.symm he.2.1) (Ne.symm hi.2.1) ho, r⟩
 ·by_cases hb : b = a
  ·subst hb; rw [Z605] at q; cases q; exact new
  ·rw [Z604 hb] at q
   refine (I.hok b u q).stay (fun c v hc r => ?_) (fun c r => by rw [Z604 (Z352 r hn)]; exact r) fun c xs r => by rw [Z604 (Z352 r hn)]; exact r
   rcases hc with z | z
   ·rw [z] at r ⊢; exact k b v (nit b u q).1 (nit b u q).2 r
   ·exact k c v (nit c _ z).1 (nit c _ z).2 r
noncomputable def Ite (K : PySem.W.Frag) (a : Addr) : It :=
 ⟨(Itl K a).go, fun i H x H' => ∃ b y, x = .ref b ∧ H b = none ∧ H' = upd H b (.tup [.int i, y]) ∧ ∀ xs, SqL K H a xs → xs[i]? = some y, (Itl K a).stop⟩
theorem Z590 {P : Program} {w : World} {K : PySem.W.Frag} {elts : List Expr} {x1 : Nat} {pos : Pos} (a e it : Addr) (hne : e ≠ it) : Turn P w K (.Tuple elts x1 pos) (Ite K a) [e, it] e (fun i h => ∃ old, IsEnum h e it i old ∧ h.IsListIter it a i) where
 mem := by simp
 obj := fun i h st b hb => by
  obtain ⟨old, st, sl⟩ := st
  have z : b = e ∨ b = it := by simpa using hb
  rcases z with rfl | rfl
  ·exact ⟨_, st, fun v z => by
    have z' : Data.fields _ = Data.cell v := z
    cases z'⟩
  ·obtain ⟨o, e, c, d⟩ := sl
   exact ⟨o, e, fun v z => by rw [d] at z; cases z⟩
 keep := fun i h h' st k => by
  obtain ⟨old, st, sl⟩ := st
  exact ⟨old, k e (by simp) _ st, sl.at fun o q => k it (by simp) o q⟩
 item := by
  intro X hP hw hK hc i pins s σ H E I hf st hg
  subst hP hw hK
  obtain ⟨old, st, sl⟩ := st
  obtain ⟨xs, x, hq, hx⟩ := hg
  obtain ⟨its, rv, p, hz⟩ := I.list hq
  obtain ⟨u, hu, ru⟩ := rv.get hx
  refine wpAny_pyNext_enum_item st sl p.isList (x := u) (by simpa using hu) hne fun h1 heo hit1 ht1 hz1 hk1 => ?_
  refine ⟨_, rfl, wpAny_letOwnedTupleGo_enum heo fun h2 he2 hs2 => ?_⟩
  replace hs2 : Heap.SameBut e h1 h2 := hs2
  have hlt : e < s.heap.objs.size := Heap.lt_size st
  have ht2 : h2.get? s.heap.objs.size = some { cls := .type "tuple", data := .seq #[.int i s.toks, u] } := (hs2.2 _ (Nat.ne_of_gt hlt)).trans ht1
  have I1 : Inv X pins σ (upd H s.heap.objs.size (.tup [.int i, x])) { s with heap := h2, toks := s.toks + 1 } := Z217 I (e := e) (it := it) (fun b o h1' h2' q => (hs2.2 b h1').trans (hk1 b o h1' h2' q)) (hf e (by simp)) (hf it (by simp)) (Nat.le_refl _) (show ObjOk X.prog X.w _ h2 _ (.tup [.int i, x]) from ⟨two_sz, [.int i s.toks, u], .cons ⟨_, rfl⟩ (.cons ru .nil), ⟨_, ht2, rfl, _, rfl⟩⟩)
  refine ⟨.ref s.heap.objs.size, _, I1, rfl, ⟨_, x, rfl, I.hok.fresh (Nat.le_refl _), rfl, fun ys hy => by rw [I.list_inj hy hq]; exact hx⟩, ⟨u, ?_, ?_⟩, fun b hb => ?_⟩
  ·have : ((i + 1 : Nat) : Int) = (i : Int) + 1 := by push_cast; rfl
   rw [this]; exact he2
  ·exact hit1.extBut hs2.extBut (Ne.symm hne)
  ·have nb : b ≠ s.heap.objs.size := by
    have z : b = e ∨ b = it := by simpa using hb
    rcases z with rfl | rfl
    ·exact Nat.ne_of_lt hlt
    ·obtain ⟨o, q, _⟩ := sl
     exact Nat.ne_of_lt (Heap.lt_size q)
   rw [Z604 nb]; exact (hf b hb).1
 done := by
  intro X hP hw hK hc i pins s σ H E I hf st hg
  subst hP hw hK
  obtain ⟨old, st, sl⟩ := st
  obtain ⟨xs, hq, hx⟩ := hg
  obtain ⟨its, rv, p, hz⟩ := I.list hq
  obtain ⟨f0, f1, f2, f3, f4, f5⟩ := hf it (by simp)
  have hl := rv.length
  exact wpAny_pyNext_enum_end (I.ok.hd hc) st sl p.isList (by simp; omega) fun h' eb => ⟨rfl, I.turned (t' := s.toks) (fun b o hb q => eb b o hb q) f0 f1 f3 f4 f5⟩
 self := fun _ _ _ _ _ st h => by
  obtain ⟨old, st, sl⟩ := st
  exact wpAny_pyIter_enum st h
noncomputable def iEnum (K : PySem.W.Frag) (tl : TE) : TI := fun σ H R => tl σ H fun x H1 => ∃ a, x = .ref a ∧ (∃ xs, SqL K H1 a xs) ∧ R (Ite K a) H1
theorem Z429 {l : Expr} {tl : TE} {elts : List Expr} {x1 : Nat} {tpos p pos : Pos} (hg : Gl X "enumerate") (hm : X.mg "enumerate" = none) (hl : PE X l tl) (hs : starEach [l] X.env = [(false, eval l X.env)] := by rfl) :
  PI X (.Tuple elts x1 tpos) (.Call (.Name "enumerate" p) [l] [] pos) (iEnum X.K tl) := by
 intro pins s σ H R I h
 refine Call_ (Z298 I hg hm boot_enumerate (PyProof.Rows.callWith_type1 (thn (Z393 hl Z394 hs pos pins s σ H (fun vs H1 => match vs with | [x] => ∃ a, x = .ref a ∧ (∃ xs, SqL X.K H1 a xs) ∧ R (Ite X.K a) H1 | _ => False) I h) fun us s1 ⟨vs, H1, I1, r1, q1⟩ => ?_) hs rfl))
 cases r1 with
 | nil => exact q1.elim
 | cons r rr =>
  cases rr with
  | cons _ _ => exact q1.elim
  | nil =>
   obtain ⟨a, e, ⟨xs, hq⟩, q⟩ := q1
   subst e
   cases r
   obtain ⟨its, rv, p, hz⟩ := I1.list hq
   refine call_enumerate_list p.isList fun h' he hit hsz hk => wpAny_pyIter_enum he ?_
   have hne : s1.heap.objs.size + 1 ≠ s1.heap.objs.size := Nat.succ_ne_self _
   refine ⟨s1.heap.objs.size + 1, [s1.heap.objs.size + 1, s1.heap.objs.size], _, _, H1, rfl, I1.kept (t' := s1.toks) hk, Z590 a _ _ hne, ⟨_, he, hit⟩, fun b hb => ?_, q⟩
   have e : b = s1.heap.objs.size + 1 ∨ b = s1.heap.objs.size := by simpa using hb
   rcases e with e | e
   ·subst e
    exact I1.fpOk (Nat.le_succ _) (I1.hok.fresh (Nat.le_succ _))
   ·subst e
    exact I1.fpOk (Nat.le_refl _) (I1.hok.fresh (Nat.le_refl _))
end
noncomputable def itE (n k : Nat) (p : List Nat) (i : Nat) (s : Sd) : Option (Option DV) := match itP false n k p i s with
 | some (some (.val d)) => some (some (.val (.nd .tup [.at (.int i), d])))
 | some none => some none
 | _ => none
noncomputable def lenOf : Option D → Option Nat
 | some (.nd (.lst _) l) => some l.length
 | _ => none
noncomputable def sForE (f : EF) (b : Sd → DV → Option Sd) (body : SF) : SF := fun s => match f s with
 | .ok (.plc k p) s1 => (match lenOf (dref s1 (.plc k p)) with
  | some m => fin s1.length (loopG (itE s1.length k p) b body (m + 1) 0 (s1 ++ [.bor k p]))
  | none => .no)
 | .ok (.val d) s1 => (match lenOf (some d) with
  | some m => fin s1.length (loopG (itE s1.length s1.length []) b body (m + 1) 0 (s1 ++ [.own true d]))
  | none => .no)
 | .ex C s1 => .ex C s1
 | .no => .no
section
variable {K : PySem.W.Frag} {R : RC} {ix : List Nat} {hd hm : List (Nat × Addr)} {X : Cx} {e : Expr} {H H' : Hp} {σ : L2.St} {ts : Ts} {fr : List T} {D : Ends}
theorem Z219 {n k : Nat} {p : List Nat} {a : Addr} (i : Nat) (H : Hp) (σ : L2.St) (ts : Ts) (C : Cf R ix (hd ++ [(n, a)]) H σ ts fr) : (itE n k p i (ts.map TL.er) = some none → (Ite K a).stop i H) ∧ ∀ r, itE n k p i (ts.map TL.er) = some (some r) → (Ite K a).go i H ∧ ∀ x H', (Ite K a).yld i H x H' → ∃ tv, tv.er = r ∧ TvOk ts x tv ∧ Cf R ix (hd ++ [(n, a)]) H' σ ts (tv.tr ++ fr) := by
 obtain ⟨h1, h2⟩ := Z220 (K := K) (k := k) (p := p) i H σ ts C
 unfold itE
 cases ei : itP false n k p i (ts.map TL.er) with
 | none => exact ⟨(fun z => by cases z), (fun r z => by cases z)⟩
 | some y => cases y with
  | none => exact ⟨(fun _ => h1 ei), (fun r z => by cases z)⟩
  | some r => cases r with
   | plc _ _ => exact ⟨(fun z => by cases z), (fun r z => by cases z)⟩
   | val d =>
    refine ⟨(fun z => by cases z), fun r z => ?_⟩
    cases z
    obtain ⟨g, hy⟩ := h2 _ ei
    refine ⟨g, ?_⟩
    rintro _ _ ⟨b, y, rfl, hb, rfl, hx⟩
    obtain ⟨tv, e1, e2, e3⟩ := hy y H ⟨rfl, hx⟩
    obtain ⟨t, rfl, rfl, rfl⟩ := e2.er_val e1
    exact ⟨.val (.nd b .tup [.at (.int i), t]), rfl, rfl, Cf.wrap (ch := [.at (.int i), t]) (Cf.at e3 (.int i)) hb (show upd H b (.tup [.int i, t.val]) b = _ from Z605)⟩
theorem Z278 {f : EF} {b : Sd → DV → Option Sd} {body : SF} (D : Ends) (σ : L2.St) (H : Hp) (h : lS R ix (sForE f b body) D σ H) : tFor (iEnum K (lE R ix f)) (lG R ix b) (lS R ix body) D σ H := by
 obtain ⟨hd, ts, fr, C, h⟩ := h
 refine ⟨hd, ts, fr, C, ?_⟩
 unfold sForE at h
 cases ef : f (ts.map TL.er) with
 | no => rw [ef] at h; exact h
 | ex E s1 => rw [ef] at h; intro H1 ts1 e1 C1; exact h H1 σ ts1 e1 C1
 | ok r s1 =>
  rw [ef] at h
  intro H1 ts1 tv v e1 e2 hv C1
  subst e1
  have hlen : (ts1.map TL.er).length = ts1.length := by simp
  cases r with
  | plc k p =>
   obtain ⟨a, rfl, rfl, hp⟩ := hv.er_plc e2
   dsimp only at h
   refine ⟨a, rfl, ?_⟩
   obtain ⟨w, t, s, h1, h2, h3⟩ := id hp
   have hd1 : dref (ts1.map TL.er) (.plc k p) = some s.er := by simp only [dref, List.getElem?_map, h1, Option.map_some, TL.er, T.get_er, h2]
   have sok := T.get_ok h2 (C1.ok w t (List.mem_of_getElem? h1))
   rw [hd1, hlen] at h
   have C2 : Cf R ix (hd ++ [(ts1.length, a)]) H1 σ (ts1 ++ [.bor k p a]) fr := Cf.hide C1 hp
   cases s with
   | «at» v => exact h.elim
   | nd b' kd ch =>
    cases h3
    cases kd with
    | lst m =>
     refine ⟨⟨_, sok.1.sqL⟩, ?_⟩
     refine Z315 (it := itE ts1.length k p) (m := ch.length + 1) Z219 C2 ?_
     have := Z156 (hm := [(ts1.length, a)]) C1.ixs C1.hdi h
     simpa [TL.er, T.ers_eq] using this
    | _ => exact h.elim
  | val d =>
   obtain ⟨t, rfl, rfl, rfl⟩ := hv.er_val e2
   dsimp only at h
   cases t with
   | «at» v => exact h.elim
   | nd a kd ch =>
    refine ⟨a, rfl, ?_⟩
    rw [hlen] at h
    have C2 : Cf R ix (hd ++ [(ts1.length, a)]) H1 σ (ts1 ++ [.own true (.nd a kd ch)]) fr := Cf.push (a := a) C1 rfl
    have sok := C1.fok.1
    cases kd with
    | lst m =>
     refine ⟨⟨_, sok.1.sqL⟩, ?_⟩
     refine Z315 (it := itE ts1.length ts1.length []) (m := ch.length + 1) Z219 C2 ?_
     have := Z156 (hm := [(ts1.length, a)]) C1.ixs C1.hdi h
     simpa [TL.er, T.er, T.ers_eq] using this
    | _ => exact h.elim
theorem Z502 {l : Expr} {elts : List Expr} {x1 : Nat} {bs : List Stmt} {f : EF} {b : Sd → DV → Option Sd} {body : SF} {tpos p pos fpos : Pos} (hp : PassesOwn (model X.prog X.w) X.A X.env X.xe) (hc : X.calm = true) (hgl : Gl X "enumerate") (hm : X.mg "enumerate" = none) (hl : PE X l (lE R ix f)) (hg : PG X (.Tuple elts x1 tpos) (lG R ix b)) (hb : PSs X bs (lS R ix body))
  (hst : starEach [l] X.env = [(false, eval l X.env)] := by rfl) (hs : ∀ x, foldedSetIterable (.Call (.Name "enumerate" p) [l] [] pos) X.env x = pure x := by intro _; rfl) : PS X (.For (.Tuple elts x1 tpos) (.Call (.Name "enumerate" p) [l] [] pos) bs [] fpos) (lS R ix (sForE f b body)) :=
 psM (Z441 hp hc (Z429 hgl hm hl hst) hg hb hs) Z278
theorem Z106 {e : EF} {f : SF} {s : Sd} {w : Sd → DV → Option Sd} : sForE e w f s = (match e s with
 | .ok (.plc k p) s1 => (match lenOf (dref s1 (.plc k p)) with
  | some m => fin s1.length (loopG (itE s1.length k p) w f (m + 1) 0 (s1 ++ [.bor k p]))
  | none => .no)
 | .ok (.val d) s1 => (match lenOf (some d) with
  | some m => fin s1.length (loopG (itE s1.length s1.length []) w f (m + 1) 0 (s1 ++ [.own true d]))
  | none => .no)
 | .ex C s1 => .ex C s1
 | .no => .no) := id rfl
theorem Z309 {n k : Nat} {p : List Nat} {l : List RM.D} {m : Bool} {b : Sd → DV → Option Sd} {body : SF} {s : Sd} (P : Nat → Sd → Prop) (h0 : P 0 s)
  (hh : ∀ i s, P i s → held n k p s = true ∧ dref s (.plc k p) = some (.nd (.lst m) l))
  (hs : ∀ (i : Nat) s c, l[i]? = some c → P i s → c.imm = true ∧ ∃ s1 s2, b s (.val (.nd .tup [.at (.int i), c])) = some s1 ∧ (body s1 = .nx s2 ∨ body s1 = .ct s2) ∧ P (i + 1) s2) :
  ∃ s', loopG (itE n k p) b body (l.length + 1) 0 s = .nx s' ∧ P l.length s' := by
 have it : ∀ i s, P i s → itP false n k p i s = some ((l[i]?).map (mkV k (p ++ [i]))) := by
  intro i s h
  obtain ⟨h1, h2⟩ := hh i s h
  unfold itP
  rw [h1, h2]
  rfl
 refine Z314 (P := P) (fun i s hi h => ?_) (fun s h => ?_) l.length 0 s (by omega) h0
 ·obtain ⟨hc, s1, s2, h1, h2, h3⟩ := hs i s l[i] (List.getElem?_eq_getElem hi) h
  refine ⟨_, s1, s2, ?_, h1, h2, h3⟩
  unfold itE
  rw [it i s h, List.getElem?_eq_getElem hi]
  simp only [Option.map_some, mkV, if_pos hc]
 ·unfold itE
  rw [it _ s h, List.getElem?_eq_none (Nat.le_refl _)]; rfl
end
end RM
set_option Elab.async false
set_option linter.all false
set_option maxRecDepth 100000

namespace RM
open PySem PySem.Spec PyProof.Rows L2
noncomputable def rngV (i : Int) (n : Nat) : List V := (List.range n).map fun k : Nat => V.int (i + (k : Int))
theorem Z84 {t : T} {i : Int} (h : t.er = .at (.int i)) : t = .at (.int i) := by
 cases t with
 | nd a k l => cases h
 | «at» u => cases u with
  | int j => cases h; rfl
  | _ => cases h
theorem Z392 {α : Type} {f : α → V} : ∀ l : List α, T.owns (l.map fun k => T.at (f k)) = []
 | [] => rfl
 | _ :: l => by rw [List.map_cons, T.owns, Z392 l]; rfl
theorem Z497 {α : Type} {f : α → V} : ∀ l : List α, T.ros (l.map fun k => T.at (f k)) = []
 | [] => rfl
 | _ :: l => by rw [List.map_cons, T.ros, Z497 l]; rfl
theorem Z662 : ∀ {xs : List V} {us : List Value}, xs.length = us.length → (∀ (j : Nat) x u, xs[j]? = some x → us[j]? = some u → L2.RelV x u) → Vals xs us
 | [], [], _, _ => .nil
 | [], _ :: _, h, _ => by simp at h
 | _ :: _, [], h, _ => by simp at h
 | x :: xs, u :: us, h, r => .cons (r 0 x u rfl rfl) (Z662 (by simpa using h) fun j y z a b => r (j + 1) y z (by simpa using a) (by simpa using b))
section
variable {X : Cx}
theorem Z37 : CallR X (.type "range") (fun xs H Q => ∃ i j : Int, xs = [.int i, .int j] ∧ ∀ p, H p = none → Q (.ref p) (upd H p (.rng i j))) := by
 intro pins s σ H xs us Q I r h
 obtain ⟨i, j, rfl, q⟩ := h
 cases r with
 | cons r rr =>
  cases rr with
  | cons r' rr =>
   cases rr
   obtain ⟨t, rfl⟩ := r
   obtain ⟨t', rfl⟩ := r'
   exact call_range_2 ⟨.ref s.heap.objs.size, _, I.laid (t' := s.toks + 1) (fun b o e => Heap.get?_push_of_some _ e) (Nat.le_refl _) (show ObjOk X.prog X.w _ _ _ (.rng i j) from ⟨t, t', s.toks, Heap.get?_push_size _ rfl⟩), rfl, q _ (I.hok.fresh (Nat.le_refl _))⟩
theorem Z34 (hc : X.calm = true) : CallR X (.type "list") (fun xs H Q => ∃ (p : Addr) (i j : Int), xs = [.ref p] ∧ H p = some (.rng i j) ∧ (-(2 ^ 62) ≤ i ∧ i < 2 ^ 62 ∧ -(2 ^ 62) ≤ j ∧ j < 2 ^ 62) ∧ (j - i).toNat ≤ sizeLine ∧ ∀ l, H l = none → Q (.ref l) (upd H l (.lst (rngV i (j - i).toNat)))) := by
 intro pins s σ H xs us Q I r h
 obtain ⟨p, i, j, rfl, hp, ⟨b1, b2, b3, b4⟩, hz, q⟩ := h
 obtain ⟨u, rfl, rx⟩ := vals1 r
 cases rx
 obtain ⟨t, u, v, e⟩ := I.hok p _ hp
 refine call_list_range (n := (j - i).toNat) (I.ok.hd hc) e (small_one b1 b2 b3 b4) (by rw [rangeSize_one]; split <;> omega) (by rw [sizeLine_eq] at hz; omega) fun h' tk acc' c' kp e' hi => ?_
 refine ⟨.ref s.heap.objs.size, _, I.laid (t' := tk) kp (Nat.le_refl _) (show ObjOk X.prog X.w _ h' _ (.lst (rngV i (j - i).toNat)) from ⟨by simpa [rngV] using hz, acc'.toList, c', ?_, e'⟩), rfl, q _ (I.hok.fresh (Nat.le_refl _))⟩
 refine Z662 (by simp [rngV, hi.1]) fun k x u hx hu => ?_
 obtain ⟨t, rfl⟩ := hi.2 k u (by simpa using hu)
 rw [rngV, List.getElem?_map] at hx
 have hk : k < (j - i).toNat := by
  rcases Nat.lt_or_ge k (j - i).toNat with z | z
  ·exact z
  ·rw [List.getElem?_eq_none (by simpa using z)] at hx; cases hx
 rw [List.getElem?_eq_getElem (by simpa using hk)] at hx
 simp only [List.getElem_range, Option.map_some, Option.some.injEq] at hx
 subst hx
 exact ⟨t, by rw [Int.mul_one]⟩
noncomputable def rngD (i : Int) (n : Nat) : List D := (List.range n).map fun k : Nat => D.at (.int (i + (k : Int)))
noncomputable def hRng : List D → Option D
 | [.at (.int i), .at (.int j)] => if (-(2 ^ 62) ≤ i ∧ i < 2 ^ 62 ∧ -(2 ^ 62) ≤ j ∧ j < 2 ^ 62) ∧ (j - i).toNat ≤ sizeLine then some (.nd (.lst true) (rngD i (j - i).toNat)) else none
 | _ => none
variable {R : RC} {ix : List Nat}
theorem Z477 {a b : Expr} {fa fb : EF} {p p2 pos pos2 : Pos} (hc : X.calm = true) (hl : Gl X "list") (hml : X.mg "list" = none) (hr : Gl X "range") (hmr : X.mg "range" = none) (ha : PE X a (lE R ix fa)) (hb : PE X b (lE R ix fb))
  (hst : starEach [a, b] X.env = (false, eval a X.env) :: starEach [b] X.env := by rfl) (hst2 : starEach [b] X.env = [(false, eval b X.env)] := by rfl) (hpl : (backTo pos2 (starEach [b] X.env)).any (·.1) = false := by rfl)
  (hst3 : starEach [Expr.Call (.Name "range" p2) [a, b] [] pos2] X.env = (false, eval (.Call (.Name "range" p2) [a, b] [] pos2) X.env) :: starEach [] X.env := by rfl) :
  PE X (.Call (.Name "list" p) [.Call (.Name "range" p2) [a, b] [] pos2] [] pos) (lE R ix (eNw hRng (aCons fa (aCons fb aNil)))) :=
 peM (Z400 (Z34 hc) hl hml boot_list (Z393 (Z400 Z37 hr hmr boot_range (Z393 ha (Z393 hb Z394 hst2) hst) (he := hst) (hpl := hpl)) Z394 hst3) (he := hst3)) fun σ H Q q => by
 have h := lA_2 (lA_nw σ H Q q)
 refine Z271 (fun x H1 h => Z271 (fun y H2 h => ?_) h) h
 obtain ⟨l, ok, hv, d, hh, q⟩ := h
 unfold hRng at hh
 split at hh
 case h_2 => cases hh
 case h_1 i j el =>
  split at hh
  case isFalse => cases hh
  case isTrue hb =>
   cases hh
   have hxy : x = .int i ∧ y = .int j := by
    obtain ⟨x0, x1, rfl, g0, g1⟩ := ers2 el
    cases Z84 g0
    cases Z84 g1
    simp only [List.map_cons, List.map_nil, T.val, List.cons.injEq, and_true] at hv
    exact ⟨hv.1.symm, hv.2.symm⟩
   obtain ⟨rfl, rfl⟩ := hxy
   refine ⟨i, j, rfl, fun p hp => ⟨p, i, j, rfl, Z605, hb.1, hb.2, fun l' hl' => ?_⟩⟩
   have hne : l' ≠ p := by rintro rfl; rw [Z605] at hl'; cases hl'
   rw [Z604 hne] at hl'
   refine q (.nd l' (.lst true) ((List.range (j - i).toNat).map fun k : Nat => T.at (.int (i + (k : Int))))) _ ?_ ⟨⟨?_, ?_⟩, ?_, ?_, ?_, ?_, ?_⟩
   ·simp only [T.er, T.ers_eq, rngD, List.map_map]; rfl
   ·show upd _ l' _ l' = _
    rw [Z605]; simp only [rngV, List.map_map]; rfl
   ·refine T.oks_iff.mpr fun t ht => ?_
    obtain ⟨k, _, rfl⟩ := List.mem_map.mp ht
    trivial
   ·rw [T.own, Z392]; simp [NK.mut]
   ·rw [T.own, Z392]; intro a' ha'; simp [NK.mut] at ha'; rw [ha']; exact hl'
   ·rw [T.ro, Z497]; intro a' ha'; simp [NK.mut] at ha'
   ·rw [T.ro, Z497]; intro a' ha'; simp [NK.mut] at ha'
   ·intro a' ha'
    rw [Z604 (by rintro rfl; exact ha' hl'), Z604 (by rintro rfl; exact ha' hp)]
end
end RM
set_option Elab.async false
set_option linter.all false
set_option maxRecDepth 100000

namespace RM
open PySem PySem.Spec PyProof.Rows L2
noncomputable def hPutL : List D → Option Mu
 | [_, .nd (.lst true) l, .at (.int k)] => (ixN l.length k).map fun j => .set j 0
 | _ => none
section
variable {R : RC} {ix : List Nat} {X : Cx}
end
section
variable {s : Sd} {e f : EF} {a : AF} {j : Nat}
theorem Z97 {c : Nat → BF} {g : Nat → EF} : eCompL f c g s = (match f s with
 | .ok (.plc k p) s1 => (match seqOf (dref s1 (.plc k p)) with
  | some (t, m) => compFin2 s1.length (compGo (itP t s1.length k p) (s1.length + 1) (c (s1.length + 1)) (g (s1.length + 1)) (m + 1) 0 [] (s1 ++ [.bor k p, .non]))
  | none => .no)
 | .ok (.val d) s1 => (match seqOf (some d) with
  | some (t, m) => compFin2 s1.length (compGo (itP t s1.length s1.length []) (s1.length + 1) (c (s1.length + 1)) (g (s1.length + 1)) (m + 1) 0 [] (s1 ++ [.own true d, .non]))
  | none => .no)
 | .ex C s1 => .ex C s1
 | .no => .no) := id rfl
theorem Z104 : eExt a s = (match a s with
 | .ok rs s1 => (match drefs s1 rs with | some ds => extGo s1 rs ds | none => .no)
 | .ex C s1 => .ex C s1
 | .no => .no) := id rfl
theorem Z105 {s1 : Sd} {k : Nat} {p : List Nat} {rr : List DV} {l m : List D} : extGo s1 (.plc k p :: rr) [.nd (.lst true) l, .nd (.lst true) m] = (match s1[k]? with
  | some (.own true _) => if D.imms l = true ∧ D.imms m = true ∧ l.length + m.length ≤ sizeLine then .ok (.val (.at .non)) (wr s1 k p (.nd (.lst true) (l ++ m)) fun _ => false) else .no
  | _ => .no) := id rfl
theorem Z109 : sGraft j a s = (match s[j]? with
 | some (.own true _) => (match a s with
  | .ok rs s1 => (match drefs s1 rs with | some ds => graftGo j s1 rs ds | none => .no)
  | .ex C s1 => .ex C s1
  | .no => .no)
 | _ => .no) := id rfl
theorem Z110 {s1 : Sd} {k : Nat} {p : List Nat} {rr : List DV} {ks : List (List Key)} {l kl : List D} : graftGo j s1 (.plc k p :: rr) [.nd (.dit true ks) l, .nd .tup kl] = (match s1[j]?, s1[k]?, keysD kl with
  | some (.own true t), some (.own true _), some key => if k ≠ j ∧ t.imm = false ∧ idk key ks = none ∧ l.length < sizeLine then .nx (graftS j k p (.nd (.dit true (ks ++ [key])) (l ++ [t])) l.length s1) else .no
  | _, _, _ => .no) := id rfl
end
end RM
namespace RM
open PySem PySem.Spec PyProof.Rows L2
section
variable {s : Sd} {f : EF}
theorem Z96 : eClr f s = (match f s with
 | .ok (.plc k p) s1 => (match dref s1 (.plc k p), s1[k]? with
  | some (.nd (.lst true) _), some (.own true _) => .ok (.val (.at .non)) (wr s1 k p (.nd (.lst true) []) fun _ => false)
  | _, _ => .no)
 | .ok (.val (.nd (.lst true) _)) s1 => .ok (.val (.at .non)) s1
 | .ok _ _ => .no
 | .ex C s1 => .ex C s1
 | .no => .no) := id rfl
theorem Z98 {c : Nat → BF} {g : Nat → EF} : eCompR1 f c g s = (match f s with
 | .ok (.val (.at (.int j))) s1 => if -(2 ^ 62) ≤ j ∧ j < 2 ^ 62 then compFin1 s1.length (compGo (itR 0 j.toNat) s1.length (c s1.length) (g s1.length) (j.toNat + 1) 0 [] (s1 ++ [.non])) else .no
 | .ok _ _ => .no
 | .ex C s1 => .ex C s1
 | .no => .no) := id rfl
theorem Z50 {it : Nat → Sd → Option (Option DV)} {n : Nat} {c : BF} {e : EF} {P : Nat → List D → Sd → Prop} {N : Nat}
  (hs : ∀ i acc s, i < N → P i acc s → ∃ r s1, it i s = some (some r) ∧ asgD n s r = some s1 ∧ ((∃ s2 d s3, c s1 = .ok true s2 ∧ e s2 = .ok (.val d) s3 ∧ acc.length < sizeLine ∧ P (i + 1) (acc ++ [d]) s3) ∨ (∃ s2, c s1 = .ok false s2 ∧ P (i + 1) acc s2)))
  (he : ∀ acc s, P N acc s → it N s = some none) : ∀ m i acc s, i + m = N → P i acc s → ∃ l s', compGo it n c e (m + 1) i acc s = .ok l s' ∧ P N l s'
 | 0, i, acc, s, hi, h => by
  have : i = N := by omega
  subst this
  exact ⟨acc, s, by simp only [compGo, he acc s h], h⟩
 | m + 1, i, acc, s, hi, h => by
  obtain ⟨r, s1, h1, h2, h3⟩ := hs i acc s (by omega) h
  rcases h3 with ⟨s2, d, s3, h4, h5, h6, h7⟩ | ⟨s2, h4, h5⟩
  ·obtain ⟨l, s', h8, h9⟩ := Z50 hs he m (i + 1) (acc ++ [d]) s3 (by omega) h7
   refine ⟨l, s', ?_, h9⟩
   rw [compGo]
   simp only [h1, h2, h4, h5, if_pos h6, h8]
  ·obtain ⟨l, s', h8, h9⟩ := Z50 hs he m (i + 1) acc s2 (by omega) h5
   refine ⟨l, s', ?_, h9⟩
   rw [compGo]
   simp only [h1, h2, h4, h8]
end
end RM
set_option Elab.async false
set_option linter.all false
set_option maxRecDepth 100000

namespace RM
open PySem PySem.Spec PyProof.Rows L2
noncomputable def eSel (n : Nat) (a : AF) : EF := fun s => match a s with
 | .ok rs s1 => (match rs[n]? with
  | some (.val (.at (.int i))) => (match ixN n i with | some j => (match rs[j]? with | some r => .ok r s1 | none => .no) | none => .no)
  | _ => .no)
 | .ex C s1 => .ex C s1
 | .no => .no
theorem Z126 {n : Nat} {a : AF} {s : Sd} : eSel n a s = (match a s with
 | .ok rs s1 => (match rs[n]? with
  | some (.val (.at (.int i))) => (match ixN n i with | some j => (match rs[j]? with | some r => .ok r s1 | none => .no) | none => .no)
  | _ => .no)
 | .ex C s1 => .ex C s1
 | .no => .no) := id rfl
section
variable {R : RC} {ix : List Nat} {hd : List (Nat × Addr)} {X : Cx} {H H1 : Hp} {σ : L2.St} {ts : Ts} {fr : List T}
theorem Cf.ats (C : Cf R ix hd H σ ts fr) : ∀ vs : List V, Cf R ix hd H σ ts (vs.map T.at ++ fr)
 | [] => C
 | v :: vs => (Cf.ats C vs).at v
theorem Z661 : ∀ vs : List V, (vs.map T.at).map T.val = vs
 | [] => rfl
 | v :: vs => by rw [List.map_cons, List.map_cons, Z661 vs]; rfl
theorem Z269 {f : EF} {Q : VK} {p : Addr} {vs : List V} (h : lE R ix f σ H Q) (hp : H p = none) : lE R ix f σ (upd H p (.lst vs)) fun v H' => H' p = some (.lst vs) ∧ Q v H' := by
 obtain ⟨hd, ts, fr, C, h⟩ := h
 have C2 : Cf R ix hd (upd H p (.lst vs)) σ ts (.nd p (.lst true) (vs.map T.at) :: fr) := Cf.wrap (Cf.ats C vs) hp (by
  show upd H p (.lst vs) p = some (.lst ((vs.map T.at).map T.val))
  rw [Z605, Z661])
 refine ⟨hd, ts, _, C2, ?_⟩
 cases ef : f (ts.map TL.er) with
 | no => rw [ef] at h; exact h
 | ex E s1 => rw [ef] at h; intro H' ts' e C'; exact h H' ts' e C'.drop
 | ok r s1 =>
  rw [ef] at h
  intro H' ts' tv v e1 e2 hv C'
  have ok := (T.oks_app.mp C'.fok).2
  refine ⟨?_, h H' ts' tv v e1 e2 hv ?_⟩
  ·have : H' p = some (.lst ((vs.map T.at).map T.val)) := ok.1.1
   rw [Z661] at this
   exact this
  ·refine C'.less (x := (T.nd p (.lst true) (vs.map T.at)).own) (T.oks_app.mpr ⟨(T.oks_app.mp C'.fok).1, ok.2⟩) ?_ (fun a z => .inl ?_)
   ·rw [T.owns_app, T.owns_app, T.owns_cons]
    refine List.perm_iff_count.mpr fun b => ?_
    simp only [List.count_append]; omega
   ·rw [T.ros_app, T.ros_cons]
    rw [T.ros_app] at z
    simp only [List.mem_append] at z ⊢
    rcases z with z | z
    ·exact .inl z
    ·exact .inr (.inr z)
theorem Z594 {ts : Ts} : ∀ {tvs : List TV} {vs : List V} {j : Nat} {tv : TV}, TvsOk ts vs tvs → tvs[j]? = some tv → ∃ v, vs[j]? = some v ∧ TvOk ts v tv
 | [], _, _, _, .nil, h => by cases h
 | _ :: _, _, 0, _, .cons hv _, h => by cases h; exact ⟨_, rfl, hv⟩
 | _ :: _, _, j + 1, _, .cons _ hr, h => by
  obtain ⟨v, h1, h2⟩ := Z594 hr (by simpa using h)
  exact ⟨v, by simpa using h1, h2⟩
theorem Z588 {H : Hp} : ∀ {tvs : List TV} {j : Nat} {tv : TV}, tvs[j]? = some tv → ∃ x, (T.owns (trs tvs)).Perm (T.owns tv.tr ++ x) ∧ (∀ a ∈ T.ros tv.tr, a ∈ T.ros (trs tvs)) ∧ (T.oks H (trs tvs) → T.oks H tv.tr)
 | [], _, _, h => by cases h
 | u :: r, 0, tv, h => by
  cases h
  refine ⟨T.owns (trs r), ?_, fun a z => ?_, fun z => ?_⟩
  ·show (T.owns (u.tr ++ trs r)).Perm _
   rw [T.owns_app]
  ·show a ∈ T.ros (u.tr ++ trs r)
   rw [T.ros_app]; exact List.mem_append_left _ z
  ·exact (T.oks_app.mp (show T.oks H (u.tr ++ trs r) from z)).1
 | u :: r, j + 1, tv, h => by
  obtain ⟨x, h1, h2, h3⟩ := Z588 (H := H) (tvs := r) (j := j) (tv := tv) (by simpa using h)
  refine ⟨T.owns u.tr ++ x, ?_, fun a z => ?_, fun z => ?_⟩
  ·show (T.owns (u.tr ++ trs r)).Perm _
   rw [T.owns_app]
   refine List.perm_iff_count.mpr fun b => ?_
   have := List.perm_iff_count.mp h1 b
   simp only [List.count_append] at this ⊢; omega
  ·show a ∈ T.ros (u.tr ++ trs r)
   rw [T.ros_app]; exact List.mem_append_right _ (h2 a z)
  ·exact h3 (T.oks_app.mp (show T.oks H (u.tr ++ trs r) from z)).2
theorem Z266 {n : Nat} {a : AF} (σ : L2.St) (H : Hp) (Q : VK) (h : lE R ix (eSel n a) σ H Q) : lA R ix a σ H fun vs H1 => ∃ i j v, vs[n]? = some (.int i) ∧ ixN n i = some j ∧ vs[j]? = some v ∧ Q v H1 := by
 obtain ⟨hd, ts, fr, C, h⟩ := h
 refine ⟨hd, ts, fr, C, ?_⟩
 unfold eSel at h
 cases ea : a (ts.map TL.er) with
 | no => rw [ea] at h; exact h
 | ex E s1 => rw [ea] at h; exact h
 | ok rs s1 =>
  rw [ea] at h
  intro H1 ts1 tvs vs e1 e2 hv C1
  subst e1 e2
  dsimp only at h
  cases en : (tvs.map TV.er)[n]? with
  | none => rw [en] at h; exact h.elim
  | some r =>
   rw [en] at h
   rw [List.getElem?_map] at en
   cases et : tvs[n]? with
   | none => rw [et] at en; cases en
   | some tv =>
    rw [et] at en
    cases en
    obtain ⟨v, h1, h2⟩ := Z594 hv et
    have key : ∀ i : Int, tv.er = .val (.at (.int i)) → v = .int i := by
     intro i hi
     obtain ⟨t, rfl, e3, rfl⟩ := h2.er_val hi
     rw [Z84 e3]; rfl
    cases ev : tv.er with
    | plc _ _ => rw [ev] at h; exact h.elim
    | val d =>
     rw [ev] at h key
     cases d with
     | nd _ _ => exact h.elim
     | «at» w =>
      cases w with
      | int i =>
       dsimp only at h
       cases ej : ixN n i with
       | none => rw [ej] at h; exact h.elim
       | some j =>
        rw [ej] at h
        dsimp only at h
        rw [List.getElem?_map] at h
        cases eu : tvs[j]? with
        | none => rw [eu] at h; exact h.elim
        | some u =>
         rw [eu] at h
         obtain ⟨y, g1, g2⟩ := Z594 hv eu
         obtain ⟨x, p1, p2, p3⟩ := Z588 (H := H1) eu
         refine ⟨i, j, y, by rw [h1, key i rfl], ej, g1, h H1 ts1 u y rfl rfl g2 ?_⟩
         refine C1.less (x := x) (T.oks_app.mpr ⟨p3 (T.oks_app.mp C1.fok).1, (T.oks_app.mp C1.fok).2⟩) ?_ (fun b z => .inl ?_)
         ·rw [T.owns_app, T.owns_app]
          refine List.perm_iff_count.mpr fun b => ?_
          have := List.perm_iff_count.mp p1 b
          simp only [List.count_append] at this ⊢; omega
         ·rw [T.ros_app] at z ⊢
          simp only [List.mem_append] at z ⊢
          rcases z with z | z
          ·exact .inl (p2 b z)
          ·exact .inr z
      | _ => exact h.elim
noncomputable def tEs (R : RC) (ix : List Nat) (fs : List EF) : TA := fs.foldr (fun f t => tCons (lE R ix f) t) tNil
theorem Z261 {fi : EF} : ∀ (fs : List EF) (H : Hp) (Q : List V → Hp → Prop), lA R ix (fs.foldr aCons (aCons fi aNil)) σ H Q → tEs R ix fs σ H fun vs H1 => vs.length = fs.length ∧ lE R ix fi σ H1 fun i H2 => Q (vs ++ [i]) H2
 | [], H, Q, h => ⟨rfl, lA_1 h⟩
 | f :: fs, H, Q, h => by
  refine Z271 (fun v H1 h1 => ?_) (Z262 σ H Q h)
  have := Z261 fs H1 _ h1
  exact tEs_mono fs H1 _ _ (fun vs H2 z => ⟨by simp [z.1], z.2⟩) this
where
 tEs_mono : ∀ (fs : List EF) (H : Hp) (Q Q' : List V → Hp → Prop), (∀ vs H, Q vs H → Q' vs H) → tEs R ix fs σ H Q → tEs R ix fs σ H Q'
  | [], _, _, _, m, h => m _ _ h
  | f :: fs, H, Q, Q', m, h => Z271 (fun v H1 z => tEs_mono fs H1 _ _ (fun vs H2 => m (v :: vs) H2) z) h
theorem Z494 : PA X [] (tEs R ix []) := Z394
theorem Z493 {e : Expr} {es : List Expr} {f : EF} {fs : List EF} (he : PE X e (lE R ix f)) (hr : PA X es (tEs R ix fs)) (hs : starEach (e :: es) X.env = (false, eval e X.env) :: starEach es X.env := by rfl) : PA X (e :: es) (tEs R ix (f :: fs)) := Z393 he hr hs
theorem Z478 {es : List Expr} {ie : Expr} {fs : List EF} {fi : EF} {pos pos' : Pos} (h : PA X es (tEs R ix fs)) (hi : PE X ie (lE R ix fi)) (hs : PlainIx ie) (hz : fs.length ≤ 1000) :
  PE X (.Subscript (.List es pos) ie pos') (lE R ix (eSel fs.length (fs.foldr aCons (aCons fi aNil)))) := peM (pe_ix Z232 (Z412 h) hi hs) fun σ H Q q => by
 refine Z261.tEs_mono fs H _ _ (fun vs H1 z => ?_) (Z261 fs H _ (Z266 σ H Q q))
 have hsz := sizeLine_eq
 refine ⟨by omega, fun p hp => Z271 (fun y H2 z2 => ?_) (Z269 (vs := vs) z.2 hp)⟩
 obtain ⟨z3, i, j, v, h1, h2, h3, h4⟩ := z2
 have hj := (Z227 h2).2.1
 rw [List.getElem?_append_right (by omega)] at h1
 have e0 : fs.length - vs.length = 0 := by omega
 rw [e0] at h1
 cases h1
 refine ⟨p, vs, i, v, rfl, rfl, .of z3, ?_, h4⟩
 unfold atI
 rw [z.1, h2]
 rw [List.getElem?_append_left (by omega)] at h3
 exact h3
end
end RM
set_option Elab.async false
set_option linter.all false
set_option maxRecDepth 100000

namespace RM
open PySem PySem.Spec PyProof.Rows L2
noncomputable def intsD : List D → Option (List Int)
 | [] => some []
 | .at (.int i) :: r => (match intsD r with | some ns => some (i :: ns) | none => none)
 | _ => none
theorem Z213 : ∀ ns : List Int, intsD (ns.map fun i => D.at (.int i)) = some ns
 | [] => rfl
 | n :: ns => by simp only [List.map_cons, intsD, Z213 ns]
theorem Z214 : ∀ {l : List T} {ns : List Int}, intsD (T.ers l) = some ns → l.map T.val = ns.map V.int
 | [], ns, h => by cases h; rfl
 | t :: l, ns, h => by
  simp only [T.ers] at h
  unfold intsD at h
  split at h
  case h_1 e => cases e
  case h_3 => cases h
  case h_2 i r e =>
   simp only [List.cons.injEq] at e
   cases Z84 e.1
   rw [← e.2] at h
   cases en : intsD (T.ers l) with
   | none => rw [en] at h; cases h
   | some ms => rw [en] at h; cases h; rw [List.map_cons, Z214 en]; rfl
theorem vals_ints : ∀ {ns : List Int} {its : List Value}, Vals (ns.map V.int) its → ∃ xs : List (Int × Tok), its = xs.map (fun p => Value.int p.1 p.2) ∧ xs.map (·.1) = ns
 | [], _, .nil => ⟨[], rfl, rfl⟩
 | n :: ns, _, .cons ⟨t, e⟩ r => by
  obtain ⟨xs, h1, h2⟩ := vals_ints r
  subst e
  exact ⟨(n, t) :: xs, by rw [h1]; rfl, by rw [List.map_cons, h2]⟩

noncomputable def shownL (ns : List Int) : Str := (PyData.list (ns.map PyData.int)).shown
theorem Z581 {B : Nat} : ∀ (ts : List Str) (k : Nat) (acc : Str), (∀ t ∈ ts, t.length ≤ B) → (textFrom k acc ts).length ≤ acc.length + ts.length * (B + 2)
 | [], k, acc, _ => by simp [textFrom]
 | t :: r, k, acc, h => by
  have h1 := Z581 r (k + 1) (acc ++ (if k > 0 then ", " else "" : String) ++ t) fun u hu => h u (List.mem_cons_of_mem _ hu)
  have h2 := h t List.mem_cons_self
  rw [textFrom]
  rw [strLen_append, strLen_append] at h1
  have h3 : (Str.ofString (if k > 0 then ", " else "")).length ≤ 2 := by split <;> decide
  rw [List.length_cons, Nat.succ_mul]
  omega
theorem shownAll_ints : ∀ ns : List Int, PyData.shownAll (ns.map PyData.int) = ns.map fun i : Int => Str.ofString (toString i)
 | [] => rfl
 | n :: ns => by rw [List.map_cons, PyData.shownAll, shownAll_ints ns]; rfl
theorem Z558 (ns : List Int) (hl : ns.length ≤ 1000) (h : ∀ n ∈ ns, n.natAbs.log2 < 1920) : (shownL ns).length ≤ sizeLine := by
 unfold shownL
 rw [PyData.shown, shownAll_ints]
 unfold listText
 rw [strLen_append]
 have h1 := Z581 (B := 1921) (ns.map fun i : Int => Str.ofString (toString i)) 0 "[" (by
  intro t ht
  obtain ⟨n, hn, rfl⟩ := List.mem_map.mp ht
  have e := int_text_length_le (k := 1920) (by decide) (h n hn)
  rw [PySem.ofString_length]; omega)
 rw [List.length_map] at h1
 have h2 : ns.length * 1923 ≤ 1000 * 1923 := Nat.mul_le_mul_right _ hl
 have h3 : (Str.ofString "[").length = 1 := by decide
 have h4 : (Str.ofString "]").length = 1 := by decide
 rw [sizeLine_eq]
 omega
theorem readsAll_ints {h : Heap} : ∀ xs : List (Int × Tok), ReadsAll h (xs.map fun p => Value.int p.1 p.2) ((xs.map (·.1)).map PyData.int) []
 | [] => .nil
 | (n, t) :: xs => .cons (.int n t) (readsAll_ints xs)
theorem Z557 : ∀ ns : List Int, (∀ n ∈ ns, n.natAbs.log2 < 1920) → PyData.showableAll (ns.map PyData.int) = true
 | [], _ => rfl
 | n :: ns, h => by
  rw [List.map_cons, PyData.showableAll, Z557 ns fun m hm => h m (List.mem_cons_of_mem _ hm), PyData.showable]
  simp [h n List.mem_cons_self]
section
variable {X : Cx} {R : RC} {ix : List Nat} {e : Expr} {pos : Pos}
noncomputable def tRepr (K : PySem.W.Frag) (te : TE) : TE := fun σ H Q => te σ H fun v H1 => ∃ a ns, v = .ref a ∧ SqL K H1 a (ns.map V.int) ∧ ns.length ≤ 1000 ∧ (∀ n ∈ ns, n.natAbs.log2 < 1920) ∧ Q (.str (shownL ns)) H1
theorem Z409 {te : TE} (hg : X.A.guards = some []) (hu : X.A.units + 64 < cLine) (he : PE X e te) : PE X (.FormattedValue e 114 none pos) (tRepr X.K te) := by
 intro pins s σ H Q I h
 refine wpAny_FormattedValue_repr (thn (he pins s σ H _ I h) fun u s1 ⟨v, H1, I1, r1, q⟩ => ?_)
 obtain ⟨a, ns, rfl, hq, hl, hn, q⟩ := q
 cases r1
 obtain ⟨its, rv, p, hz⟩ := I1.list hq
 obtain ⟨xs, e1, e2⟩ := vals_ints rv
 obtain ⟨o, ho, hc, n, hd⟩ := p.isList
 have rd : Reads s1.heap (.ref a) (.list (ns.map PyData.int)) (a :: []) := .list ho hc hd (by rw [show its.toArray.toList = its from rfl, e1, ← e2]; exact readsAll_ints xs)
 have hle := Z558 ns hl hn
 have hdep : (PyData.list (ns.map PyData.int)).depth ≤ 2 := by
  have : ∀ ns : List Int, PyData.depthAll (ns.map PyData.int) ≤ 1 := by
   intro ns
   induction ns with
   | nil => exact Nat.zero_le _
   | cons n ns ih => rw [List.map_cons, PyData.depthAll]; exact Nat.max_le.mpr ⟨by simp [PyData.depth], ih⟩
  have := this ns
  rw [PyData.depth]; omega
 refine pyReprObj_of_reads rd (by rw [PyData.showable]; exact Z557 ns hn) (by
  have : ∀ ns : List Int, PyData.hasDictAll (ns.map PyData.int) = false := by
   intro ns
   induction ns with
   | nil => rfl
   | cons n ns ih => rw [List.map_cons, PyData.hasDictAll, ih]; rfl
  intro z; rw [PyData.hasDict, this] at z; cases z) hg (by omega) (fun _ _ z => z) (fun h' u tk hk => ?_) hle
 exact wpAny_formatField_str ⟨.str (shownL ns), H1, I1.kept hk, ⟨_, rfl⟩, q⟩ ⟨.str (shownL ns), H1, (I1.kept hk).tok _, ⟨_, rfl⟩, q⟩ hle
noncomputable def hRepr : List D → Option D
 | [.nd (.lst _) l] => (match intsD l with | some ns => if ns.length ≤ 1000 ∧ ∀ n ∈ ns, n.natAbs.log2 < 1920 then some (.at (.str (shownL ns))) else none | none => none)
 | _ => none
theorem Z473 {f : EF} (hg : X.A.guards = some []) (hu : X.A.units + 64 < cLine) (he : PE X e (lE R ix f)) : PE X (.FormattedValue e 114 none pos) (lE R ix (eNw hRepr (aCons f aNil))) :=
 peM (Z409 hg hu he) fun σ H Q q => Z271 (fun x H1 q => by
  obtain ⟨t, ok, rfl, d, hh, q⟩ := gNw1 q
  unfold hRepr at hh
  split at hh
  case h_2 => cases hh
  case h_1 m l e1 =>
   simp only [List.cons.injEq, and_true] at e1
   obtain ⟨a, ch, rfl, rfl⟩ := Z316 e1
   cases en : intsD (T.ers ch) with
   | none => rw [en] at hh; cases hh
   | some ns =>
    rw [en] at hh
    dsimp only at hh
    split at hh
    case isFalse => cases hh
    case isTrue hz =>
     cases hh
     exact ⟨a, ns, rfl, by rw [← Z214 en]; exact ok.1.sqL, hz.1, hz.2, q (.at (.str (shownL ns))) H1 rfl (.atom _)⟩) (lA_1 (lA_nw σ H Q q))

noncomputable def maxI : List Int → Int
 | [] => 0
 | n :: ns => ns.foldl max n
noncomputable def minI : List Int → Int
 | [] => 0
 | n :: ns => ns.foldl min n
theorem Z321 : ∀ (ns : List Int) (n : Int), (ns.foldl max n = n ∨ ns.foldl max n ∈ ns) ∧ n ≤ ns.foldl max n ∧ ∀ a ∈ ns, a ≤ ns.foldl max n
 | [], n => ⟨.inl rfl, Int.le_refl _, fun a h => by cases h⟩
 | m :: ns, n => by
  obtain ⟨h1, h2, h3⟩ := Z321 ns (max n m)
  rw [List.foldl_cons]
  refine ⟨?_, Int.le_trans (Int.le_max_left n m) h2, fun a ha => ?_⟩
  ·rcases h1 with h1 | h1
   ·rw [h1]
    rcases Int.le_total n m with z | z
    ·rw [Int.max_eq_right z]; exact .inr List.mem_cons_self
    ·rw [Int.max_eq_left z]; exact .inl rfl
   ·exact .inr (List.mem_cons_of_mem _ h1)
  ·rcases List.mem_cons.mp ha with rfl | ha
   ·exact Int.le_trans (Int.le_max_right n a) h2
   ·exact h3 a ha
theorem Z330 : ∀ (ns : List Int) (n : Int), (ns.foldl min n = n ∨ ns.foldl min n ∈ ns) ∧ ns.foldl min n ≤ n ∧ ∀ a ∈ ns, ns.foldl min n ≤ a
 | [], n => ⟨.inl rfl, Int.le_refl _, fun a h => by cases h⟩
 | m :: ns, n => by
  obtain ⟨h1, h2, h3⟩ := Z330 ns (min n m)
  rw [List.foldl_cons]
  refine ⟨?_, Int.le_trans h2 (Int.min_le_left n m), fun a ha => ?_⟩
  ·rcases h1 with h1 | h1
   ·rw [h1]
    rcases Int.le_total n m with z | z
    ·rw [Int.min_eq_left z]; exact .inl rfl
    ·rw [Int.min_eq_right z]; exact .inr List.mem_cons_self
   ·exact .inr (List.mem_cons_of_mem _ h1)
  ·rcases List.mem_cons.mp ha with rfl | ha
   ·exact Int.le_trans h2 (Int.min_le_right n a)
   ·exact h3 a ha
theorem Z322 {ns : List Int} (h : ns ≠ []) : maxI ns ∈ ns ∧ ∀ a ∈ ns, a ≤ maxI ns := by
 cases ns with
 | nil => exact absurd rfl h
 | cons n ns =>
  obtain ⟨h1, h2, h3⟩ := Z321 ns n
  refine ⟨?_, fun a ha => ?_⟩
  ·rcases h1 with h1 | h1
   ·show ns.foldl max n ∈ _; rw [h1]; exact List.mem_cons_self
   ·exact List.mem_cons_of_mem _ h1
  ·rcases List.mem_cons.mp ha with rfl | ha
   ·exact h2
   ·exact h3 a ha
theorem Z331 {ns : List Int} (h : ns ≠ []) : minI ns ∈ ns ∧ ∀ a ∈ ns, minI ns ≤ a := by
 cases ns with
 | nil => exact absurd rfl h
 | cons n ns =>
  obtain ⟨h1, h2, h3⟩ := Z330 ns n
  refine ⟨?_, fun a ha => ?_⟩
  ·rcases h1 with h1 | h1
   ·show ns.foldl min n ∈ _; rw [h1]; exact List.mem_cons_self
   ·exact List.mem_cons_of_mem _ h1
  ·rcases List.mem_cons.mp ha with rfl | ha
   ·exact h2
   ·exact h3 a ha
theorem Z355 (xs : List (Int × Tok)) (i : Nat) : numAt xs.toArray i = (xs.map (·.1)).getD i 0 := by
 unfold numAt
 rw [List.getD_eq_getElem?_getD, List.getElem?_map]; simp
theorem Z35 (hc : X.calm = true) : CallR X (.builtin "max") (fun vs H Q => ∃ a ns, vs = [.ref a] ∧ SqL X.K H a (ns.map V.int) ∧ ns ≠ [] ∧ Q (.int (maxI ns)) H) := by
 intro pins s σ H vs us Q I r h
 obtain ⟨a, ns, rfl, hq, hne, q⟩ := h
 obtain ⟨u, rfl, rx⟩ := vals1 r
 cases rx
 obtain ⟨its, rv, p, hz⟩ := I.list hq
 obtain ⟨xs, rfl, rfl⟩ := vals_ints rv
 have hl : s.heap.IsList a (intItems xs.toArray) := by
  have := p.isList
  simpa [intItems] using this
 have hpos : 0 < xs.length := by
  cases xs with
  | nil => exact absurd rfl hne
  | cons => simp
 refine max_intList (I.ok.hd hc) hl (by simpa using hpos) fun v h' tk hv hk => ?_
 obtain ⟨t, rfl⟩ := intItems_at hv
 obtain ⟨h1, h2⟩ := argBest_gt (numAt xs.toArray) (xs.toArray.size - 1)
 have hm := Z322 hne
 have e : numAt xs.toArray (argBest (fun i j => decide (numAt xs.toArray i > numAt xs.toArray j)) (xs.toArray.size - 1)) = maxI (xs.map (·.1)) := by
  refine Int.le_antisymm (hm.2 _ ?_) ?_
  ·rw [Z355]
   generalize argBest (fun i j => decide (numAt xs.toArray i > numAt xs.toArray j)) (xs.toArray.size - 1) = k at *
   have hk : k < xs.length := by simp at h1; omega
   rw [List.getD_eq_getElem?_getD, List.getElem?_eq_getElem (by simpa using hk)]
   exact List.getElem_mem _
  ·obtain ⟨j, hj, ej⟩ := List.mem_iff_getElem.mp hm.1
   rw [← ej]
   have := h2 j (by simp at hj ⊢; omega)
   rw [Z355 xs j, List.getD_eq_getElem?_getD, List.getElem?_eq_getElem hj] at this
   exact this
 rw [e]
 exact ⟨.int (maxI (xs.map (·.1))), H, I.kept hk, ⟨t, rfl⟩, q⟩
theorem Z36 (hc : X.calm = true) : CallR X (.builtin "min") (fun vs H Q => ∃ a ns, vs = [.ref a] ∧ SqL X.K H a (ns.map V.int) ∧ ns ≠ [] ∧ Q (.int (minI ns)) H) := by
 intro pins s σ H vs us Q I r h
 obtain ⟨a, ns, rfl, hq, hne, q⟩ := h
 obtain ⟨u, rfl, rx⟩ := vals1 r
 cases rx
 obtain ⟨its, rv, p, hz⟩ := I.list hq
 obtain ⟨xs, rfl, rfl⟩ := vals_ints rv
 have hl : s.heap.IsList a (intItems xs.toArray) := by
  have := p.isList
  simpa [intItems] using this
 have hpos : 0 < xs.length := by
  cases xs with
  | nil => exact absurd rfl hne
  | cons => simp
 refine min_intList (I.ok.hd hc) hl (by simpa using hpos) fun v h' tk hv hk => ?_
 obtain ⟨t, rfl⟩ := intItems_at hv
 obtain ⟨h1, h2⟩ := argBest_lt (numAt xs.toArray) (xs.toArray.size - 1)
 have hm := Z331 hne
 have e : numAt xs.toArray (argBest (fun i j => decide (numAt xs.toArray i < numAt xs.toArray j)) (xs.toArray.size - 1)) = minI (xs.map (·.1)) := by
  refine Int.le_antisymm ?_ (hm.2 _ ?_)
  ·obtain ⟨j, hj, ej⟩ := List.mem_iff_getElem.mp hm.1
   rw [← ej]
   have := h2 j (by simp at hj ⊢; omega)
   rw [Z355 xs j, List.getD_eq_getElem?_getD, List.getElem?_eq_getElem hj] at this
   exact this
  ·rw [Z355]
   generalize argBest (fun i j => decide (numAt xs.toArray i < numAt xs.toArray j)) (xs.toArray.size - 1) = k at *
   have hk : k < xs.length := by simp at h1; omega
   rw [List.getD_eq_getElem?_getD, List.getElem?_eq_getElem (by simpa using hk)]
   exact List.getElem_mem _
 rw [e]
 exact ⟨.int (minI (xs.map (·.1))), H, I.kept hk, ⟨t, rfl⟩, q⟩
noncomputable def hLst (g : List Int → Int) : List D → Option D
 | [.nd (.lst _) l] => (match intsD l with | some (n :: ns) => some (.at (.int (g (n :: ns)))) | _ => none)
 | _ => none
theorem Z184 {g : List Int → Int} {t : T} {d : D} (h : hLst g [t.er] = some d) : ∃ a m ch ns, t = .nd a (.lst m) ch ∧ ch.map T.val = ns.map V.int ∧ ns ≠ [] ∧ d = .at (.int (g ns)) := by
 unfold hLst at h
 split at h
 case h_2 => cases h
 case h_1 m l e1 =>
  simp only [List.cons.injEq, and_true] at e1
  obtain ⟨a, ch, rfl, rfl⟩ := Z316 e1
  cases en : intsD (T.ers ch) with
  | none => rw [en] at h; cases h
  | some ns =>
   rw [en] at h
   cases ns with
   | nil => cases h
   | cons n ns => cases h; exact ⟨a, m, ch, n :: ns, rfl, Z214 en, by simp, rfl⟩
theorem Z44 (hc : X.calm = true) : CallR X (.builtin "max") (gNw (hLst maxI)) := callM (Z35 hc) fun vs H Q q => by
 obtain ⟨l, ok, hv, d, hh, q⟩ := q
 match l, ok, hv, hh, q with
 | [], _, _, hh, _ => cases hh
 | _ :: _ :: _, _, _, hh, _ => simp [T.ers, hLst] at hh
 | [t], ok, hv, hh, q =>
  subst hv
  obtain ⟨a, m, ch, ns, rfl, e1, e2, rfl⟩ := Z184 hh
  exact ⟨a, ns, rfl, by rw [← e1]; exact ok.1.1.sqL, e2, q (.at (.int (maxI ns))) H rfl (.atom _)⟩
theorem Z45 (hc : X.calm = true) : CallR X (.builtin "min") (gNw (hLst minI)) := callM (Z36 hc) fun vs H Q q => by
 obtain ⟨l, ok, hv, d, hh, q⟩ := q
 match l, ok, hv, hh, q with
 | [], _, _, hh, _ => cases hh
 | _ :: _ :: _, _, _, hh, _ => simp [T.ers, hLst] at hh
 | [t], ok, hv, hh, q =>
  subst hv
  obtain ⟨a, m, ch, ns, rfl, e1, e2, rfl⟩ := Z184 hh
  exact ⟨a, ns, rfl, by rw [← e1]; exact ok.1.1.sqL, e2, q (.at (.int (minI ns))) H rfl (.atom _)⟩

noncomputable def hCut (lo : Bool) : List D → Option D
 | [.nd (.lst _) l, .at (.int i)] => if D.imms l = true ∧ 0 ≤ i then some (.nd (.lst true) (if lo then l.drop i.toNat else l.take i.toNat)) else none
 | _ => none
theorem Z58 {xs : List V} {i : Int} (h : 0 ≤ i) : cutV xs none (some i) = xs.take i.toNat := by
 have e : HT.sIx xs.length xs.length (some i) = min i.toNat xs.length := if_neg (by omega)
 unfold cutV
 rw [e, show HT.sIx xs.length 0 none = 0 from rfl]
 simp only [List.drop_zero, Nat.sub_zero]
 rcases Nat.le_total i.toNat xs.length with z | z
 ·rw [Nat.min_eq_left z]
 ·rw [Nat.min_eq_right z, List.take_of_length_le (Nat.le_refl _), List.take_of_length_le z]
theorem Z59 {xs : List V} {i : Int} (h : 0 ≤ i) : cutV xs (some i) none = xs.drop i.toNat := by
 have e : HT.sIx xs.length 0 (some i) = min i.toNat xs.length := if_neg (by omega)
 unfold cutV
 rw [e, show HT.sIx xs.length xs.length none = xs.length from rfl]
 rcases Nat.le_total i.toNat xs.length with z | z
 ·rw [Nat.min_eq_left z, List.take_of_length_le (by simp)]
 ·rw [Nat.min_eq_right z, List.drop_of_length_le z, List.drop_of_length_le (Nat.le_refl _)]; simp
theorem Z60 {lo : Bool} {x y : V} {H : Hp} {Q : VK} (h : gNw (hCut lo) [x, y] H Q) : ∃ (a : Addr) (ch : List T) (i : Int), x = .ref a ∧ y = .int i ∧ 0 ≤ i ∧ SqL X.K H a (ch.map T.val) ∧ ∀ p, H p = none → Q (.ref p) (upd H p (.lst (if lo then (ch.map T.val).drop i.toNat else (ch.map T.val).take i.toNat))) := by
 obtain ⟨t, u, ht, hu, rfl, rfl, d, hh, q⟩ := gNw2 h
 unfold hCut at hh
 split at hh
 case h_2 => cases hh
 case h_1 m l i e =>
  simp only [List.cons.injEq, and_true] at e
  obtain ⟨a, ch, rfl, rfl⟩ := Z316 e.1
  cases Z84 e.2
  split at hh
  case isFalse => cases hh
  case isTrue hz =>
   cases hh
   refine ⟨a, ch, i, rfl, rfl, hz.2, ht.1.sqL, fun p hp => ?_⟩
   have hsub : ∀ c : List T, (∀ t ∈ c, t ∈ ch) → NewOk H (upd H p (.lst (c.map T.val))) [T.nd a (.lst m) ch, .at (.int i)] (.nd p (.lst true) c) := fun c hc =>
    Z353 hp Z605 (.inl rfl) (fun t z => ⟨T.oks_iff.mp ht.2 t (hc t z), Z202 hz.1 t (hc t z)⟩) fun b hb => by
     obtain ⟨t, h1, h2⟩ := T.mem_ros.mp hb
     have : b ∈ T.ros ch := T.mem_ros.mpr ⟨t, hc t h1, h2⟩
     simp [T.ros, T.ro, this]
   cases lo with
   | true =>
    have := q (.nd p (.lst true) (ch.drop i.toNat)) _ (by simp [T.er, T.ers_eq]) (hsub _ fun t z => List.mem_of_mem_drop z)
    simpa [T.val] using this
   | false =>
    have := q (.nd p (.lst true) (ch.take i.toNat)) _ (by simp [T.er, T.ers_eq]) (hsub _ fun t z => List.mem_of_mem_take z)
    simpa [T.val] using this
theorem Z468 {a : Expr} {p2 : Pos} {f g : EF} (he : PE X e (lE R ix f)) (ha : PE X a (lE R ix g)) : PE X (.Subscript e (.Slice (some a) none none p2) pos) (lE R ix (eNw (hCut true) (aCons f (aCons g aNil)))) :=
 peM (Z417 Z559 he (Z434 ha) Z433) fun σ H Q q => Z271 (fun x H1 z => Z271 (fun y H2 z => by
  obtain ⟨a, ch, i, rfl, rfl, hi, hs, q⟩ := Z60 (X := X) z
  refine ⟨i, rfl, a, _, rfl, hs, fun p hp => ?_⟩
  rw [Z59 hi]
  exact q p hp) z) (lA_2 (lA_nw σ H Q q))
theorem Z467 {a : Expr} {p2 : Pos} {f g : EF} (he : PE X e (lE R ix f)) (ha : PE X a (lE R ix g)) : PE X (.Subscript e (.Slice none (some a) none p2) pos) (lE R ix (eNw (hCut false) (aCons f (aCons g aNil)))) :=
 peM (Z417 Z559 he Z433 (Z434 ha)) fun σ H Q q => Z271 (fun x H1 z => Z271 (fun y H2 z => by
  obtain ⟨a, ch, i, rfl, rfl, hi, hs, q⟩ := Z60 (X := X) z
  refine ⟨i, rfl, a, _, rfl, hs, fun p hp => ?_⟩
  rw [Z58 hi]
  exact q p hp) z) (lA_2 (lA_nw σ H Q q))
end
end RM
namespace RM
open PySem PySem.Spec PyProof.Rows L2
section
variable {X : Cx}
noncomputable def hCat : List D → Option D
 | [.nd (.lst true) l, .nd (.lst true) m] => if D.imms l = true ∧ D.imms m = true ∧ l.length + m.length ≤ sizeLine then some (.nd (.lst true) (l ++ m)) else none
 | _ => none
theorem Z376 : OpR X (binaryOp .Add) (oNw hCat) := opM Z383 fun x y H Q q => by
 obtain ⟨t, u, ht, hu, rfl, rfl, d, hh, q⟩ := gNw2 q
 unfold hCat at hh
 split at hh
 case h_2 => cases hh
 case h_1 l m e =>
  simp only [List.cons.injEq, and_true] at e
  obtain ⟨a, ch, rfl, rfl⟩ := Z316 e.1
  obtain ⟨b, ch', rfl, rfl⟩ := Z316 e.2
  split at hh
  case isFalse => cases hh
  case isTrue hz =>
   cases hh
   refine ⟨a, b, ch.map T.val, ch'.map T.val, rfl, rfl, ht.1, hu.1, by simpa [Z88] using hz.2.2, fun p hp => q (.nd p (.lst true) (ch ++ ch')) _ (by rw [T.er, Z87]) (Z353 hp ?_ (.inl rfl) (fun t ht' => ?_) fun c hc => ?_)⟩
   ·rw [List.map_append]; exact Z605
   ·rcases List.mem_append.mp ht' with z | z
    ·exact ⟨T.oks_iff.mp ht.2 t z, Z202 hz.1 t z⟩
    ·exact ⟨T.oks_iff.mp hu.2 t z, Z202 hz.2.1 t z⟩
   ·rw [T.ros_app] at hc
    simpa [T.ros, T.ro, NK.mut] using hc
end
end RM
set_option Elab.async false
set_option linter.all false
set_option maxRecDepth 100000

namespace RM
open PySem PySem.Spec PyProof.Rows L2
noncomputable def eAnd (f g : EF) : EF := fun s => match f s with
 | .ok (.val (.at (.bl b))) s1 => if b = true then g s1 else .ok (.val (.at (.bl false))) s1
 | .ok _ _ => .no
 | .ex C s1 => .ex C s1
 | .no => .no
theorem Z102 {f g : EF} {s : Sd} : eAnd f g s = (match f s with
 | .ok (.val (.at (.bl b))) s1 => if b = true then g s1 else .ok (.val (.at (.bl false))) s1
 | .ok _ _ => .no
 | .ex C s1 => .ex C s1
 | .no => .no) := id rfl
section
variable {X : Cx} {R : RC} {ix : List Nat} {a b : Expr} {rest : List Expr} {pos : Pos}
theorem Z267 {f g : EF} (σ : L2.St) (H : Hp) (Q : VK) (h : lE R ix (eAnd f g) σ H Q) : tAndV (lE R ix f) (lE R ix g) σ H Q := by
 obtain ⟨hd, ts, fr, C, h⟩ := h
 refine ⟨hd, ts, fr, C, ?_⟩
 unfold eAnd at h
 cases ef : f (ts.map TL.er) with
 | no => rw [ef] at h; exact h
 | ex E s1 => rw [ef] at h; exact h
 | ok r s1 =>
  rw [ef] at h
  intro H1 ts1 tv v e1 e2 hv C1
  subst e1
  cases r with
  | plc _ _ => exact h.elim
  | val d =>
   obtain ⟨t, rfl, rfl, rfl⟩ := hv.er_val e2
   cases t with
   | nd a k l => exact h.elim
   | «at» u =>
    cases u with
    | bl c =>
     refine ⟨c, rfl, ?_⟩
     simp only [T.er, cl] at h
     cases c with
     | true => rw [if_pos rfl] at h ⊢; exact ⟨hd, ts1, fr, C1.drop, h⟩
     | false => rw [if_neg Bool.false_ne_true] at h ⊢; exact h H1 ts1 (.val (.at (.bl false))) (.bl false) rfl rfl rfl (C1.drop.at _)
    | _ => exact h.elim
theorem Z464 {f : EF} (h : PE X a (lE R ix f)) : PE X (.BoolOp .And [a] pos) (lE R ix f) := Z416 h
theorem Z463 {f g : EF} (ha : PE X a (lE R ix f)) (hb : PE X (.BoolOp .And (b :: rest) pos) (lE R ix g)) : PE X (.BoolOp .And (a :: b :: rest) pos) (lE R ix (eAnd f g)) := peM (Z397 ha hb) Z267
end
end RM
set_option Elab.async false
set_option linter.all false
set_option maxRecDepth 100000
open PySem PySem.Spec PyProof.Rows L2
local macro_rules | `(tactic| walk_at "rd") => `(tactic| simp only [Z62, cxC_K, tSeq, tIfS, tOr, tAnd, tNot, tTest, tB, tOp, tCB, tCons, tNil, tVar, tC, tRet, tRetN, tNext, tAsg, gName, tDrop, tCall, tCallT, tMetT, tMkT, tFldC, sFldC, tRaise, tRaiseA, tLst, tTup, tBM, tBM0, tAndV, tOrV, tNotV, tIf, tUn, tBreak, tCont, rI0, rI, rU, rEq, rNe, L2.start, hCons, hNil,
 List.map_cons, List.map_nil, List.cons_append, List.nil_append, List.append_nil, List.replicate, List.length_cons, List.length_nil, List.getElem?_cons_zero, List.getElem?_cons_succ, List.set_cons_zero, List.set_cons_succ, Nat.reduceAdd, Nat.reduceSub, Nat.reduceLT, Nat.reduceLeDiff,
 Option.some.injEq, exists_eq_left, exists_eq_left', exists_eq_right, exists_eq_right', exists_and_left, exists_and_right, exists_eq, exists_const, V.int.injEq, V.str.injEq, V.bl.injEq, V.ref.injEq, V.ty.injEq, List.cons.injEq, and_assoc, and_true, true_and, reduceCtorEq, false_and, and_false, or_false, false_or, exists_false, if_true, if_false, Bool.false_eq_true, decide_eq_true_eq])
local macro_rules | `(tactic| walk_at "sd") => `(tactic| repeat (refine And.intro ?sd1 ?_; (case sd1 => first | assumption | decide | omega | rfl | (unfold CMul; omega) | (unfold CDiv; omega))))
namespace Pf
open PySem PySem.Spec PyProof.Rows L2 RM
noncomputable def top (i : Nat) : Stmt := PySem.Challenge.pw_papercircle_k04_shelf_numbers.main.body.getD i (.Pass ⟨0, 0, 0, 0⟩)
noncomputable abbrev Z521 : Stmt := inClass (top 7) 0
noncomputable abbrev Z528 : Stmt := top 9
noncomputable abbrev Z530 : Stmt := top 10
noncomputable abbrev Z529 : Stmt := top 11
noncomputable abbrev Z534 : Stmt := top 12
noncomputable abbrev Z522 : Stmt := inClass (top 7) 2
noncomputable abbrev Z527 : Stmt := inClass (top 7) 3
noncomputable abbrev Z524 : Stmt := inClass (top 7) 1
noncomputable abbrev Z531 : Stmt := top 13
noncomputable abbrev Z523 : Stmt := inClass (top 7) 6
noncomputable abbrev Z525 : Stmt := inClass (top 7) 4
noncomputable abbrev Z526 : Stmt := inClass (top 7) 5
noncomputable abbrev Z533 : Stmt := top 14
noncomputable abbrev Z532 : Stmt := top 15
noncomputable abbrev s_law : Stmt := top 16
structure Adr where
 c_Shelf : Addr
 c_BadCounts : Addr
 c_UnknownFolder : Addr
noncomputable def adr (A : Adr) : Str → Addr := fun x => if x = "BadCounts" then A.c_BadCounts else if x = "UnknownFolder" then A.c_UnknownFolder else 0
structure Txt (K : PySem.W.Frag) (mg : Str → Option Value) (A : Adr) : Prop where
 b_all : mg "all" = none
 b_bool : mg "bool" = none
 b_enumerate : mg "enumerate" = none
 b_int : mg "int" = none
 b_isinstance : mg "isinstance" = none
 b_len : mg "len" = none
 b_list : mg "list" = none
 b_max : mg "max" = none
 b_min : mg "min" = none
 b_range : mg "range" = none
 b_str : mg "str" = none
 b_tuple : mg "tuple" = none
 g_NEW_MOST : GIs mg "NEW_MOST" (V.int 3)
 mc_Shelf : mg "Shelf" = some (.ref A.c_Shelf)
 cl_Shelf : Cls K A.c_Shelf
 n_Shelf_gone : NoAttr K A.c_Shelf "gone"
 n_Shelf_made : NoAttr K A.c_Shelf "made"
 n_Shelf_many : NoAttr K A.c_Shelf "many"
 n_Shelf_numbers : NoAttr K A.c_Shelf "numbers"
 x_BadCounts : ExC K mg "BadCounts" A.c_BadCounts
 x_UnknownFolder : ExC K mg "UnknownFolder" A.c_UnknownFolder
 e_BadCounts_BadCounts : PySem.W.exmOne K (.ref A.c_BadCounts) (.ref A.c_BadCounts) = some true
 e_BadCounts_UnknownFolder : PySem.W.exmOne K (.ref A.c_BadCounts) (.ref A.c_UnknownFolder) = some false
 e_UnknownFolder_BadCounts : PySem.W.exmOne K (.ref A.c_UnknownFolder) (.ref A.c_BadCounts) = some false
 e_UnknownFolder_UnknownFolder : PySem.W.exmOne K (.ref A.c_UnknownFolder) (.ref A.c_UnknownFolder) = some true
 a_Shelf___init__ : AtI K A.c_Shelf "Shelf.__init__" Z521 ["self", "many"]
 a__law_at : At K mg "_law_at" Z528 ["_law_script", "_law_k"]
 a__law_figures : At K mg "_law_figures" Z530 ["_law_script", "_law_k", "_law_base", "_law_many"]
 a__law_drawn_counts : At K mg "_law_drawn_counts" Z529 ["_law_figs", "_law_many"]
 a__law_same : At K mg "_law_same" Z534 ["_law_found", "_law_due"]
 a_Shelf_check_counts : AtM K A.c_Shelf "check_counts" "Shelf.check_counts" Z522 ["self", "counts"]
 a_Shelf_make : AtM K A.c_Shelf "make" "Shelf.make" Z527 ["self", "week", "kind", "many_new"]
 a_Shelf_fill : AtM K A.c_Shelf "fill" "Shelf.fill" Z524 ["self", "week", "counts"]
 a__law_filled : At K mg "_law_filled" Z531 ["_law_shelf", "_law_week", "_law_counts"]
 a_Shelf_check_number : AtM K A.c_Shelf "check_number" "Shelf.check_number" Z523 ["self", "number"]
 a_Shelf_folder : AtM K A.c_Shelf "folder" "Shelf.folder" Z525 ["self", "number"]
 a_Shelf_lose : AtM K A.c_Shelf "lose" "Shelf.lose" Z526 ["self", "number"]
 a__law_missing : At K mg "_law_missing" Z533 ["_law_shelf", "_law_number"]
 a__law_kept : At K mg "_law_kept" Z532 ["_law_shelf", "_law_rows"]
 a_law : At K mg "law" s_law ["_law_script"]
noncomputable def exmT : Str → Str → Option Bool := fun C x => if C = "BadCounts" ∧ x = "BadCounts" then some true else if C = "BadCounts" ∧ x = "UnknownFolder" then some false else if C = "UnknownFolder" ∧ x = "BadCounts" then some false else if C = "UnknownFolder" ∧ x = "UnknownFolder" then some true else none
theorem Z134 {C x a b : Str} {v r : Option Bool} {w : Bool} {p : Prop} (h : (if C = a ∧ x = b then v else r) = some w) (h1 : C = a → x = b → v = some w → p) (h2 : r = some w → p) : p := by
 by_cases z : C = a ∧ x = b
 ·rw [if_pos z] at h; exact h1 z.1 z.2 h
 ·rw [if_neg z] at h; exact h2 h
theorem Z135 {K : PySem.W.Frag} {mg : Str → Option Value} {A : Adr} (T : Txt K mg A) : ∀ C x b, exmT C x = some b → PySem.W.exmOne K (.ref (adr A C)) (.ref (adr A x)) = some b := by
 intro C x b h
 refine Z134 h (fun e1 e2 e3 => by cases e3; rw [e1, e2]; exact T.e_BadCounts_BadCounts) fun h => ?_
 refine Z134 h (fun e1 e2 e3 => by cases e3; rw [e1, e2]; exact T.e_BadCounts_UnknownFolder) fun h => ?_
 refine Z134 h (fun e1 e2 e3 => by cases e3; rw [e1, e2]; exact T.e_UnknownFolder_BadCounts) fun h => ?_
 refine Z134 h (fun e1 e2 e3 => by cases e3; rw [e1, e2]; exact T.e_UnknownFolder_UnknownFolder) fun h => ?_
 cases h
noncomputable abbrev Z158 : List Str := (["many", "made", "numbers", "gone"] : List Str)
theorem Z230 : idx "many" Z158 = some 0 := by decide
theorem Z237 : idx "many" ([] : List Str) = none := by decide
theorem Z229 : idx "made" Z158 = some 1 := by decide
theorem Z236 : idx "made" (["many"] : List Str) = none := by decide
theorem Z231 : idx "numbers" Z158 = some 2 := by decide
theorem Z238 : idx "numbers" (["many", "made"] : List Str) = none := by decide
theorem Z228 : idx "gone" Z158 = some 3 := by decide
theorem Z235 : idx "gone" (["many", "made", "numbers"] : List Str) = none := by decide
theorem Z192 : Z158.contains "fill" = false := by decide
theorem Z190 : Z158.contains "check_counts" = false := by decide
theorem Z196 : Z158.contains "make" = false := by decide
theorem Z193 : Z158.contains "folder" = false := by decide
theorem Z195 : Z158.contains "lose" = false := by decide
theorem Z191 : Z158.contains "check_number" = false := by decide
theorem Z197 : Z158.contains "offered" = false := by decide
theorem Z194 : Z158.contains "kept" = false := by decide
theorem Z666 : exmT "BadCounts" "BadCounts" = some true := by decide
theorem Z667 : exmT "BadCounts" "UnknownFolder" = some false := by decide
theorem Z668 : exmT "UnknownFolder" "BadCounts" = some false := by decide
theorem Z669 : exmT "UnknownFolder" "UnknownFolder" = some true := by decide
section
variable {P : Program} {w : World} {K : PySem.W.Frag} {mg : Str → Option Value} {base : Heap} {A : Adr}
theorem Z537 : FnScope ["self", "many"] ["self", "many"] (defScope Z521) := ⟨rfl, rfl, rfl, by decide +kernel, rfl, by decide +kernel, by decide +kernel⟩
theorem Z336 : (["self", "many"] : List Str).Nodup := Z537.nd
noncomputable def Z10 (K : PySem.W.Frag) (A : Adr) : SF :=
  (sSeq (sE (eMu 1 (hPutF A.c_Shelf "many") (aCons (eVar 1) (aCons (eVar 0) aNil))))
  (sSeq (sE (eMu 1 (hPutF A.c_Shelf "made") (aCons (eDisp (.lst true) aNil) (aCons (eVar 0) aNil))))
  (sSeq (sE (eMu 1 (hPutF A.c_Shelf "numbers") (aCons (eDisp (.dit true []) aNil) (aCons (eVar 0) aNil))))
  (sE (eMu 1 (hPutF A.c_Shelf "gone") (aCons (eDisp (.dic true []) aNil) (aCons (eVar 0) aNil)))))))
noncomputable def Z137 (K : PySem.W.Frag) (A : Adr) : Fn := runDef 2 [true, false] (Z10 K A)
set_option maxHeartbeats 0 in
theorem Z360 (T : Txt K mg A) : InitX P w K mg base A.c_Shelf 1 ["self", "many"] (spR (adr A) [true, false] (Z137 K A)) :=
 okI (k := 0) (N := ["self", "many"]) (ms := [true, false]) (body := Z10 K A) T.a_Shelf___init__ Z537 rfl (by decide) fun f cdv A' outer s H E R hr hx hE ha => by
  have hu := hu_of hr
  refine Z511 ?_ ?_
  ·refine Z501 T.cl_Shelf T.n_Shelf_many ?_ ?_
   ·exact (Z481 (pv 0) (j := 0) rfl)
   ·exact (Z481 (pv 1) (j := 1) rfl)
  ·refine Z511 ?_ ?_
   ·refine Z501 T.cl_Shelf T.n_Shelf_made ?_ ?_
    ·exact (Z481 (pv 0) (j := 0) rfl)
    ·refine Z475 ?_
     ·exact Z459
   ·refine Z511 ?_ ?_
    ·refine Z501 T.cl_Shelf T.n_Shelf_numbers ?_ ?_
     ·exact (Z481 (pv 0) (j := 0) rfl)
     ·exact Z479
    ·refine Z514 ?_
     ·refine Z501 T.cl_Shelf T.n_Shelf_gone ?_ ?_
      ·exact (Z481 (pv 0) (j := 0) rfl)
      ·exact Z469
theorem Z544 : FnScope ["_law_script", "_law_k"] ["_law_script", "_law_k"] (defScope Z528) := ⟨rfl, rfl, rfl, by decide +kernel, rfl, by decide +kernel, by decide +kernel⟩
theorem Z343 : (["_law_script", "_law_k"] : List Str).Nodup := Z544.nd
noncomputable def Z17 (K : PySem.W.Frag) (A : Adr) : SF :=
  (sSeq (sIf (bV (eNw hLt (aCons (eVar 1) (aCons (eNw (hLen K) (aCons (eVar 0) aNil)) aNil)))) (sRet (eCh (hIx K) (aCons (eVar 0) (aCons (eVar 1) aNil)))) sPass)
  (sRet (eC (.int (0)))))
noncomputable def Z144 (K : PySem.W.Frag) (A : Adr) : Fn := runDef 2 [false, false] (Z17 K A)
set_option maxHeartbeats 0 in
theorem Z367 (T : Txt K mg A) : DefX P w K mg base "_law_at" 1 ["_law_script", "_law_k"] (spR (adr A) [false, false] (Z144 K A)) :=
 okD (k := 0) (N := ["_law_script", "_law_k"]) (ms := [false, false]) (body := Z17 K A) T.a__law_at Z544 rfl (by decide) fun f cdv A' outer s H E R hr hx hE ha => by
  have hu := hu_of hr
  refine Z511 ?_ ?_
  ·refine rs_if ?_ ?_ ?_
   ·refine Z515 on_lt ?_ ?_ (nomark _)
    ·exact (Z481 (pv 1) (j := 1) rfl)
    ·refine rc_b Z42 (by rfl) T.b_len boot_len ?_
     ·refine Z458 ?_ ?_
      ·exact (Z481 (pv 0) (j := 0) rfl)
      ·exact Z459
   ·refine Z514 ?_
    ·refine Z508 ?_
     ·refine re_ix ?_ ?_ (fun _ _ => rfl)
      ·exact (Z481 (pv 0) (j := 0) rfl)
      ·exact (Z481 (pv 1) (j := 1) rfl)
   ·exact Z513
  ·refine Z514 ?_
   ·refine Z508 ?_
    ·exact (re_C Z411)
theorem Z546 : FnScope ["_law_script", "_law_k", "_law_base", "_law_many", "_law_cell", "_law_found", "_law_j", "_law_once"] ["_law_script", "_law_k", "_law_base", "_law_many"] (defScope Z530) := ⟨rfl, rfl, rfl, by decide +kernel, rfl, by decide +kernel, by decide +kernel⟩
theorem Z345 : (["_law_script", "_law_k", "_law_base", "_law_many", "_law_cell", "_law_found", "_law_j", "_law_once"] : List Str).Nodup := Z546.nd
noncomputable def Z292 (K : PySem.W.Frag) (A : Adr) : SF :=
  (sKill [6, 7] (sIf (bV (eNw (hEq false) (aCons (eNw hMod (aCons (eCall [false, false] (Z144 K A) (aCons (eVar 0) (aCons (eC (.int (0))) aNil))) (aCons (eC (.int (2))) aNil))) (aCons (eC (.int (0))) aNil)))) (sSeq (sE (eMu 0 hApp (aCons (eGuard isLst (eVar 5)) (aCons (eNw hMod (aCons (eVar 4) (aCons (eVar 2) aNil))) aNil))))
  (sAsg (eNw hDiv (aCons (eVar 4) (aCons (eVar 2) aNil))) (asgD 4))) (sSeq (sAsg (eNw hMod (aCons (eNw hMul (aCons (eNw hAddI (aCons (eNw hAddI (aCons (eVar 4) (aCons (eNw hMul (aCons (eC (.int (31))) (aCons (eVar 6) aNil))) aNil))) (aCons (eC (.int (1))) aNil))) (aCons (eC (.int (48271))) aNil))) (aCons (eC (.int (2147483647))) aNil))) (asgD 7))
  (sE (eMu 0 hApp (aCons (eGuard isLst (eVar 5)) (aCons (eNw hMod (aCons (eNw hMod (aCons (eNw hMul (aCons (eNw hAddI (aCons (eNw hAddI (aCons (eNw hAddI (aCons (eVar 7) (aCons (eNw hMul (aCons (eC (.int (7919))) (aCons (eVar 1) aNil))) aNil))) (aCons (eVar 6) aNil))) (aCons (eC (.int (1))) aNil))) (aCons (eC (.int (69621))) aNil))) (aCons (eC (.int (2147483647))) aNil))) (aCons (eVar 2) aNil))) aNil)))))))
noncomputable def Z19 (K : PySem.W.Frag) (A : Adr) : SF :=
  (sSeq (sAsg (eCall [false, false] (Z144 K A) (aCons (eVar 0) (aCons (eVar 1) aNil))) (asgD 4))
  (sSeq (sAsg (eDisp (.lst true) aNil) (asgD 5))
  (sSeq (sForR (aCons (eVar 3) aNil) (asgD 6)
  (Z292 K A))
  (sRet (eVar 5)))))
noncomputable def Z146 (K : PySem.W.Frag) (A : Adr) : Fn := runDef 8 [false, false, false, false] (Z19 K A)
set_option maxHeartbeats 0 in
theorem Z369 (T : Txt K mg A) : DefX P w K mg base "_law_figures" 2 ["_law_script", "_law_k", "_law_base", "_law_many"] (spR (adr A) [false, false, false, false] (Z146 K A)) :=
 okD (k := 1) (N := ["_law_script", "_law_k", "_law_base", "_law_many", "_law_cell", "_law_found", "_law_j", "_law_once"]) (ms := [false, false, false, false]) (body := Z19 K A) T.a__law_figures Z546 rfl (by decide) fun f cdv A' outer s H E R hr hx hE ha => by
  have hu := hu_of hr
  refine Z511 ?_ ?_
  ·refine Z499 ?_ ?_
   ·refine rc_fn (ms := [false, false]) (by rw [ha]; exact (Z367 T)) (hr.mono (by omega)) hx ?_ (Z1 (Z1 Z2))
    ·refine Z458 ?_ ?_
     ·exact (Z481 (pv 0) (j := 0) rfl)
     ·refine Z458 ?_ ?_
      ·exact (Z481 (pv 1) (j := 1) rfl)
      ·exact Z459
   ·exact (Z486 (i := 4) Z345 rfl (Or.inl rfl) rfl (by decide))
  ·refine Z511 ?_ ?_
   ·refine Z499 ?_ ?_
    ·refine Z475 ?_
     ·exact Z459
    ·exact (Z486 (i := 5) Z345 rfl (Or.inl rfl) rfl (by decide))
   ·refine Z511 ?_ ?_
    ·refine Z504 Z395 rfl rfl T.b_range ?_ ?_ ?_
     ·exact (Z481 (pv 3) (j := 3) rfl)
     ·exact (Z486 (i := 6) Z345 rfl (Or.inl rfl) rfl (by decide))
     ·refine Z512 (js := [6, 7]) (by decide) ?_
      ·refine Z514 ?_
       ·refine rs_if ?_ ?_ ?_
        ·refine Z515 on_eq ?_ ?_ (nomark _)
         ·refine re_op Z379 ?_ ?_
          ·refine rc_fn (ms := [false, false]) (by rw [ha]; exact (Z367 T)) (hr.mono (by omega)) hx ?_ (Z1 (Z1 Z2))
           ·refine Z458 ?_ ?_
            ·exact (Z481 (pv 0) (j := 0) rfl)
            ·refine Z458 ?_ ?_
             ·exact (re_C Z411)
             ·exact Z459
          ·exact (re_C Z411)
         ·exact (re_C Z411)
        ·refine Z511 ?_ ?_
         ·refine rs_e ?_
          ·refine Z465 ?_ ?_
           ·exact (Z481 (pv 5) (j := 5) rfl)
           ·refine re_op Z379 ?_ ?_
            ·exact (Z481 (pv 4) (j := 4) rfl)
            ·exact (Z481 (pv 2) (j := 2) rfl)
         ·refine Z514 ?_
          ·refine Z499 ?_ ?_
           ·refine re_op Z377 ?_ ?_
            ·exact (Z481 (pv 4) (j := 4) rfl)
            ·exact (Z481 (pv 2) (j := 2) rfl)
           ·exact (Z486 (i := 4) Z345 rfl (Or.inl rfl) rfl (by decide))
        ·refine Z511 ?_ ?_
         ·refine Z499 ?_ ?_
          ·refine re_op Z379 ?_ ?_
           ·refine re_op Z380 ?_ ?_
            ·refine re_op Z375 ?_ ?_
             ·refine re_op Z375 ?_ ?_
              ·exact (Z481 (pv 4) (j := 4) rfl)
              ·refine re_op Z380 ?_ ?_
               ·exact (re_C Z411)
               ·exact (Z481 (pv 6) (j := 6) rfl)
             ·exact (re_C Z411)
            ·exact (re_C Z411)
           ·exact (re_C Z411)
          ·exact (Z486 (i := 7) Z345 rfl (Or.inl rfl) rfl (by decide))
         ·refine Z514 ?_
          ·refine rs_e ?_
           ·refine Z465 ?_ ?_
            ·exact (Z481 (pv 5) (j := 5) rfl)
            ·refine re_op Z379 ?_ ?_
             ·refine re_op Z379 ?_ ?_
              ·refine re_op Z380 ?_ ?_
               ·refine re_op Z375 ?_ ?_
                ·refine re_op Z375 ?_ ?_
                 ·refine re_op Z375 ?_ ?_
                  ·exact (Z481 (pv 7) (j := 7) rfl)
                  ·refine re_op Z380 ?_ ?_
                   ·exact (re_C Z411)
                   ·exact (Z481 (pv 1) (j := 1) rfl)
                 ·exact (Z481 (pv 6) (j := 6) rfl)
                ·exact (re_C Z411)
               ·exact (re_C Z411)
              ·exact (re_C Z411)
             ·exact (Z481 (pv 2) (j := 2) rfl)
    ·refine Z514 ?_
     ·refine Z508 ?_
      ·exact (Z481 (pv 5) (j := 5) rfl)
theorem Z545 : FnScope ["_law_figs", "_law_many", "_law_counts", "_law_spot", "_law_bad", "_law_spoilt"] ["_law_figs", "_law_many"] (defScope Z529) := ⟨rfl, rfl, rfl, by decide +kernel, rfl, by decide +kernel, by decide +kernel⟩
theorem Z344 : (["_law_figs", "_law_many", "_law_counts", "_law_spot", "_law_bad", "_law_spoilt"] : List Str).Nodup := Z545.nd
noncomputable def Z576 (K : PySem.W.Frag) (A : Adr) : SF :=
  (sRet (eSel 5 (aCons (eNw hCat (aCons (eVar 2) (aCons (eDisp (.lst true) (aCons (eNw hMod (aCons (eCh (hIx K) (aCons (eVar 0) (aCons (eC (.int (4))) aNil))) (aCons (eC (.int (4))) aNil))) aNil)) aNil))) (aCons (eNw (hCut true) (aCons (eVar 2) (aCons (eC (.int (1))) aNil))) (aCons (eDisp (.lst true) aNil) (aCons (eVar 5) (aCons (eVar 5) (aCons (eNw hMod (aCons (eNw hDiv (aCons (eCh (hIx K) (aCons (eVar 0) (aCons (eC (.int (5))) aNil))) (aCons (eC (.int (6))) aNil))) (aCons (eC (.int (5))) aNil))) aNil))))))))
noncomputable def Z575 (K : PySem.W.Frag) (A : Adr) : SF :=
  (sSeq (sIf (bV (eNw (hEq false) (aCons (eNw hMod (aCons (eCh (hIx K) (aCons (eVar 0) (aCons (eC (.int (5))) aNil))) (aCons (eC (.int (6))) aNil))) (aCons (eC (.int (1))) aNil)))) (sSeq (sAsg (eNw hMod (aCons (eCh (hIx K) (aCons (eVar 0) (aCons (eC (.int (4))) aNil))) (aCons (eVar 1) aNil))) (asgD 3))
  (sSeq (sAsg (eDisp (.lst true) (aCons (eCh (hIx K) (aCons (eDisp (.lst true) (aCons (eNw hNeg (aCons (eC (.int (1))) aNil)) (aCons (eC (.int (4))) (aCons (eC (.int (1000000))) (aCons (eNw hNeg (aCons (eC (.int (7))) aNil)) aNil))))) (aCons (eNw hMod (aCons (eNw hDiv (aCons (eCh (hIx K) (aCons (eVar 0) (aCons (eC (.int (4))) aNil))) (aCons (eC (.int (4))) aNil))) (aCons (eC (.int (4))) aNil))) aNil))) aNil)) (asgD 4))
  (sSeq (sAsg (eNw hCat (aCons (eNw hCat (aCons (eNw (hCut false) (aCons (eVar 2) (aCons (eVar 3) aNil))) (aCons (eVar 4) aNil))) (aCons (eNw (hCut true) (aCons (eVar 2) (aCons (eNw hAddI (aCons (eVar 3) (aCons (eC (.int (1))) aNil))) aNil))) aNil))) (asgD 5))
  (Z576 K A)))) sPass)
  (sRet (eVar 2)))
noncomputable def Z18 (K : PySem.W.Frag) (A : Adr) : SF :=
  (sSeq (sAsg (eCompR1 (eVar 1) (fun _ => bYes) (fun n1 => (eNw hMod (aCons (eCh (hIx K) (aCons (eVar 0) (aCons (eVar n1) aNil))) (aCons (eC (.int (4))) aNil))))) (asgD 2))
  (Z575 K A))
noncomputable def Z145 (K : PySem.W.Frag) (A : Adr) : Fn := runDef 6 [false, false] (Z18 K A)
set_option maxHeartbeats 0 in
theorem Z368 (T : Txt K mg A) : DefX P w K mg base "_law_drawn_counts" 1 ["_law_figs", "_law_many"] (spR (adr A) [false, false] (Z145 K A)) :=
 okD (k := 0) (N := ["_law_figs", "_law_many", "_law_counts", "_law_spot", "_law_bad", "_law_spoilt"]) (ms := [false, false]) (body := Z18 K A) T.a__law_drawn_counts Z545 rfl (by decide) fun f cdv A' outer s H E R hr hx hE ha => by
  have hu := hu_of hr
  refine Z511 ?_ ?_
  ·refine Z509 (N := ["_law_k", "_law_figs", "_law_many", "_law_counts", "_law_spot", "_law_bad", "_law_spoilt"]) rfl (by decide) rfl T.b_range ?_ (CompSc.of (sc := defScope Z529) (N0 := ["_law_figs", "_law_many", "_law_counts", "_law_spot", "_law_bad", "_law_spoilt"]) rfl rfl (by decide +kernel)) (fun cl C s H fp => (Z423 (i := 0) (show (["_law_k", "_law_figs", "_law_many", "_law_counts", "_law_spot", "_law_bad", "_law_spoilt"] : List Str).Nodup from by decide +kernel) rfl (Or.inl rfl))) (fun cl C s H fp => Z457) (fun cl C s H fp => px_e fun n1 hn1 => ?_) Z344 rfl (i := 2) rfl (j := 2) rfl (by rfl)
   ·exact (Z481 (pv 1) (j := 1) rfl)
   ·refine re_op Z379 ?_ ?_
    ·refine re_ix ?_ ?_ (fun _ _ => rfl)
     ·exact (Z481 (pv 1) (j := 0) rfl)
     ·exact (Z481 (pv 0) (j := n1) rfl)
    ·exact (re_C Z411)
  ·refine Z511 ?_ ?_
   ·refine rs_if ?_ ?_ ?_
    ·refine Z515 on_eq ?_ ?_ (nomark _)
     ·refine re_op Z379 ?_ ?_
      ·refine re_ix ?_ ?_ (fun _ _ => rfl)
       ·exact (Z481 (pv 0) (j := 0) rfl)
       ·exact (re_C Z411)
      ·exact (re_C Z411)
     ·exact (re_C Z411)
    ·refine Z511 ?_ ?_
     ·refine Z499 ?_ ?_
      ·refine re_op Z379 ?_ ?_
       ·refine re_ix ?_ ?_ (fun _ _ => rfl)
        ·exact (Z481 (pv 0) (j := 0) rfl)
        ·exact (re_C Z411)
       ·exact (Z481 (pv 1) (j := 1) rfl)
      ·exact (Z486 (i := 3) Z344 rfl (Or.inl rfl) rfl (by decide))
     ·refine Z511 ?_ ?_
      ·refine Z499 ?_ ?_
       ·refine Z475 ?_
        ·refine Z458 ?_ ?_
         ·refine re_ix ?_ ?_ (fun _ _ => rfl)
          ·refine Z475 ?_
           ·refine Z458 ?_ ?_
            ·refine Z476 ?_
             ·exact (re_C Z411)
            ·refine Z458 ?_ ?_
             ·exact (re_C Z411)
             ·refine Z458 ?_ ?_
              ·exact (re_C Z411)
              ·refine Z458 ?_ ?_
               ·refine Z476 ?_
                ·exact (re_C Z411)
               ·exact Z459
          ·refine re_op Z379 ?_ ?_
           ·refine re_op Z377 ?_ ?_
            ·refine re_ix ?_ ?_ (fun _ _ => rfl)
             ·exact (Z481 (pv 0) (j := 0) rfl)
             ·exact (re_C Z411)
            ·exact (re_C Z411)
           ·exact (re_C Z411)
         ·exact Z459
       ·exact (Z486 (i := 4) Z344 rfl (Or.inl rfl) rfl (by decide))
      ·refine Z511 ?_ ?_
       ·refine Z499 ?_ ?_
        ·refine re_op Z376 ?_ ?_
         ·refine re_op Z376 ?_ ?_
          ·refine Z467 ?_ ?_
           ·exact (Z481 (pv 2) (j := 2) rfl)
           ·exact (Z481 (pv 3) (j := 3) rfl)
          ·exact (Z481 (pv 4) (j := 4) rfl)
         ·refine Z468 ?_ ?_
          ·exact (Z481 (pv 2) (j := 2) rfl)
          ·refine re_op Z375 ?_ ?_
           ·exact (Z481 (pv 3) (j := 3) rfl)
           ·exact (re_C Z411)
        ·exact (Z486 (i := 5) Z344 rfl (Or.inl rfl) rfl (by decide))
       ·refine Z514 ?_
        ·refine Z508 ?_
         ·refine Z478 (Z493 (re_op Z376 (Z481 (pv 2) (j := 2) rfl) (Z475 (Z458 (re_op Z379 (re_ix (Z481 (pv 0) (j := 0) rfl) (re_C Z411) (fun _ _ => rfl)) (re_C Z411)) Z459))) (Z493 (Z468 (Z481 (pv 2) (j := 2) rfl) (re_C Z411)) (Z493 (Z475 Z459) (Z493 (Z481 (pv 5) (j := 5) rfl) (Z493 (Z481 (pv 5) (j := 5) rfl) Z494))))) ?_ (fun _ _ => rfl) (Nat.le_of_ble_eq_true rfl)
          ·refine re_op Z379 ?_ ?_
           ·refine re_op Z377 ?_ ?_
            ·refine re_ix ?_ ?_ (fun _ _ => rfl)
             ·exact (Z481 (pv 0) (j := 0) rfl)
             ·exact (re_C Z411)
            ·exact (re_C Z411)
           ·exact (re_C Z411)
    ·exact Z513
   ·refine Z514 ?_
    ·refine Z508 ?_
     ·exact (Z481 (pv 2) (j := 2) rfl)
theorem Z550 : FnScope ["_law_found", "_law_due"] ["_law_found", "_law_due"] (defScope Z534) := ⟨rfl, rfl, rfl, by decide +kernel, rfl, by decide +kernel, by decide +kernel⟩
theorem Z349 : (["_law_found", "_law_due"] : List Str).Nodup := Z550.nd
noncomputable def Z564 (n : Nat) (K : PySem.W.Frag) (A : Adr) : Sp := fun vs H Q _ => ∃ (x y : V) (d d' : Dt), vs = [x, y] ∧ RelD H d x ∧ RelD H d' y ∧ d'.dep ≤ n ∧ ∀ H', Same H H' → Q (.bl (Dt.eq d d')) H'
theorem Z301 {n : Nat} {vs : List V} {H : Hp} {Q : VK} {E : XK} (h : Z564 n K A vs H Q E) : vs.length = 2 := by obtain ⟨_, _, _, _, rfl, _⟩ := h; rfl
theorem Z670 {vs : List V} {H : Hp} {Q : VK} {E : XK} (h : Z564 0 K A vs H Q E) : False := by
 obtain ⟨_, _, _, d', _, _, _, h, _⟩ := h
 have := d'.dep_pos
 omega
set_option maxHeartbeats 0 in
theorem Z359 (T : Txt K mg A) : ∀ n, DefX P w K mg base "_law_same" (n + 1) ["_law_found", "_law_due"] (Z564 n K A)
 | 0 => T.a__law_same.okX (k := 0) Z550 (fun vs H Q E h => Z301 h) (fun f cdv A outer s H vs Q E hr h => (Z670 h).elim)
 | n + 1 => by
  have ih : DefX P w K mg base "_law_same" (n + 1) ["_law_found", "_law_due"] (Z564 n K A) := Z359 T n
  refine T.a__law_same.okX (k := n + 1) Z550 (fun vs H Q E h => Z301 h) (fun f cdv A' outer s H vs Q E hr h => ?_)
  have hu := hu_of hr
  refine ⟨_, (Z446 (ps_if (Z451 (Z399 Z31 (by rfl) T.b_isinstance boot_isinstance (Z393 (pv 1) (Z393 (Z420 (Z393 (Z398 (v := .ty "list") rfl T.b_list boot_list rfl) (Z393 (Z398 (v := .ty "tuple") rfl T.b_tuple boot_tuple rfl) Z394))) Z394)))) (Z446 (ps_if (PW.pt (pw_or (Z449 op_ne (Z399 Z30 (by rfl) T.b_isinstance boot_isinstance (Z393 (pv 0) (Z393 (Z398 (v := .ty "list") rfl T.b_list boot_list rfl) Z394))) (Z399 Z30 (by rfl) T.b_isinstance boot_isinstance (Z393 (pv 1) (Z393 (Z398 (v := .ty "list") rfl T.b_list boot_list rfl) Z394))) (nomark _)) (Z456 (Z449 op_ne (Z399 Z30 (by rfl) T.b_isinstance boot_isinstance (Z393 (pv 0) (Z393 (Z398 (v := .ty "tuple") rfl T.b_tuple boot_tuple rfl) Z394))) (Z399 Z30 (by rfl) T.b_isinstance boot_isinstance (Z393 (pv 1) (Z393 (Z398 (v := .ty "tuple") rfl T.b_tuple boot_tuple rfl) Z394))) (nomark _))))) (Z448 (Z443 pe_bl)) Z447)
   (Z448 (Z443 (Z397 (Z402 op_eq (Z399 (KQ.call_len K) (by rfl) T.b_len boot_len (Z393 (pv 0) Z394)) (Z399 (KQ.call_len K) (by rfl) T.b_len boot_len (Z393 (pv 1) Z394)) (nomark _)) (Z416 (Z399 (KQ.call_all K rfl) (by rfl) T.b_all boot_all (Z393 (Z403 (t := 1) (N := ["_law_k", "_law_found", "_law_due"]) rfl (Z430 rfl T.b_range (Z393 (Z399 (KQ.call_len K) (by rfl) T.b_len boot_len (Z393 (pv 1) Z394)) Z394)) (CompSc.of (sc := defScope Z534) (N0 := ["_law_found", "_law_due"]) rfl rfl (by decide +kernel)) (fun cl C s H fp => (Z423 (i := 0) (show (["_law_k", "_law_found", "_law_due"] : List Str).Nodup from by decide +kernel) rfl (Or.inl rfl))) (fun cl C s H fp => Z422) (fun cl C s H fp => (Z407 ih (hr.mono (by omega)) passT0 (Z393 (pe_ix (KQ.ix_seq K) (pv 1) (pv 0) (fun _ _ => rfl)) (Z393 (pe_ix (KQ.ix_seq K) (pv 2) (pv 0) (fun _ _ => rfl)) Z394))))) Z394))))))) Z447)
   (Z446 (ps_if (PW.pt (pw_or (Z449 Z385 (pv 1) Z415 (nomark _)) (Z456 (Z449 Z385 (pv 0) Z415 (nomark _))))) (Z448 (Z443 (Z397 (Z402 Z385 (pv 1) Z415 (nomark _)) (Z416 (Z402 Z385 (pv 0) Z415 (nomark _)))))) Z447)
   (Z446 (ps_if (PW.pt (pw_or (Z449 op_ne (Z399 Z30 (by rfl) T.b_isinstance boot_isinstance (Z393 (pv 0) (Z393 (Z398 (v := .ty "bool") rfl T.b_bool boot_bool rfl) Z394))) (Z399 Z30 (by rfl) T.b_isinstance boot_isinstance (Z393 (pv 1) (Z393 (Z398 (v := .ty "bool") rfl T.b_bool boot_bool rfl) Z394))) (nomark _)) (Z456 (Z449 op_ne (Z399 Z30 (by rfl) T.b_isinstance boot_isinstance (Z393 (pv 0) (Z393 (Z398 (v := .ty "str") rfl T.b_str boot_str rfl) Z394))) (Z399 Z30 (by rfl) T.b_isinstance boot_isinstance (Z393 (pv 1) (Z393 (Z398 (v := .ty "str") rfl T.b_str boot_str rfl) Z394))) (nomark _))))) (Z448 (Z443 pe_bl)) Z447)
   (Z448 (Z443 (Z397 (Z399 Z31 (by rfl) T.b_isinstance boot_isinstance (Z393 (pv 0) (Z393 (Z420 (Z393 (Z398 (v := .ty "int") rfl T.b_int boot_int rfl) (Z393 (Z398 (v := .ty "str") rfl T.b_str boot_str rfl) Z394))) Z394))) (Z416 (Z402 op_eq (pv 0) (pv 1) (nomark _))))))))), ?_⟩
  obtain ⟨x, y, d, d', rfl, hx, hy, hd, k⟩ := h
  walk_at "rd"
  refine ⟨by decide, fun p hp => ?_⟩
  have sm : Same H (upd H p (.tup [V.ty "list", V.ty "tuple"])) := fun c o e => by rw [Z604 (Z352 e hp)]; exact e
  generalize hH1 : upd H p (.tup [V.ty "list", V.ty "tuple"]) = H1 at sm ⊢
  have hp1 : H1 p = some (.tup (["list", "tuple"].map V.ty)) := by rw [← hH1]; exact Z605
  have hx1 := hx.same sm
  have hy1 := hy.same sm
  have kd : ∀ e : Dt, kitAll e.ty ["list", "tuple"] = true := fun e => by simp [kitAll, e.kit (T := "list") (by simp), e.kit (T := "tuple") (by simp)]
  have kd2 : ∀ e : Dt, kitAll e.ty ["int", "str"] = true := fun e => by simp [kitAll, e.kit (T := "int") (by simp), e.kit (T := "str") (by simp)]
  refine ⟨y, p, _, d'.ty, rfl, hp1, hy1.ty, kd d', _, rfl, ?_⟩
  have e0 : ["list", "tuple"].any (subT d'.ty) = (d'.isL || d'.isT) := by simp [d'.sub_list, d'.sub_tuple]
  rw [e0]
  have core : ∀ (px py : Addr) (xs ys : List V) (l l' : List Dt), (SqL K H1 px xs ∨ SqT K H1 px xs) → (SqL K H1 py ys ∨ SqT K H1 py ys) → RelDs H1 l xs → RelDs H1 l' ys → ys.length ≤ sizeLine → Dt.deps l' ≤ n → (∀ H', Same H H' → Q (V.bl (Dt.eqs l l')) H') →
    ∃ x_4, LenV K (V.ref px) H1 x_4 ∧ ∃ x_5, LenV K (V.ref py) H1 x_5 ∧ scal (V.int x_4) (V.int x_5) = true ∧
     if (x_4 : Int) = (x_5 : Int) then
      tComp 1 (iRng1 (tCons (tCB (fun xs H Q => ∃ x, xs = [x] ∧ ∃ x_6, LenV K x H x_6 ∧ Q (V.int x_6) H) (tCons (tVar 1) tNil)) tNil)) (gName 0) tYes
       (tCallT (Z564 n K A) (fun x => E0) (tCons (tOp (rIx K) (tVar 1) (tVar 0)) (tCons (tOp (rIx K) (tVar 2) (tVar 0)) tNil)))
       [some (V.ref px), some (V.ref py)] H1 fun x H1 => ∃ p, x = V.ref p ∧ ∃ x, SqL K H1 p (List.map V.bl x) ∧ Q (V.bl (x.all id)) H1
     else Q (V.bl false) H1 := by
   intro px py xs ys l l' hpx hpy rl rl' sz hdl k2
   have len1 := rl.length
   have len2 := rl'.length
   have lv : ∀ {q : Addr} {zs : List V}, (SqL K H1 q zs ∨ SqT K H1 q zs) → LenV K (V.ref q) H1 zs.length := fun h => by
    rcases h with h | h
    ·exact .inl ⟨_, h, rfl⟩
    ·exact .inr ⟨_, h, rfl⟩
   refine ⟨xs.length, lv hpx, ys.length, lv hpy, rfl, ?_⟩
   by_cases hl : (xs.length : Int) = (ys.length : Int)
   ·rw [if_pos hl]
    refine ⟨_, rfl, _, rfl, _, lv hpy, _, rfl, by have := sizeLine_eq; omega, by have := sizeLine_eq; omega, ?_⟩
    rw [Int.toNat_natCast]
    refine Z53 sz (fun i => V.bl (Dt.eq (l[i]?.getD .non) (l'[i]?.getD .non))) ?_ ?_
    ·intro i H4 Q4 hi sm4 k4
     obtain ⟨e, he⟩ : ∃ e, l[i]? = some e := ⟨l[i]'(by omega), by simp⟩
     obtain ⟨e', he'⟩ : ∃ e, l'[i]? = some e := ⟨l'[i]'(by omega), by simp⟩
     obtain ⟨v, hv, rv⟩ := rl.get he
     obtain ⟨v', hv', rv'⟩ := rl'.get he'
     have ix : ∀ {q : Addr} {zs : List V} {u : V} {QQ : VK}, (SqL K H1 q zs ∨ SqT K H1 q zs) → zs[i]? = some u → QQ u H4 → rIx K (V.ref q) (V.int (0 + (i : Int))) H4 QQ := fun h hu q => by
      rw [Int.zero_add]
      rcases h with h | h
      ·exact .inl ⟨_, _, _, _, rfl, rfl, sm4.seq h, Z7 hu, q⟩
      ·exact .inr (.inl ⟨_, _, _, _, rfl, rfl, sm4.seqT h, Z7 hu, q⟩)
     refine ⟨_, rfl, _, rfl, ix hpx hv ⟨_, rfl, _, rfl, ix hpy hv' ?_⟩⟩
     refine ⟨v, v', e, e', rfl, rv.same sm4, rv'.same sm4, Nat.le_trans (Dt.deps_le he') hdl, fun H5 s5 => ?_⟩
     have k5 := k4 H5 s5
     rw [he, he'] at k5
     exact k5
    ·intro D H4 hD sm4 hD4
     refine ⟨D, rfl, _, .of (by rw [hD4, List.map_map]; rfl), ?_⟩
     rw [show ys.length = l'.length by omega, ← Dt.eqs_all (by omega)]
     exact k2 H4 (sm.trans sm4)
   ·rw [if_neg hl]
    have : Dt.eqs l l' = false := by
     cases q : Dt.eqs l l' with
     | false => rfl
     | true =>
      have := (Dt.eqs_iff l l').mp q
      subst this
      omega
    rw [this] at k2
    exact k2 H1 sm
  have no : d ≠ d' → ∀ H', Same H H' → Q (V.bl false) H' := fun ne H' s' => by
   have := k H' s'
   rwa [Dt.eq_false ne] at this
  cases hLT : (d'.isL || d'.isT) with
  | true =>
   refine iteT ?_
   refine ⟨x, "list", d.ty, rfl, hx1.ty, d.kit (by simp), y, "list", d'.ty, rfl, hy1.ty, d'.kit (by simp), rfl, ?_⟩
   rw [Z28, d.sub_list, d'.sub_list]
   by_cases hL : d.isL = d'.isL
   ·rw [show (!(d.isL == d'.isL)) = false by simp [hL]]
    refine iteF ?_
    refine ⟨x, "tuple", d.ty, rfl, hx1.ty, d.kit (by simp), y, "tuple", d'.ty, rfl, hy1.ty, d'.kit (by simp), rfl, ?_⟩
    rw [Z28, d.sub_tuple, d'.sub_tuple]
    by_cases hT : d.isT = d'.isT
    ·rw [show (!(d.isT == d'.isT)) = false by simp [hT]]
     refine iteF ?_
     cases d' with
     | lst l' =>
      cases d with
      | lst l =>
       obtain ⟨px, xs, rfl, h1, z1, r1⟩ := hx1
       obtain ⟨py, ys, rfl, h2, z2, r2⟩ := hy1
       exact core px py xs ys l l' (.inl (.of h1)) (.inl (.of h2)) r1 r2 (Nat.le_of_lt z2) (by unfold Dt.dep at hd; omega) fun H' s' => by have := k H' s'; simpa [Dt.eq] using this
      | _ => cases hL
     | tup l' =>
      cases d with
      | tup l =>
       obtain ⟨px, xs, rfl, h1, z1, r1⟩ := hx1
       obtain ⟨py, ys, rfl, h2, z2, r2⟩ := hy1
       exact core px py xs ys l l' (.inr (.inl (.inl h1))) (.inr (.inl (.inl h2))) r1 r2 (Nat.le_of_lt z2) (by unfold Dt.dep at hd; omega) fun H' s' => by have := k H' s'; simpa [Dt.eq] using this
      | _ => first | cases hT | cases hL
     | _ => cases hLT
    ·rw [show (!(d.isT == d'.isT)) = true by simp [hT]]
     refine iteT ?_
     exact no (fun z => hT (by rw [z])) H1 sm
   ·rw [show (!(d.isL == d'.isL)) = true by simp [hL]]
    refine iteT ?_
    exact no (fun z => hL (by rw [z])) H1 sm
  | false =>
   refine iteF ?_
   have scalar : ∀ (hyn : y ≠ V.non), (d.isB = d'.isB → d.isS = d'.isS → (d.isI || d.isB || d.isS) = true → scal x y = true ∧ decide (x = y) = Dt.eq d d') → (d'.isI || d'.isB || d'.isS) = true →
     (if y = V.non then if y = V.non then Q (V.bl (decide (x = V.non))) H1 else Q (V.bl false) H1
     else if x = V.non then if y = V.non then Q (V.bl (decide (x = V.non))) H1 else Q (V.bl false) H1
     else rIs1 [x, V.ty "bool"] H1 fun x_2 H1 => rIs1 [y, V.ty "bool"] H1 fun y_1 H2 => scal x_2 y_1 = true ∧
      if (!decide (x_2 = y_1)) = true then Q (V.bl false) H2
      else rIs1 [x, V.ty "str"] H2 fun x_3 H1 => rIs1 [y, V.ty "str"] H1 fun y_2 H2 => scal x_3 y_2 = true ∧
       if (!decide (x_3 = y_2)) = true then Q (V.bl false) H2
       else 2 ≤ sizeLine ∧ ∀ (p : Addr), H2 p = none → rIsT [x, V.ref p] (upd H2 p (HO.tup [V.ty "int", V.ty "str"])) fun x_4 H1 => ∃ c, x_4 = V.bl c ∧
        if c = true then scal x y = true ∧ Q (V.bl (decide (x = y))) H1 else Q (V.bl false) H1) := by
    intro hyn hsc hk'
    rw [if_neg hyn]
    by_cases hxn : x = V.non
    ·rw [if_pos hxn, if_neg hyn]
     refine no (fun z => ?_) H1 sm
     have h1 := hx1.isNon
     rw [decide_eq_true hxn, z] at h1
     have h2 := hy1.isNon
     rw [decide_eq_false hyn] at h2
     rw [← h1] at h2
     cases h2
    ·rw [if_neg hxn]
     refine ⟨x, "bool", d.ty, rfl, hx1.ty, d.kit (by simp), y, "bool", d'.ty, rfl, hy1.ty, d'.kit (by simp), rfl, ?_⟩
     rw [Z28, d.sub_bool, d'.sub_bool]
     by_cases hB : d.isB = d'.isB
     ·rw [show (!(d.isB == d'.isB)) = false by simp [hB]]
      refine iteF ?_
      refine ⟨x, "str", d.ty, rfl, hx1.ty, d.kit (by simp), y, "str", d'.ty, rfl, hy1.ty, d'.kit (by simp), rfl, ?_⟩
      rw [Z28, d.sub_str, d'.sub_str]
      by_cases hS : d.isS = d'.isS
      ·rw [show (!(d.isS == d'.isS)) = false by simp [hS]]
       refine iteF ⟨by decide, fun q hq => ?_⟩
       have sm2 : Same H1 (upd H1 q (.tup [V.ty "int", V.ty "str"])) := fun c o e => by rw [Z604 (Z352 e hq)]; exact e
       refine ⟨x, q, ["int", "str"], d.ty, rfl, Z605, (hx1.same sm2).ty, kd2 d, _, rfl, ?_⟩
       have e2 : ["int", "str"].any (subT d.ty) = (d.isI || d.isB || d.isS) := by simp [d.sub_int, d.sub_str, Bool.or_assoc]
       rw [e2]
       cases hI : (d.isI || d.isB || d.isS) with
       | true =>
        obtain ⟨h1, h2⟩ := hsc hB hS hI
        refine iteT ⟨h1, ?_⟩
        rw [h2]
        exact k _ (sm.trans sm2)
       | false =>
        refine iteF ?_
        exact no (fun z => by rw [z, hk'] at hI; cases hI) _ (sm.trans sm2)
      ·rw [show (!(d.isS == d'.isS)) = true by simp [hS]]
       exact iteT (no (fun z => hS (by rw [z])) H1 sm)
     ·rw [show (!(d.isB == d'.isB)) = true by simp [hB]]
      exact iteT (no (fun z => hB (by rw [z])) H1 sm)
   cases d' with
   | non =>
    cases (show y = V.non from hy1)
    rw [if_pos rfl, if_pos rfl, hx1.isNon, ← Dt.eq_non]
    exact k H1 sm
   | bl b =>
    cases (show y = V.bl b from hy1)
    refine scalar (by intro z; cases z) (fun hB hS hI => ?_) rfl
    cases d with
    | bl c => cases (show x = V.bl c from hx1); exact ⟨rfl, by rw [Z28]; rfl⟩
    | _ => cases hB
   | int i =>
    cases (show y = V.int i from hy1)
    refine scalar (by intro z; cases z) (fun hB hS hI => ?_) rfl
    cases d with
    | int j => cases (show x = V.int j from hx1); exact ⟨rfl, by simp [Dt.eq, Bool.beq_eq_decide_eq]⟩
    | bl c => cases hB
    | str c => cases hS
    | _ => cases hI
   | str u =>
    cases (show y = V.str u from hy1)
    refine scalar (by intro z; cases z) (fun hB hS hI => ?_) rfl
    cases d with
    | str v => cases (show x = V.str v from hx1); exact ⟨rfl, by simp [Dt.eq, Bool.beq_eq_decide_eq]⟩
    | _ => cases hS
   | lst l => cases hLT
   | tup l => cases hLT
noncomputable def Z150 (A : Adr) : Fn := sameF 3
theorem Z373 (T : Txt K mg A) : DefX P w K mg base "_law_same" 4 ["_law_found", "_law_due"] (spR (adr A) [false, false] (Z150 A)) := DefX.imp (Z359 T 3) fun vs H Q E h => Z535 h
theorem Z538 : FnScope ["self", "counts", "many_new"] ["self", "counts"] (defScope Z522) := ⟨rfl, rfl, rfl, by decide +kernel, rfl, by decide +kernel, by decide +kernel⟩
theorem Z337 : (["self", "counts", "many_new"] : List Str).Nodup := Z538.nd
noncomputable def Z289 (K : PySem.W.Frag) (A : Adr) : SF :=
  (sKill [2] (sIf (bOr (bV (eNw hLt (aCons (eVar 2) (aCons (eC (.int (0))) aNil)))) (bV (eNw hGt (aCons (eVar 2) (aCons (eC (V.int 3)) aNil))))) (sRaise "BadCounts" (aCons (eNw hRepr (aCons (eVar 1) aNil)) aNil)) sPass))
noncomputable def Z11 (K : PySem.W.Frag) (A : Adr) : SF :=
  (sSeq (sIf (bV (eNw (hEq true) (aCons (eNw (hLen K) (aCons (eVar 1) aNil)) (aCons (eCh (hFld A.c_Shelf "many") (aCons (eVar 0) aNil)) aNil)))) (sRaise "BadCounts" (aCons (eNw hRepr (aCons (eVar 1) aNil)) aNil)) sPass)
  (sForL (eVar 1) (asgD 2)
  (Z289 K A)))
noncomputable def Z138 (K : PySem.W.Frag) (A : Adr) : Fn := runDef 3 [false, false] (Z11 K A)
set_option maxHeartbeats 0 in
theorem Z361 (T : Txt K mg A) : MetX P w K mg base A.c_Shelf "check_counts" 1 ["self", "counts"] (spR (adr A) [false, false] (Z138 K A)) :=
 okM (k := 0) (N := ["self", "counts", "many_new"]) (ms := [false, false]) (body := Z11 K A) T.a_Shelf_check_counts Z538 rfl (by decide) fun f cdv A' outer s H E R hr hx hE ha => by
  have hu := hu_of hr
  refine Z511 ?_ ?_
  ·refine rs_if ?_ ?_ ?_
   ·refine Z515 on_ne ?_ ?_ (nomark _)
    ·refine rc_b Z42 (by rfl) T.b_len boot_len ?_
     ·refine Z458 ?_ ?_
      ·exact (Z481 (pv 1) (j := 1) rfl)
      ·exact Z459
    ·refine Z471 T.cl_Shelf T.n_Shelf_many ?_
     ·exact (Z481 (pv 0) (j := 0) rfl)
   ·refine Z514 ?_
    ·refine Z507 hE (by rw [ha]; rfl) T.x_BadCounts ?_
     ·refine Z458 ?_ ?_
      ·refine Z474 ?_
       ·refine Z473 hr.gd hr.units ?_
        ·exact (Z481 (pv 1) (j := 1) rfl)
      ·exact Z459
   ·exact Z513
  ·refine Z514 ?_
   ·refine Z503 Z395 rfl ?_ ?_ ?_
    ·exact (Z481 (pv 1) (j := 1) rfl)
    ·exact (Z486 (i := 2) Z337 rfl (Or.inl rfl) rfl (by decide))
    ·refine Z512 (js := [2]) (by decide) ?_
     ·refine Z514 ?_
      ·refine rs_if ?_ ?_ ?_
       ·refine PW.pt ?_
        ·refine rw_or ?_ ?_
         ·refine Z515 on_lt ?_ ?_ (nomark _)
          ·exact (Z481 (pv 2) (j := 2) rfl)
          ·exact (re_C Z411)
         ·refine Z520 ?_
          ·refine Z515 on_gt ?_ ?_ (nomark _)
           ·exact (Z481 (pv 2) (j := 2) rfl)
           ·exact (re_C (Z419 T.g_NEW_MOST))
       ·refine Z514 ?_
        ·refine Z507 hE (by rw [ha]; rfl) T.x_BadCounts ?_
         ·refine Z458 ?_ ?_
          ·refine Z474 ?_
           ·refine Z473 hr.gd hr.units ?_
            ·exact (Z481 (pv 1) (j := 1) rfl)
          ·exact Z459
       ·exact Z513
theorem Z543 : FnScope ["self", "week", "kind", "many_new", "first", "fresh", "number"] ["self", "week", "kind", "many_new"] (defScope Z527) := ⟨rfl, rfl, rfl, by decide +kernel, rfl, by decide +kernel, by decide +kernel⟩
theorem Z342 : (["self", "week", "kind", "many_new", "first", "fresh", "number"] : List Str).Nodup := Z543.nd
noncomputable def Z291 (K : PySem.W.Frag) (A : Adr) : SF :=
  (sKill [6] (sE (eMu 0 hApp (aCons (eGuard isLst (eCh (hFld A.c_Shelf "made") (aCons (eVar 0) aNil))) (aCons (eDisp .tup (aCons (eVar 2) (aCons (eVar 1) aNil))) aNil)))))
noncomputable def Z574 (K : PySem.W.Frag) (A : Adr) : SF :=
  (sSeq (sGraft 5 (aCons (eCh (hFld A.c_Shelf "numbers") (aCons (eVar 0) aNil)) (aCons (eDisp .tup (aCons (eVar 1) (aCons (eVar 2) aNil))) aNil)))
  (sRet (eVar 5)))
noncomputable def Z573 (K : PySem.W.Frag) (A : Adr) : SF :=
  (sSeq (sAsg (eNw hRng (aCons (eVar 4) (aCons (eNw hAddI (aCons (eVar 4) (aCons (eVar 3) aNil))) aNil))) (asgD 5))
  (sSeq (sForL (eVar 5) (asgD 6)
  (Z291 K A))
  (Z574 K A)))
noncomputable def Z16 (K : PySem.W.Frag) (A : Adr) : SF :=
  (sSeq (sAsg (eNw hAddI (aCons (eNw (hLen K) (aCons (eCh (hFld A.c_Shelf "made") (aCons (eVar 0) aNil)) aNil)) (aCons (eC (.int (1))) aNil))) (asgD 4))
  (Z573 K A))
noncomputable def Z143 (K : PySem.W.Frag) (A : Adr) : Fn := runDef 7 [true, false, false, false] (Z16 K A)
set_option maxHeartbeats 0 in
theorem Z366 (T : Txt K mg A) : MetX P w K mg base A.c_Shelf "make" 1 ["self", "week", "kind", "many_new"] (spR (adr A) [true, false, false, false] (Z143 K A)) :=
 okM (k := 0) (N := ["self", "week", "kind", "many_new", "first", "fresh", "number"]) (ms := [true, false, false, false]) (body := Z16 K A) T.a_Shelf_make Z543 rfl (by decide) fun f cdv A' outer s H E R hr hx hE ha => by
  have hu := hu_of hr
  refine Z511 ?_ ?_
  ·refine Z499 ?_ ?_
   ·refine re_op Z375 ?_ ?_
    ·refine rc_b Z42 (by rfl) T.b_len boot_len ?_
     ·refine Z458 ?_ ?_
      ·refine Z471 T.cl_Shelf T.n_Shelf_made ?_
       ·exact (Z481 (pv 0) (j := 0) rfl)
      ·exact Z459
    ·exact (re_C Z411)
   ·exact (Z486 (i := 4) Z342 rfl (Or.inl rfl) rfl (by decide))
  ·refine Z511 ?_ ?_
   ·refine Z499 ?_ ?_
    ·refine Z477 rfl rfl T.b_list rfl T.b_range ?_ ?_
     ·exact (Z481 (pv 4) (j := 4) rfl)
     ·refine re_op Z375 ?_ ?_
      ·exact (Z481 (pv 4) (j := 4) rfl)
      ·exact (Z481 (pv 3) (j := 3) rfl)
    ·exact (Z486 (i := 5) Z342 rfl (Or.inl rfl) rfl (by decide))
   ·refine Z511 ?_ ?_
    ·refine Z503 Z395 rfl ?_ ?_ ?_
     ·exact (Z481 (pv 5) (j := 5) rfl)
     ·exact (Z486 (i := 6) Z342 rfl (Or.inl rfl) rfl (by decide))
     ·refine Z512 (js := [6]) (by decide) ?_
      ·refine Z514 ?_
       ·refine rs_e ?_
        ·refine Z465 ?_ ?_
         ·refine Z471 T.cl_Shelf T.n_Shelf_made ?_
          ·exact (Z481 (pv 0) (j := 0) rfl)
         ·refine Z480 ?_
          ·refine Z458 ?_ ?_
           ·exact (Z481 (pv 2) (j := 2) rfl)
           ·refine Z458 ?_ ?_
            ·exact (Z481 (pv 1) (j := 1) rfl)
            ·exact Z459
    ·refine Z511 ?_ ?_
     ·refine Z506 hu ?_ ?_ (pv 5) (j := 5) rfl (by decide)
      ·refine Z471 T.cl_Shelf T.n_Shelf_numbers ?_
       ·exact (Z481 (pv 0) (j := 0) rfl)
      ·refine Z480 ?_
       ·refine Z458 ?_ ?_
        ·exact (Z481 (pv 1) (j := 1) rfl)
        ·refine Z458 ?_ ?_
         ·exact (Z481 (pv 2) (j := 2) rfl)
         ·exact Z459
     ·refine Z514 ?_
      ·refine Z508 ?_
       ·exact (Z481 (pv 5) (j := 5) rfl)
theorem Z540 : FnScope ["self", "week", "counts", "answer", "kind", "many_new"] ["self", "week", "counts"] (defScope Z524) := ⟨rfl, rfl, rfl, by decide +kernel, rfl, by decide +kernel, by decide +kernel⟩
theorem Z339 : (["self", "week", "counts", "answer", "kind", "many_new"] : List Str).Nodup := Z540.nd
noncomputable def Z290 (K : PySem.W.Frag) (A : Adr) : SF :=
  (sKill [4, 5] (sE (eExt (aCons (eGuard isLst (eVar 3)) (aCons (eCall [true, false, false, false] (Z143 K A) (aCons (eGuard (isObjD A.c_Shelf "make") (eVar 0)) (aCons (eVar 1) (aCons (eVar 4) (aCons (eVar 5) aNil))))) aNil)))))
noncomputable def Z13 (K : PySem.W.Frag) (A : Adr) : SF :=
  (sSeq (sE (eCall [false, false] (Z138 K A) (aCons (eGuard (isObjD A.c_Shelf "check_counts") (eVar 0)) (aCons (eVar 2) aNil))))
  (sSeq (sAsg (eDisp (.lst true) aNil) (asgD 3))
  (sSeq (sForE (eVar 2) (tgT (tgC (asgD 4) (tgC (asgD 5) tgN)))
  (Z290 K A))
  (sRet (eVar 3)))))
noncomputable def Z140 (K : PySem.W.Frag) (A : Adr) : Fn := runDef 6 [true, false, false] (Z13 K A)
set_option maxHeartbeats 0 in
theorem Z363 (T : Txt K mg A) : MetX P w K mg base A.c_Shelf "fill" 2 ["self", "week", "counts"] (spR (adr A) [true, false, false] (Z140 K A)) :=
 okM (k := 1) (N := ["self", "week", "counts", "answer", "kind", "many_new"]) (ms := [true, false, false]) (body := Z13 K A) T.a_Shelf_fill Z540 rfl (by decide) fun f cdv A' outer s H E R hr hx hE ha => by
  have hu := hu_of hr
  refine Z511 ?_ ?_
  ·refine rs_e ?_
   ·refine Z461 (ms := [false, false]) (by rw [ha]; exact (Z361 T)) T.cl_Shelf (hr.mono (by omega)) hx ?_ ?_ (Z1 (Z1 Z2))
    ·exact (Z481 (pv 0) (j := 0) rfl)
    ·refine Z458 ?_ ?_
     ·exact (Z481 (pv 2) (j := 2) rfl)
     ·exact Z459
  ·refine Z511 ?_ ?_
   ·refine Z499 ?_ ?_
    ·refine Z475 ?_
     ·exact Z459
    ·exact (Z486 (i := 3) Z339 rfl (Or.inl rfl) rfl (by decide))
   ·refine Z511 ?_ ?_
    ·refine Z502 Z395 rfl rfl T.b_enumerate ?_ ?_ ?_
     ·exact (Z481 (pv 2) (j := 2) rfl)
     ·refine Z488 rfl ?_ (Z582 (Z582 Z583))
      ·refine Z489 ?_ ?_
       ·exact (Z486 (i := 4) Z339 rfl (Or.inl rfl) rfl (by decide))
       ·refine Z489 ?_ ?_
        ·exact (Z486 (i := 5) Z339 rfl (Or.inl rfl) rfl (by decide))
        ·exact Z490
     ·refine Z512 (js := [4, 5]) (by decide) ?_
      ·refine Z514 ?_
       ·refine rs_e ?_
        ·refine Z470 ?_ ?_
         ·exact (Z481 (pv 3) (j := 3) rfl)
         ·refine Z461 (ms := [true, false, false, false]) (by rw [ha]; exact (Z366 T)) T.cl_Shelf (hr.mono (by omega)) hx ?_ ?_ (Z1 (Z1 (Z1 (Z1 Z2))))
          ·exact (Z481 (pv 0) (j := 0) rfl)
          ·refine Z458 ?_ ?_
           ·exact (Z481 (pv 1) (j := 1) rfl)
           ·refine Z458 ?_ ?_
            ·exact (Z481 (pv 4) (j := 4) rfl)
            ·refine Z458 ?_ ?_
             ·exact (Z481 (pv 5) (j := 5) rfl)
             ·exact Z459
    ·refine Z514 ?_
     ·refine Z508 ?_
      ·exact (Z481 (pv 3) (j := 3) rfl)
theorem Z547 : FnScope ["_law_shelf", "_law_week", "_law_counts", "_law_handed", "_law_word", "_law_found"] ["_law_shelf", "_law_week", "_law_counts"] (defScope Z531) := ⟨rfl, rfl, rfl, by decide +kernel, rfl, by decide +kernel, by decide +kernel⟩
theorem Z346 : (["_law_shelf", "_law_week", "_law_counts", "_law_handed", "_law_word", "_law_found"] : List Str).Nodup := Z547.nd
noncomputable def Z577 (K : PySem.W.Frag) (A : Adr) : SF :=
  (sSeq (sIf (bNot (bV (eCall [false, false] (Z150 A) (aCons (eVar 3) (aCons (eVar 2) aNil))))) (sRet (eDisp .tup (aCons (eC (.str "changed")) (aCons (eC (.str "what was handed in")) aNil)))) sPass)
  (sSeq (sE (eMu 0 hApp (aCons (eGuard isLst (eVar 3)) (aCons (eC (.int (3))) aNil))))
  (sSeq (sIf (bV (eNw (hEq true) (aCons (eVar 4) (aCons (eC (.str "")) aNil)))) (sRet (eDisp .tup (aCons (eC (.str "refused")) (aCons (eVar 4) aNil)))) sPass)
  (sRet (eVar 5)))))
noncomputable def Z20 (K : PySem.W.Frag) (A : Adr) : SF :=
  (sSeq (sAsg (eNw hList (aCons (eVar 2) aNil)) (asgD 3))
  (sSeq (sAsg (eC (.str "")) (asgD 4))
  (sSeq (sAsg (eDisp (.lst true) aNil) (asgD 5))
  (sSeq (sTry exmT (sAsg (eCall [true, false, false] (Z140 K A) (aCons (eGuard (isObjD A.c_Shelf "fill") (eVar 0)) (aCons (eVar 1) (aCons (eVar 3) aNil)))) (asgD 5)) [("BadCounts", (sAsg (eC (.str "bad counts")) (asgD 4)))])
  (Z577 K A)))))
noncomputable def Z147 (K : PySem.W.Frag) (A : Adr) : Fn := runDef 6 [true, false, false] (Z20 K A)
set_option maxHeartbeats 0 in
theorem Z370 (T : Txt K mg A) : DefX P w K mg base "_law_filled" 5 ["_law_shelf", "_law_week", "_law_counts"] (spR (adr A) [true, false, false] (Z147 K A)) :=
 okD (k := 4) (N := ["_law_shelf", "_law_week", "_law_counts", "_law_handed", "_law_word", "_law_found"]) (ms := [true, false, false]) (body := Z20 K A) T.a__law_filled Z547 rfl (by decide) fun f cdv A' outer s H E R hr hx hE ha => by
  have hu := hu_of hr
  refine Z511 ?_ ?_
  ·refine Z499 ?_ ?_
   ·refine rc_ty Z43 (by rfl) T.b_list boot_list ?_
    ·refine Z458 ?_ ?_
     ·exact (Z481 (pv 2) (j := 2) rfl)
     ·exact Z459
   ·exact (Z486 (i := 3) Z346 rfl (Or.inl rfl) rfl (by decide))
  ·refine Z511 ?_ ?_
   ·refine Z499 ?_ ?_
    ·exact (re_C Z418)
    ·exact (Z486 (i := 4) Z346 rfl (Or.inl rfl) rfl (by decide))
   ·refine Z511 ?_ ?_
    ·refine Z499 ?_ ?_
     ·refine Z475 ?_
      ·exact Z459
     ·exact (Z486 (i := 5) Z346 rfl (Or.inl rfl) rfl (by decide))
    ·refine Z511 ?_ ?_
     ·refine Z510 (exm := exmT) (by intro C x b h; rw [ha]; exact Z135 T C x b h) rfl rfl (fun pn xe EX hx => ?_) ?_
      ·refine Z514 ?_
       ·refine Z499 ?_ ?_
        ·refine Z461 (ms := [true, false, false]) (by dsimp only; rw [ha]; exact (Z363 T)) T.cl_Shelf (hr.mono (by omega)) hx ?_ ?_ (Z1 (Z1 (Z1 Z2)))
         ·exact (Z481 (pv 0) (j := 0) rfl)
         ·refine Z458 ?_ ?_
          ·exact (Z481 (pv 1) (j := 1) rfl)
          ·refine Z458 ?_ ?_
           ·exact (Z481 (pv 3) (j := 3) rfl)
           ·exact Z459
        ·exact (Z486 (i := 5) Z346 rfl (Or.inl rfl) rfl (by decide))
      ·refine Z491 (by rw [ha]; exact T.x_BadCounts.1) (fun ea => ?_) ?_
       ·refine Z514 ?_
        ·refine Z499 ?_ ?_
         ·exact (re_C Z418)
         ·exact (Z486 (i := 4) Z346 rfl (Or.inl rfl) rfl (by decide))
       ·exact Z492
     ·refine Z511 ?_ ?_
      ·refine rs_if ?_ ?_ ?_
       ·refine Z516 ?_
        ·refine rt_v ?_
         ·refine rc_fn (ms := [false, false]) (by rw [ha]; exact (Z373 T)) (hr.mono (by omega)) hx ?_ (Z1 (Z1 Z2))
          ·refine Z458 ?_ ?_
           ·exact (Z481 (pv 3) (j := 3) rfl)
           ·refine Z458 ?_ ?_
            ·exact (Z481 (pv 2) (j := 2) rfl)
            ·exact Z459
       ·refine Z514 ?_
        ·refine Z508 ?_
         ·refine Z480 ?_
          ·refine Z458 ?_ ?_
           ·exact (re_C Z418)
           ·refine Z458 ?_ ?_
            ·exact (re_C Z418)
            ·exact Z459
       ·exact Z513
      ·refine Z511 ?_ ?_
       ·refine rs_e ?_
        ·refine Z465 ?_ ?_
         ·exact (Z481 (pv 3) (j := 3) rfl)
         ·exact (re_C Z411)
       ·refine Z511 ?_ ?_
        ·refine rs_if ?_ ?_ ?_
         ·refine Z515 on_ne ?_ ?_ (nomark _)
          ·exact (Z481 (pv 4) (j := 4) rfl)
          ·exact (re_C Z418)
         ·refine Z514 ?_
          ·refine Z508 ?_
           ·refine Z480 ?_
            ·refine Z458 ?_ ?_
             ·exact (re_C Z418)
             ·refine Z458 ?_ ?_
              ·exact (Z481 (pv 4) (j := 4) rfl)
              ·exact Z459
         ·exact Z513
        ·refine Z514 ?_
         ·refine Z508 ?_
          ·exact (Z481 (pv 5) (j := 5) rfl)
theorem Z539 : FnScope ["self", "number"] ["self", "number"] (defScope Z523) := ⟨rfl, rfl, rfl, by decide +kernel, rfl, by decide +kernel, by decide +kernel⟩
theorem Z338 : (["self", "number"] : List Str).Nodup := Z539.nd
noncomputable def Z12 (K : PySem.W.Frag) (A : Adr) : SF :=
  (sIf (bOr (bV (eNw hLt (aCons (eVar 1) (aCons (eC (.int (1))) aNil)))) (bV (eNw hGt (aCons (eVar 1) (aCons (eNw (hLen K) (aCons (eCh (hFld A.c_Shelf "made") (aCons (eVar 0) aNil)) aNil)) aNil))))) (sRaise "UnknownFolder" (aCons (eNw hFmt (aCons (eVar 1) aNil)) aNil)) sPass)
noncomputable def Z139 (K : PySem.W.Frag) (A : Adr) : Fn := runDef 2 [false, false] (Z12 K A)
set_option maxHeartbeats 0 in
theorem Z362 (T : Txt K mg A) : MetX P w K mg base A.c_Shelf "check_number" 1 ["self", "number"] (spR (adr A) [false, false] (Z139 K A)) :=
 okM (k := 0) (N := ["self", "number"]) (ms := [false, false]) (body := Z12 K A) T.a_Shelf_check_number Z539 rfl (by decide) fun f cdv A' outer s H E R hr hx hE ha => by
  have hu := hu_of hr
  refine Z514 ?_
  ·refine rs_if ?_ ?_ ?_
   ·refine PW.pt ?_
    ·refine rw_or ?_ ?_
     ·refine Z515 on_lt ?_ ?_ (nomark _)
      ·exact (Z481 (pv 1) (j := 1) rfl)
      ·exact (re_C Z411)
     ·refine Z520 ?_
      ·refine Z515 on_gt ?_ ?_ (nomark _)
       ·exact (Z481 (pv 1) (j := 1) rfl)
       ·refine rc_b Z42 (by rfl) T.b_len boot_len ?_
        ·refine Z458 ?_ ?_
         ·refine Z471 T.cl_Shelf T.n_Shelf_made ?_
          ·exact (Z481 (pv 0) (j := 0) rfl)
         ·exact Z459
   ·refine Z514 ?_
    ·refine Z507 hE (by rw [ha]; rfl) T.x_UnknownFolder ?_
     ·refine Z458 ?_ ?_
      ·refine Z474 ?_
       ·refine Z472 ?_
        ·exact (Z481 (pv 1) (j := 1) rfl)
      ·exact Z459
   ·exact Z513
theorem Z541 : FnScope ["self", "number", "made"] ["self", "number"] (defScope Z525) := ⟨rfl, rfl, rfl, by decide +kernel, rfl, by decide +kernel, by decide +kernel⟩
theorem Z340 : (["self", "number", "made"] : List Str).Nodup := Z541.nd
noncomputable def Z14 (K : PySem.W.Frag) (A : Adr) : SF :=
  (sSeq (sE (eCall [false, false] (Z139 K A) (aCons (eGuard (isObjD A.c_Shelf "check_number") (eVar 0)) (aCons (eVar 1) aNil))))
  (sSeq (sAsg (eCh (hIx K) (aCons (eCh (hFld A.c_Shelf "made") (aCons (eVar 0) aNil)) (aCons (eNw hSub (aCons (eVar 1) (aCons (eC (.int (1))) aNil))) aNil))) (asgD 2))
  (sRet (eDisp .tup (aCons (eCh (hIx K) (aCons (eVar 2) (aCons (eC (.int (0))) aNil))) (aCons (eCh (hIx K) (aCons (eVar 2) (aCons (eC (.int (1))) aNil))) (aCons (eNw (hDIn false) (aCons (eVar 1) (aCons (eCh (hFld A.c_Shelf "gone") (aCons (eVar 0) aNil)) aNil))) aNil)))))))
noncomputable def Z141 (K : PySem.W.Frag) (A : Adr) : Fn := runDef 3 [false, false] (Z14 K A)
set_option maxHeartbeats 0 in
theorem Z364 (T : Txt K mg A) : MetX P w K mg base A.c_Shelf "folder" 2 ["self", "number"] (spR (adr A) [false, false] (Z141 K A)) :=
 okM (k := 1) (N := ["self", "number", "made"]) (ms := [false, false]) (body := Z14 K A) T.a_Shelf_folder Z541 rfl (by decide) fun f cdv A' outer s H E R hr hx hE ha => by
  have hu := hu_of hr
  refine Z511 ?_ ?_
  ·refine rs_e ?_
   ·refine Z461 (ms := [false, false]) (by rw [ha]; exact (Z362 T)) T.cl_Shelf (hr.mono (by omega)) hx ?_ ?_ (Z1 (Z1 Z2))
    ·exact (Z481 (pv 0) (j := 0) rfl)
    ·refine Z458 ?_ ?_
     ·exact (Z481 (pv 1) (j := 1) rfl)
     ·exact Z459
  ·refine Z511 ?_ ?_
   ·refine Z499 ?_ ?_
    ·refine re_ix ?_ ?_ (fun _ _ => rfl)
     ·refine Z471 T.cl_Shelf T.n_Shelf_made ?_
      ·exact (Z481 (pv 0) (j := 0) rfl)
     ·refine re_op Z381 ?_ ?_
      ·exact (Z481 (pv 1) (j := 1) rfl)
      ·exact (re_C Z411)
    ·exact (Z486 (i := 2) Z340 rfl (Or.inl rfl) rfl (by decide))
   ·refine Z514 ?_
    ·refine Z508 ?_
     ·refine Z480 ?_
      ·refine Z458 ?_ ?_
       ·refine re_ix ?_ ?_ (fun _ _ => rfl)
        ·exact (Z481 (pv 2) (j := 2) rfl)
        ·exact (re_C Z411)
       ·refine Z458 ?_ ?_
        ·refine re_ix ?_ ?_ (fun _ _ => rfl)
         ·exact (Z481 (pv 2) (j := 2) rfl)
         ·exact (re_C Z411)
        ·refine Z458 ?_ ?_
         ·refine Z401 ?_
          ·refine Z498 hu ?_ ?_
           ·exact (Z481 (pv 1) (j := 1) rfl)
           ·refine Z471 T.cl_Shelf T.n_Shelf_gone ?_
            ·exact (Z481 (pv 0) (j := 0) rfl)
         ·exact Z459
theorem Z542 : FnScope ["self", "number"] ["self", "number"] (defScope Z526) := ⟨rfl, rfl, rfl, by decide +kernel, rfl, by decide +kernel, by decide +kernel⟩
theorem Z341 : (["self", "number"] : List Str).Nodup := Z542.nd
noncomputable def Z15 (K : PySem.W.Frag) (A : Adr) : SF :=
  (sSeq (sE (eCall [false, false] (Z139 K A) (aCons (eGuard (isObjD A.c_Shelf "check_number") (eVar 0)) (aCons (eVar 1) aNil))))
  (sE (eMu 1 hPutD (aCons (eC (.bl true)) (aCons (eCh (hFld A.c_Shelf "gone") (aCons (eVar 0) aNil)) (aCons (eVar 1) aNil))))))
noncomputable def Z142 (K : PySem.W.Frag) (A : Adr) : Fn := runDef 2 [true, false] (Z15 K A)
set_option maxHeartbeats 0 in
theorem Z365 (T : Txt K mg A) : MetX P w K mg base A.c_Shelf "lose" 2 ["self", "number"] (spR (adr A) [true, false] (Z142 K A)) :=
 okM (k := 1) (N := ["self", "number"]) (ms := [true, false]) (body := Z15 K A) T.a_Shelf_lose Z542 rfl (by decide) fun f cdv A' outer s H E R hr hx hE ha => by
  have hu := hu_of hr
  refine Z511 ?_ ?_
  ·refine rs_e ?_
   ·refine Z461 (ms := [false, false]) (by rw [ha]; exact (Z362 T)) T.cl_Shelf (hr.mono (by omega)) hx ?_ ?_ (Z1 (Z1 Z2))
    ·exact (Z481 (pv 0) (j := 0) rfl)
    ·refine Z458 ?_ ?_
     ·exact (Z481 (pv 1) (j := 1) rfl)
     ·exact Z459
  ·refine Z514 ?_
   ·refine Z500 hu ?_ ?_ ?_
    ·refine Z471 T.cl_Shelf T.n_Shelf_gone ?_
     ·exact (Z481 (pv 0) (j := 0) rfl)
    ·exact (Z481 (pv 1) (j := 1) rfl)
    ·exact (re_C pe_bl)
theorem Z549 : FnScope ["_law_shelf", "_law_number", "_law_marks"] ["_law_shelf", "_law_number"] (defScope Z533) := ⟨rfl, rfl, rfl, by decide +kernel, rfl, by decide +kernel, by decide +kernel⟩
theorem Z348 : (["_law_shelf", "_law_number", "_law_marks"] : List Str).Nodup := Z549.nd
noncomputable def Z22 (K : PySem.W.Frag) (A : Adr) : SF :=
  (sSeq (sAsg (eC (.int (0))) (asgD 2))
  (sSeq (sTry exmT (sE (eCall [false, false] (Z141 K A) (aCons (eGuard (isObjD A.c_Shelf "folder") (eVar 0)) (aCons (eVar 1) aNil)))) [("UnknownFolder", (sAsg (eNw hAddI (aCons (eVar 2) (aCons (eC (.int (1))) aNil))) (asgD 2)))])
  (sSeq (sTry exmT (sE (eCall [true, false] (Z142 K A) (aCons (eGuard (isObjD A.c_Shelf "lose") (eVar 0)) (aCons (eVar 1) aNil)))) [("UnknownFolder", (sAsg (eNw hAddI (aCons (eVar 2) (aCons (eC (.int (1))) aNil))) (asgD 2)))])
  (sRet (eNw (hEq false) (aCons (eVar 2) (aCons (eC (.int (2))) aNil)))))))
noncomputable def Z149 (K : PySem.W.Frag) (A : Adr) : Fn := runDef 3 [true, false] (Z22 K A)
set_option maxHeartbeats 0 in
theorem Z372 (T : Txt K mg A) : DefX P w K mg base "_law_missing" 3 ["_law_shelf", "_law_number"] (spR (adr A) [true, false] (Z149 K A)) :=
 okD (k := 2) (N := ["_law_shelf", "_law_number", "_law_marks"]) (ms := [true, false]) (body := Z22 K A) T.a__law_missing Z549 rfl (by decide) fun f cdv A' outer s H E R hr hx hE ha => by
  have hu := hu_of hr
  refine Z511 ?_ ?_
  ·refine Z499 ?_ ?_
   ·exact (re_C Z411)
   ·exact (Z486 (i := 2) Z348 rfl (Or.inl rfl) rfl (by decide))
  ·refine Z511 ?_ ?_
   ·refine Z510 (exm := exmT) (by intro C x b h; rw [ha]; exact Z135 T C x b h) rfl rfl (fun pn xe EX hx => ?_) ?_
    ·refine Z514 ?_
     ·refine rs_e ?_
      ·refine Z461 (ms := [false, false]) (by dsimp only; rw [ha]; exact (Z364 T)) T.cl_Shelf (hr.mono (by omega)) hx ?_ ?_ (Z1 (Z1 Z2))
       ·exact (Z481 (pv 0) (j := 0) rfl)
       ·refine Z458 ?_ ?_
        ·exact (Z481 (pv 1) (j := 1) rfl)
        ·exact Z459
    ·refine Z491 (by rw [ha]; exact T.x_UnknownFolder.1) (fun ea => ?_) ?_
     ·refine Z514 ?_
      ·refine Z499 ?_ ?_
       ·refine re_op Z375 ?_ ?_
        ·exact (Z481 (pv 2) (j := 2) rfl)
        ·exact (re_C Z411)
       ·exact (Z486 (i := 2) Z348 rfl (Or.inl rfl) rfl (by decide))
     ·exact Z492
   ·refine Z511 ?_ ?_
    ·refine Z510 (exm := exmT) (by intro C x b h; rw [ha]; exact Z135 T C x b h) rfl rfl (fun pn xe EX hx => ?_) ?_
     ·refine Z514 ?_
      ·refine rs_e ?_
       ·refine Z461 (ms := [true, false]) (by dsimp only; rw [ha]; exact (Z365 T)) T.cl_Shelf (hr.mono (by omega)) hx ?_ ?_ (Z1 (Z1 Z2))
        ·exact (Z481 (pv 0) (j := 0) rfl)
        ·refine Z458 ?_ ?_
         ·exact (Z481 (pv 1) (j := 1) rfl)
         ·exact Z459
     ·refine Z491 (by rw [ha]; exact T.x_UnknownFolder.1) (fun ea => ?_) ?_
      ·refine Z514 ?_
       ·refine Z499 ?_ ?_
        ·refine re_op Z375 ?_ ?_
         ·exact (Z481 (pv 2) (j := 2) rfl)
         ·exact (re_C Z411)
        ·exact (Z486 (i := 2) Z348 rfl (Or.inl rfl) rfl (by decide))
      ·exact Z492
    ·refine Z514 ?_
     ·refine Z508 ?_
      ·refine Z466 on_eq ?_ ?_ (nomark _)
       ·exact (Z481 (pv 2) (j := 2) rfl)
       ·exact (re_C Z411)
theorem Z548 : FnScope ["_law_shelf", "_law_rows", "_law_number", "_law_k"] ["_law_shelf", "_law_rows"] (defScope Z532) := ⟨rfl, rfl, rfl, by decide +kernel, rfl, by decide +kernel, by decide +kernel⟩
theorem Z347 : (["_law_shelf", "_law_rows", "_law_number", "_law_k"] : List Str).Nodup := Z548.nd
noncomputable def Z293 (K : PySem.W.Frag) (A : Adr) : SF :=
  (sKill [2] (sIf (bNot (bV (eCall [true, false] (Z149 K A) (aCons (eVar 0) (aCons (eVar 2) aNil))))) (sRet (eC (.bl false))) sPass))
noncomputable def Z294 (K : PySem.W.Frag) (A : Adr) : SF :=
  (sKill [3] (sIf (bNot (bV (eCall [false, false] (Z150 A) (aCons (eCall [false, false] (Z141 K A) (aCons (eGuard (isObjD A.c_Shelf "folder") (eVar 0)) (aCons (eNw hAddI (aCons (eVar 3) (aCons (eC (.int (1))) aNil))) aNil))) (aCons (eCh (hIx K) (aCons (eVar 1) (aCons (eVar 3) aNil))) aNil))))) (sRet (eC (.bl false))) sPass))
noncomputable def Z21 (K : PySem.W.Frag) (A : Adr) : SF :=
  (sSeq (sForL (eDisp (.lst true) (aCons (eC (.int (0))) (aCons (eNw hNeg (aCons (eC (.int (1))) aNil)) (aCons (eNw hAddI (aCons (eNw (hLen K) (aCons (eVar 1) aNil)) (aCons (eC (.int (1))) aNil))) (aCons (eNw hAddI (aCons (eNw (hLen K) (aCons (eVar 1) aNil)) (aCons (eC (.int (1000000))) aNil))) aNil))))) (asgD 2)
  (Z293 K A))
  (sSeq (sForR (aCons (eNw (hLen K) (aCons (eVar 1) aNil)) aNil) (asgD 3)
  (Z294 K A))
  (sRet (eC (.bl true)))))
noncomputable def Z148 (K : PySem.W.Frag) (A : Adr) : Fn := runDef 4 [true, false] (Z21 K A)
set_option maxHeartbeats 0 in
theorem Z371 (T : Txt K mg A) : DefX P w K mg base "_law_kept" 5 ["_law_shelf", "_law_rows"] (spR (adr A) [true, false] (Z148 K A)) :=
 okD (k := 4) (N := ["_law_shelf", "_law_rows", "_law_number", "_law_k"]) (ms := [true, false]) (body := Z21 K A) T.a__law_kept Z548 rfl (by decide) fun f cdv A' outer s H E R hr hx hE ha => by
  have hu := hu_of hr
  refine Z511 ?_ ?_
  ·refine Z503 Z395 rfl ?_ ?_ ?_
   ·refine Z475 ?_
    ·refine Z458 ?_ ?_
     ·exact (re_C Z411)
     ·refine Z458 ?_ ?_
      ·refine Z476 ?_
       ·exact (re_C Z411)
      ·refine Z458 ?_ ?_
       ·refine re_op Z375 ?_ ?_
        ·refine rc_b Z42 (by rfl) T.b_len boot_len ?_
         ·refine Z458 ?_ ?_
          ·exact (Z481 (pv 1) (j := 1) rfl)
          ·exact Z459
        ·exact (re_C Z411)
       ·refine Z458 ?_ ?_
        ·refine re_op Z375 ?_ ?_
         ·refine rc_b Z42 (by rfl) T.b_len boot_len ?_
          ·refine Z458 ?_ ?_
           ·exact (Z481 (pv 1) (j := 1) rfl)
           ·exact Z459
         ·exact (re_C Z411)
        ·exact Z459
   ·exact (Z486 (i := 2) Z347 rfl (Or.inl rfl) rfl (by decide))
   ·refine Z512 (js := [2]) (by decide) ?_
    ·refine Z514 ?_
     ·refine rs_if ?_ ?_ ?_
      ·refine Z516 ?_
       ·refine rt_v ?_
        ·refine rc_fn (ms := [true, false]) (by rw [ha]; exact (Z372 T)) (hr.mono (by omega)) hx ?_ (Z1 (Z1 Z2))
         ·refine Z458 ?_ ?_
          ·exact (Z481 (pv 0) (j := 0) rfl)
          ·refine Z458 ?_ ?_
           ·exact (Z481 (pv 2) (j := 2) rfl)
           ·exact Z459
      ·refine Z514 ?_
       ·refine Z508 ?_
        ·exact (re_C pe_bl)
      ·exact Z513
  ·refine Z511 ?_ ?_
   ·refine Z504 Z395 rfl rfl T.b_range ?_ ?_ ?_
    ·refine rc_b Z42 (by rfl) T.b_len boot_len ?_
     ·refine Z458 ?_ ?_
      ·exact (Z481 (pv 1) (j := 1) rfl)
      ·exact Z459
    ·exact (Z486 (i := 3) Z347 rfl (Or.inl rfl) rfl (by decide))
    ·refine Z512 (js := [3]) (by decide) ?_
     ·refine Z514 ?_
      ·refine rs_if ?_ ?_ ?_
       ·refine Z516 ?_
        ·refine rt_v ?_
         ·refine rc_fn (ms := [false, false]) (by rw [ha]; exact (Z373 T)) (hr.mono (by omega)) hx ?_ (Z1 (Z1 Z2))
          ·refine Z458 ?_ ?_
           ·refine Z461 (ms := [false, false]) (by rw [ha]; exact (Z364 T)) T.cl_Shelf (hr.mono (by omega)) hx ?_ ?_ (Z1 (Z1 Z2))
            ·exact (Z481 (pv 0) (j := 0) rfl)
            ·refine Z458 ?_ ?_
             ·refine re_op Z375 ?_ ?_
              ·exact (Z481 (pv 3) (j := 3) rfl)
              ·exact (re_C Z411)
             ·exact Z459
           ·refine Z458 ?_ ?_
            ·refine re_ix ?_ ?_ (fun _ _ => rfl)
             ·exact (Z481 (pv 1) (j := 1) rfl)
             ·exact (Z481 (pv 3) (j := 3) rfl)
            ·exact Z459
       ·refine Z514 ?_
        ·refine Z508 ?_
         ·exact (re_C pe_bl)
       ·exact Z513
   ·refine Z514 ?_
    ·refine Z508 ?_
     ·exact (re_C pe_bl)
theorem Z551 : FnScope ["_law_script", "_law_many", "_law_shelves", "_law_made", "_law_week", "_law_k", "_law_figs", "_law_which", "_law_counts", "_law_due", "_law_kind", "_law_turn"] ["_law_script"] (defScope s_law) := ⟨rfl, rfl, rfl, by decide +kernel, rfl, by decide +kernel, by decide +kernel⟩
theorem Z350 : (["_law_script", "_law_many", "_law_shelves", "_law_made", "_law_week", "_law_k", "_law_figs", "_law_which", "_law_counts", "_law_due", "_law_kind", "_law_turn"] : List Str).Nodup := Z551.nd
noncomputable def Z295 (K : PySem.W.Frag) (A : Adr) : SF :=
  (sKill [11] (sSeq (sE (eMu 0 hApp (aCons (eGuard isLst (eCh (hIx K) (aCons (eVar 3) (aCons (eVar 7) aNil)))) (aCons (eDisp .tup (aCons (eVar 10) (aCons (eVar 4) (aCons (eC (.bl false)) aNil)))) aNil))))
  (sE (eMu 0 hApp (aCons (eGuard isLst (eVar 9)) (aCons (eNw (hLen K) (aCons (eCh (hIx K) (aCons (eVar 3) (aCons (eVar 7) aNil))) aNil)) aNil))))))
noncomputable def Z296 (K : PySem.W.Frag) (A : Adr) : SF :=
  (sKill [10, 11] (sForR (aCons (eCh (hIx K) (aCons (eVar 8) (aCons (eVar 10) aNil))) aNil) (asgD 11)
  (Z295 K A)))
noncomputable def Z580 (K : PySem.W.Frag) (A : Adr) : SF :=
  (sIf (bNot (bV (eCall [false, false] (Z150 A) (aCons (eCall [true, false, false] (Z147 K A) (aCons (eCh (hIx K) (aCons (eVar 2) (aCons (eVar 7) aNil))) (aCons (eVar 4) (aCons (eVar 8) aNil)))) (aCons (eVar 9) aNil))))) (sRet (eC (.bl false))) sPass)
noncomputable def Z579 (K : PySem.W.Frag) (A : Adr) : SF :=
  (sSeq (sIf (bOr (bV (eNw (hEq true) (aCons (eNw (hLen K) (aCons (eVar 8) aNil)) (aCons (eCh (hIx K) (aCons (eVar 1) (aCons (eVar 7) aNil))) aNil)))) (bOr (bV (eNw hGt (aCons (eNw (hLst maxI) (aCons (eVar 8) aNil)) (aCons (eC (.int (3))) aNil)))) (bV (eNw hLt (aCons (eNw (hLst minI) (aCons (eVar 8) aNil)) (aCons (eC (.int (0))) aNil)))))) (sAsg (eDisp .tup (aCons (eC (.str "refused")) (aCons (eC (.str "bad counts")) aNil))) (asgD 9)) (sForR (aCons (eCh (hIx K) (aCons (eVar 1) (aCons (eVar 7) aNil))) aNil) (asgD 10)
  (Z296 K A)))
  (Z580 K A))
noncomputable def Z578 (K : PySem.W.Frag) (A : Adr) : SF :=
  (sSeq (sAsg (eDisp (.lst true) aNil) (asgD 9))
  (Z579 K A))
noncomputable def Z297 (K : PySem.W.Frag) (A : Adr) : SF :=
  (sKill [5, 6, 7, 8, 9, 10, 11] (sSeq (sAsg (eCall [false, false, false, false] (Z146 K A) (aCons (eVar 0) (aCons (eVar 5) (aCons (eC (.int (840))) (aCons (eC (.int (6))) aNil))))) (asgD 6))
  (sSeq (sAsg (eNw hMod (aCons (eNw hDiv (aCons (eCh (hIx K) (aCons (eVar 6) (aCons (eC (.int (4))) aNil))) (aCons (eC (.int (16))) aNil))) (aCons (eC (.int (2))) aNil))) (asgD 7))
  (sSeq (sAsg (eNw hAddI (aCons (eNw hAddI (aCons (eVar 4) (aCons (eC (.int (1))) aNil))) (aCons (eNw hMod (aCons (eNw hDiv (aCons (eCh (hIx K) (aCons (eVar 6) (aCons (eC (.int (5))) aNil))) (aCons (eC (.int (30))) aNil))) (aCons (eC (.int (3))) aNil))) aNil))) (asgD 4))
  (sSeq (sAsg (eCall [false, false] (Z145 K A) (aCons (eVar 6) (aCons (eCh (hIx K) (aCons (eVar 1) (aCons (eVar 7) aNil))) aNil))) (asgD 8))
  (Z578 K A))))))
noncomputable def b_law (K : PySem.W.Frag) (A : Adr) : SF :=
  (sSeq (sAsg (eDisp (.lst true) (aCons (eNw hAddI (aCons (eC (.int (1))) (aCons (eNw hMod (aCons (eNw hDiv (aCons (eCall [false, false] (Z144 K A) (aCons (eVar 0) (aCons (eC (.int (0))) aNil))) (aCons (eC (.int (2))) aNil))) (aCons (eC (.int (4))) aNil))) aNil))) (aCons (eNw hAddI (aCons (eC (.int (1))) (aCons (eNw hMod (aCons (eCall [false, false] (Z144 K A) (aCons (eVar 0) (aCons (eC (.int (1))) aNil))) (aCons (eC (.int (4))) aNil))) aNil))) aNil))) (asgD 1))
  (sSeq (sAsg (eDisp .tup (aCons (eMk A.c_Shelf [false] (Z137 K A) (aCons (eCh (hIx K) (aCons (eVar 1) (aCons (eC (.int (0))) aNil))) aNil)) (aCons (eMk A.c_Shelf [false] (Z137 K A) (aCons (eCh (hIx K) (aCons (eVar 1) (aCons (eC (.int (1))) aNil))) aNil)) aNil))) (asgD 2))
  (sSeq (sAsg (eDisp .tup (aCons (eDisp (.lst true) aNil) (aCons (eDisp (.lst true) aNil) aNil))) (asgD 3))
  (sSeq (sAsg (eC (.int (0))) (asgD 4))
  (sSeq (sForR (aCons (eC (.int (2))) (aCons (eNw (hLen K) (aCons (eVar 0) aNil)) aNil)) (asgD 5)
  (Z297 K A))
  (sRet (eAnd (eCall [true, false] (Z148 K A) (aCons (eCh (hIx K) (aCons (eVar 2) (aCons (eC (.int (0))) aNil))) (aCons (eCh (hIx K) (aCons (eVar 3) (aCons (eC (.int (0))) aNil))) aNil))) (eCall [true, false] (Z148 K A) (aCons (eCh (hIx K) (aCons (eVar 2) (aCons (eC (.int (1))) aNil))) (aCons (eCh (hIx K) (aCons (eVar 3) (aCons (eC (.int (1))) aNil))) aNil))))))))))
noncomputable def f_law (K : PySem.W.Frag) (A : Adr) : Fn := runDef 12 [false] (b_law K A)
set_option maxHeartbeats 0 in
theorem Z374 (T : Txt K mg A) : DefX P w K mg base "law" 6 ["_law_script"] (spR (adr A) [false] (f_law K A)) :=
 okD (k := 5) (N := ["_law_script", "_law_many", "_law_shelves", "_law_made", "_law_week", "_law_k", "_law_figs", "_law_which", "_law_counts", "_law_due", "_law_kind", "_law_turn"]) (ms := [false]) (body := b_law K A) T.a_law Z551 rfl (by decide) fun f cdv A' outer s H E R hr hx hE ha => by
  have hu := hu_of hr
  refine Z511 ?_ ?_
  ·refine Z499 ?_ ?_
   ·refine Z475 ?_
    ·refine Z458 ?_ ?_
     ·refine re_op Z375 ?_ ?_
      ·exact (re_C Z411)
      ·refine re_op Z379 ?_ ?_
       ·refine re_op Z377 ?_ ?_
        ·refine rc_fn (ms := [false, false]) (by rw [ha]; exact (Z367 T)) (hr.mono (by omega)) hx ?_ (Z1 (Z1 Z2))
         ·refine Z458 ?_ ?_
          ·exact (Z481 (pv 0) (j := 0) rfl)
          ·refine Z458 ?_ ?_
           ·exact (re_C Z411)
           ·exact Z459
        ·exact (re_C Z411)
       ·exact (re_C Z411)
     ·refine Z458 ?_ ?_
      ·refine re_op Z375 ?_ ?_
       ·exact (re_C Z411)
       ·refine re_op Z379 ?_ ?_
        ·refine rc_fn (ms := [false, false]) (by rw [ha]; exact (Z367 T)) (hr.mono (by omega)) hx ?_ (Z1 (Z1 Z2))
         ·refine Z458 ?_ ?_
          ·exact (Z481 (pv 0) (j := 0) rfl)
          ·refine Z458 ?_ ?_
           ·exact (re_C Z411)
           ·exact Z459
        ·exact (re_C Z411)
      ·exact Z459
   ·exact (Z486 (i := 1) Z350 rfl (Or.inl rfl) rfl (by decide))
  ·refine Z511 ?_ ?_
   ·refine Z499 ?_ ?_
    ·refine Z480 ?_
     ·refine Z458 ?_ ?_
      ·refine rc_mk (ms := [false]) (by rw [ha]; exact (Z360 T)) (hr.mono (by omega)) T.mc_Shelf ?_ (Z1 Z2)
       ·refine Z458 ?_ ?_
        ·refine re_ix ?_ ?_ (fun _ _ => rfl)
         ·exact (Z481 (pv 1) (j := 1) rfl)
         ·exact (re_C Z411)
        ·exact Z459
      ·refine Z458 ?_ ?_
       ·refine rc_mk (ms := [false]) (by rw [ha]; exact (Z360 T)) (hr.mono (by omega)) T.mc_Shelf ?_ (Z1 Z2)
        ·refine Z458 ?_ ?_
         ·refine re_ix ?_ ?_ (fun _ _ => rfl)
          ·exact (Z481 (pv 1) (j := 1) rfl)
          ·exact (re_C Z411)
         ·exact Z459
       ·exact Z459
    ·exact (Z486 (i := 2) Z350 rfl (Or.inl rfl) rfl (by decide))
   ·refine Z511 ?_ ?_
    ·refine Z499 ?_ ?_
     ·refine Z480 ?_
      ·refine Z458 ?_ ?_
       ·refine Z475 ?_
        ·exact Z459
       ·refine Z458 ?_ ?_
        ·refine Z475 ?_
         ·exact Z459
        ·exact Z459
     ·exact (Z486 (i := 3) Z350 rfl (Or.inl rfl) rfl (by decide))
    ·refine Z511 ?_ ?_
     ·refine Z499 ?_ ?_
      ·exact (re_C Z411)
      ·exact (Z486 (i := 4) Z350 rfl (Or.inl rfl) rfl (by decide))
     ·refine Z511 ?_ ?_
      ·refine Z505 Z395 rfl rfl T.b_range ?_ ?_ ?_ ?_
       ·exact (re_C Z411)
       ·refine rc_b Z42 (by rfl) T.b_len boot_len ?_
        ·refine Z458 ?_ ?_
         ·exact (Z481 (pv 0) (j := 0) rfl)
         ·exact Z459
       ·exact (Z486 (i := 5) Z350 rfl (Or.inl rfl) rfl (by decide))
       ·refine Z512 (js := [5, 6, 7, 8, 9, 10, 11]) (by decide) ?_
        ·refine Z511 ?_ ?_
         ·refine Z499 ?_ ?_
          ·refine rc_fn (ms := [false, false, false, false]) (by rw [ha]; exact (Z369 T)) (hr.mono (by omega)) hx ?_ (Z1 (Z1 (Z1 (Z1 Z2))))
           ·refine Z458 ?_ ?_
            ·exact (Z481 (pv 0) (j := 0) rfl)
            ·refine Z458 ?_ ?_
             ·exact (Z481 (pv 5) (j := 5) rfl)
             ·refine Z458 ?_ ?_
              ·exact (re_C Z411)
              ·refine Z458 ?_ ?_
               ·exact (re_C Z411)
               ·exact Z459
          ·exact (Z486 (i := 6) Z350 rfl (Or.inl rfl) rfl (by decide))
         ·refine Z511 ?_ ?_
          ·refine Z499 ?_ ?_
           ·refine re_op Z379 ?_ ?_
            ·refine re_op Z377 ?_ ?_
             ·refine re_ix ?_ ?_ (fun _ _ => rfl)
              ·exact (Z481 (pv 6) (j := 6) rfl)
              ·exact (re_C Z411)
             ·exact (re_C Z411)
            ·exact (re_C Z411)
           ·exact (Z486 (i := 7) Z350 rfl (Or.inl rfl) rfl (by decide))
          ·refine Z511 ?_ ?_
           ·refine Z499 ?_ ?_
            ·refine re_op Z375 ?_ ?_
             ·refine re_op Z375 ?_ ?_
              ·exact (Z481 (pv 4) (j := 4) rfl)
              ·exact (re_C Z411)
             ·refine re_op Z379 ?_ ?_
              ·refine re_op Z377 ?_ ?_
               ·refine re_ix ?_ ?_ (fun _ _ => rfl)
                ·exact (Z481 (pv 6) (j := 6) rfl)
                ·exact (re_C Z411)
               ·exact (re_C Z411)
              ·exact (re_C Z411)
            ·exact (Z486 (i := 4) Z350 rfl (Or.inl rfl) rfl (by decide))
           ·refine Z511 ?_ ?_
            ·refine Z499 ?_ ?_
             ·refine rc_fn (ms := [false, false]) (by rw [ha]; exact (Z368 T)) (hr.mono (by omega)) hx ?_ (Z1 (Z1 Z2))
              ·refine Z458 ?_ ?_
               ·exact (Z481 (pv 6) (j := 6) rfl)
               ·refine Z458 ?_ ?_
                ·refine re_ix ?_ ?_ (fun _ _ => rfl)
                 ·exact (Z481 (pv 1) (j := 1) rfl)
                 ·exact (Z481 (pv 7) (j := 7) rfl)
                ·exact Z459
             ·exact (Z486 (i := 8) Z350 rfl (Or.inl rfl) rfl (by decide))
            ·refine Z511 ?_ ?_
             ·refine Z499 ?_ ?_
              ·refine Z475 ?_
               ·exact Z459
              ·exact (Z486 (i := 9) Z350 rfl (Or.inl rfl) rfl (by decide))
             ·refine Z511 ?_ ?_
              ·refine rs_if ?_ ?_ ?_
               ·refine PW.pt ?_
                ·refine rw_or ?_ ?_
                 ·refine Z515 on_ne ?_ ?_ (nomark _)
                  ·refine rc_b Z42 (by rfl) T.b_len boot_len ?_
                   ·refine Z458 ?_ ?_
                    ·exact (Z481 (pv 8) (j := 8) rfl)
                    ·exact Z459
                  ·refine re_ix ?_ ?_ (fun _ _ => rfl)
                   ·exact (Z481 (pv 1) (j := 1) rfl)
                   ·exact (Z481 (pv 7) (j := 7) rfl)
                 ·refine rw_or ?_ ?_
                  ·refine Z515 on_gt ?_ ?_ (nomark _)
                   ·refine rc_b (Z44 rfl) (by rfl) T.b_max boot_max ?_
                    ·refine Z458 ?_ ?_
                     ·exact (Z481 (pv 8) (j := 8) rfl)
                     ·exact Z459
                   ·exact (re_C Z411)
                  ·refine Z520 ?_
                   ·refine Z515 on_lt ?_ ?_ (nomark _)
                    ·refine rc_b (Z45 rfl) (by rfl) T.b_min boot_min ?_
                     ·refine Z458 ?_ ?_
                      ·exact (Z481 (pv 8) (j := 8) rfl)
                      ·exact Z459
                    ·exact (re_C Z411)
               ·refine Z514 ?_
                ·refine Z499 ?_ ?_
                 ·refine Z480 ?_
                  ·refine Z458 ?_ ?_
                   ·exact (re_C Z418)
                   ·refine Z458 ?_ ?_
                    ·exact (re_C Z418)
                    ·exact Z459
                 ·exact (Z486 (i := 9) Z350 rfl (Or.inl rfl) rfl (by decide))
               ·refine Z514 ?_
                ·refine Z504 Z395 rfl rfl T.b_range ?_ ?_ ?_
                 ·refine re_ix ?_ ?_ (fun _ _ => rfl)
                  ·exact (Z481 (pv 1) (j := 1) rfl)
                  ·exact (Z481 (pv 7) (j := 7) rfl)
                 ·exact (Z486 (i := 10) Z350 rfl (Or.inl rfl) rfl (by decide))
                 ·refine Z512 (js := [10, 11]) (by decide) ?_
                  ·refine Z514 ?_
                   ·refine Z504 Z395 rfl rfl T.b_range ?_ ?_ ?_
                    ·refine re_ix ?_ ?_ (fun _ _ => rfl)
                     ·exact (Z481 (pv 8) (j := 8) rfl)
                     ·exact (Z481 (pv 10) (j := 10) rfl)
                    ·exact (Z486 (i := 11) Z350 rfl (Or.inl rfl) rfl (by decide))
                    ·refine Z512 (js := [11]) (by decide) ?_
                     ·refine Z511 ?_ ?_
                      ·refine rs_e ?_
                       ·refine Z465 ?_ ?_
                        ·refine re_ix ?_ ?_ (fun _ _ => rfl)
                         ·exact (Z481 (pv 3) (j := 3) rfl)
                         ·exact (Z481 (pv 7) (j := 7) rfl)
                        ·refine Z480 ?_
                         ·refine Z458 ?_ ?_
                          ·exact (Z481 (pv 10) (j := 10) rfl)
                          ·refine Z458 ?_ ?_
                           ·exact (Z481 (pv 4) (j := 4) rfl)
                           ·refine Z458 ?_ ?_
                            ·exact (re_C pe_bl)
                            ·exact Z459
                      ·refine Z514 ?_
                       ·refine rs_e ?_
                        ·refine Z465 ?_ ?_
                         ·exact (Z481 (pv 9) (j := 9) rfl)
                         ·refine rc_b Z42 (by rfl) T.b_len boot_len ?_
                          ·refine Z458 ?_ ?_
                           ·refine re_ix ?_ ?_ (fun _ _ => rfl)
                            ·exact (Z481 (pv 3) (j := 3) rfl)
                            ·exact (Z481 (pv 7) (j := 7) rfl)
                           ·exact Z459
              ·refine Z514 ?_
               ·refine rs_if ?_ ?_ ?_
                ·refine Z516 ?_
                 ·refine rt_v ?_
                  ·refine rc_fn (ms := [false, false]) (by rw [ha]; exact (Z373 T)) (hr.mono (by omega)) hx ?_ (Z1 (Z1 Z2))
                   ·refine Z458 ?_ ?_
                    ·refine rc_fn (ms := [true, false, false]) (by rw [ha]; exact (Z370 T)) (hr.mono (by omega)) hx ?_ (Z1 (Z1 (Z1 Z2)))
                     ·refine Z458 ?_ ?_
                      ·refine re_ix ?_ ?_ (fun _ _ => rfl)
                       ·exact (Z481 (pv 2) (j := 2) rfl)
                       ·exact (Z481 (pv 7) (j := 7) rfl)
                      ·refine Z458 ?_ ?_
                       ·exact (Z481 (pv 4) (j := 4) rfl)
                       ·refine Z458 ?_ ?_
                        ·exact (Z481 (pv 8) (j := 8) rfl)
                        ·exact Z459
                    ·refine Z458 ?_ ?_
                     ·exact (Z481 (pv 9) (j := 9) rfl)
                     ·exact Z459
                ·refine Z514 ?_
                 ·refine Z508 ?_
                  ·exact (re_C pe_bl)
                ·exact Z513
      ·refine Z514 ?_
       ·refine Z508 ?_
        ·refine Z463 ?_ ?_
         ·refine rc_fn (ms := [true, false]) (by rw [ha]; exact (Z371 T)) (hr.mono (by omega)) hx ?_ (Z1 (Z1 Z2))
          ·refine Z458 ?_ ?_
           ·refine re_ix ?_ ?_ (fun _ _ => rfl)
            ·exact (Z481 (pv 2) (j := 2) rfl)
            ·exact (re_C Z411)
           ·refine Z458 ?_ ?_
            ·refine re_ix ?_ ?_ (fun _ _ => rfl)
             ·exact (Z481 (pv 3) (j := 3) rfl)
             ·exact (re_C Z411)
            ·exact Z459
         ·refine Z464 ?_
          ·refine rc_fn (ms := [true, false]) (by rw [ha]; exact (Z371 T)) (hr.mono (by omega)) hx ?_ (Z1 (Z1 Z2))
           ·refine Z458 ?_ ?_
            ·refine re_ix ?_ ?_ (fun _ _ => rfl)
             ·exact (Z481 (pv 2) (j := 2) rfl)
             ·exact (re_C Z411)
            ·refine Z458 ?_ ?_
             ·refine re_ix ?_ ?_ (fun _ _ => rfl)
              ·exact (Z481 (pv 3) (j := 3) rfl)
              ·exact (re_C Z411)
             ·exact Z459
end
end Pf
set_option Elab.async false
set_option linter.all false
set_option maxRecDepth 100000
open PySem PySem.Spec PyProof.Rows L2 RM
local macro_rules | `(tactic| walk_at "ev") => `(tactic| simp only [Z127, ev_if, ev_e, Z123, Z124, Z121, Z94, ev_ct, Z91, Z103, ev_v, Z120, Z89, ev_or, ev_C, Z133, Z119, Z99, ev_nw, ev_ch, Z101, Z100, ev_mu, Z90, Z111, Z95, ev_mk, Z92, Z93, Z118, Z108, Z107, seqOf, fin, popD, Z132, tryH, Z117, Z116, Z128, Z131, Z129, Z130, Z122, Z125, ini, outs, ends, augGo, selF, selI, hFld, hPutF, hPutD, hApp, Z114, Z112, Z113, Z115, hI, hEq, hIsN, hAdd, Z181, Z180, Z182, Z178, Z179, Z175, Z177, Z174, Z176, hDGet, hDIn, hGet2, findD, hList, hFmt, hNeg, hInt, hStrI, hMax, hMin, pick, drefs, dref, vals, pairsA, kvD, keyD, mkV, D.imm, D.imms, NK.mut, D.get, D.put, wr, Z241, Z240, Z239, Z608, Z607, Z606, Z569, Z568, sub_cn, Z567, unh, unx, asgD, tgT, tgC, tgN, takes, fills, gives, apart, disj, retV, kills, killN, hole,
 List.foldl_cons, List.foldl_nil, List.mapIdx_cons, List.mapIdx_nil, List.zipWith_cons_cons, List.zipWith_nil_left, List.zipWith_nil_right, List.replicate, List.map_cons, List.map_nil, List.cons_append, List.nil_append, List.append_nil, List.length_cons, List.length_nil, List.getElem?_cons_zero, List.getElem?_cons_succ, List.getElem?_nil, List.set_cons_zero, List.set_cons_succ, List.getLast?_cons_cons, List.getLast?_singleton, List.dropLast_cons_cons, List.dropLast_singleton, Nat.reduceAdd, Nat.reduceSub, Nat.reduceLT, Nat.reduceLeDiff, Nat.reduceEqDiff, Nat.zero_add, Nat.add_zero, Nat.sub_self, Nat.sub_zero,
 Option.map_some, Option.map_none, Option.some.injEq, if_true, if_false, ite_true, ite_false, Bool.not_true, Bool.not_false, Bool.and_true, Bool.true_and, Bool.and_false, Bool.false_and, Bool.true_or, Bool.false_or, Bool.or_true, Bool.or_false, decide_true, decide_false, decide_not, ne_eq, not_true, not_false_eq_true, Bool.false_eq_true, reduceIte, reduceCtorEq, and_self, and_true, true_and, false_and, and_false, bne_self_eq_false, Bool.bne_false, Bool.bne_true, List.length_map, List.length_append, Int.reduceLT, Int.reduceLE, Int.reduceNeg, Int.reduceToNat, Int.cast_ofNat_Int, Int.natCast_zero, Int.natCast_one, Int.toNat_natCast, Int.reduceEq, Int.reducePow, Int.reduceAdd, Int.reduceMul, Int.reduceSub, Int.reduceMod, Int.reduceDiv, Nat.reduceBNe, Nat.reduceBEq, ixN_0, ixN_1, ixN_2, ixN_3, ixN_4, ixN_5, ixN_6, ixN_7, ixN_8, ixN_9, Z224, Z225, Z226, sz, flatV, scal, decide_eq_true_eq, V.int.injEq, V.str.injEq, V.bl.injEq, Z106, lenOf, Z97, Z98, Z104, Z105, Z109, Z110, graftS, Z96, hRng, hPutL, compFin1, compFin2, keysD, hAddI, Z126, Z102, hCut, hCat, Pf.Z230, Pf.Z237, Pf.Z229, Pf.Z236, Pf.Z231, Pf.Z238, Pf.Z228, Pf.Z235, Pf.Z192, Pf.Z190, Pf.Z196, Pf.Z193, Pf.Z195, Pf.Z191, Pf.Z197, Pf.Z194, Pf.Z666, Pf.Z667, Pf.Z668, Pf.Z669])
local macro_rules | `(tactic| walk_at "evs") => `(tactic| simp only [Z127, ev_if, ev_e, Z123, Z124, Z121, Z94, ev_ct, Z91, Z103, ev_v, Z120, Z89, ev_or, ev_C, Z133, Z119, Z99, ev_nw, ev_ch, Z101, Z100, ev_mu, Z90, Z111, Z95, ev_mk, Z92, Z93, Z118, Z108, Z107, seqOf, fin, popD, Z132, tryH, Z117, Z116, Z128, Z131, Z129, Z130, Z122, Z125, ini, outs, ends, augGo, selF, selI, hFld, hPutF, hPutD, hApp, Z114, Z112, Z113, Z115, hI, hEq, hIsN, hAdd, Z181, Z180, Z182, Z178, Z179, Z175, Z177, Z174, Z176, hDGet, hDIn, hGet2, findD, hList, hFmt, hNeg, hInt, hStrI, hMax, hMin, pick, drefs, dref, vals, pairsA, kvD, keyD, mkV, D.imm, D.imms, NK.mut, D.get, D.put, wr, Z241, Z240, Z239, Z608, Z607, Z606, Z569, Z568, sub_cn, Z567, unh, unx, asgD, tgT, tgC, tgN, takes, fills, gives, apart, disj, retV, kills, killN, hole,
 List.foldl_cons, List.foldl_nil, List.mapIdx_cons, List.mapIdx_nil, List.zipWith_cons_cons, List.zipWith_nil_left, List.zipWith_nil_right, List.replicate, List.map_cons, List.map_nil, List.cons_append, List.nil_append, List.append_nil, List.length_cons, List.length_nil, List.getElem?_cons_zero, List.getElem?_cons_succ, List.getElem?_nil, List.set_cons_zero, List.set_cons_succ, List.getLast?_cons_cons, List.getLast?_singleton, List.dropLast_cons_cons, List.dropLast_singleton, Nat.reduceAdd, Nat.reduceSub, Nat.reduceLT, Nat.reduceLeDiff, Nat.reduceEqDiff, Nat.zero_add, Nat.add_zero, Nat.sub_self, Nat.sub_zero,
 Option.map_some, Option.map_none, Option.some.injEq, if_true, if_false, ite_true, ite_false, Bool.not_true, Bool.not_false, Bool.and_true, Bool.true_and, Bool.and_false, Bool.false_and, Bool.true_or, Bool.false_or, Bool.or_true, Bool.or_false, decide_true, decide_false, decide_not, ne_eq, not_true, not_false_eq_true, Bool.false_eq_true, reduceIte, reduceCtorEq, and_self, and_true, true_and, false_and, and_false, bne_self_eq_false, Bool.bne_false, Bool.bne_true, List.length_map, List.length_append, Int.reduceLT, Int.reduceLE, Int.reduceNeg, Int.reduceToNat, Int.cast_ofNat_Int, Int.natCast_zero, Int.natCast_one, Int.toNat_natCast, Int.reduceEq, Int.reducePow, Int.reduceAdd, Int.reduceMul, Int.reduceSub, Int.reduceMod, Int.reduceDiv, Nat.reduceBNe, Nat.reduceBEq, ixN_0, ixN_1, ixN_2, ixN_3, ixN_4, ixN_5, ixN_6, ixN_7, ixN_8, ixN_9, Z224, Z225, Z226, sz, flatV, scal, decide_eq_true_eq, V.int.injEq, V.str.injEq, V.bl.injEq, Z106, lenOf, Z97, Z98, Z104, Z105, Z109, Z110, graftS, Z96, hRng, hPutL, compFin1, compFin2, keysD, hAddI, Z126, Z102, hCut, hCat, Pf.Z230, Pf.Z237, Pf.Z229, Pf.Z236, Pf.Z231, Pf.Z238, Pf.Z228, Pf.Z235, Pf.Z192, Pf.Z190, Pf.Z196, Pf.Z193, Pf.Z195, Pf.Z191, Pf.Z197, Pf.Z194, Pf.Z666, Pf.Z667, Pf.Z668, Pf.Z669, *])
namespace Pf
open PySem PySem.Spec PyProof.Rows L2 RM
variable {K : PySem.W.Frag} {A : Adr}
noncomputable abbrev aI (i : Int) : D := .at (.int i)
theorem imI (ns : List Int) : D.imms (ns.map aI) = true := Z203 (fun _ => rfl) ns
noncomputable def atL (ns : List Int) (i : Int) : Int := if 0 ≤ i then (if i < ns.length then ns.getD i.toNat 0 else 0) else 0
theorem v_at (k : NK) (hk : Scr K k) (ns : List Int) (i : Int) (h0 : 0 ≤ i) : Z144 K A [scD k ns, aI i] = .ok (.val (aI (atL ns i))) [scD k ns, aI i] := by
 unfold Z144 Z17 atL scD
 have him := imI ns
 by_cases h : i < (ns.length : Int)
 ·have hj : i.toNat < ns.length := by omega
  have e1 : ns.getD i.toNat 0 = ns[i.toNat] := by rw [List.getD_eq_getElem?_getD, List.getElem?_eq_getElem hj]; rfl
  have e2 : (ns.map aI)[i.toNat]? = some (aI ns[i.toNat]) := by rw [List.getElem?_map, List.getElem?_eq_getElem hj]; rfl
  have e3 : ixN ns.length i = some i.toNat := by unfold ixN; rw [if_pos h0, if_pos h]
  rw [e1]; clear e1
  rcases hk with rfl | rfl <;> walk_at "evs"
 ·rcases hk with rfl | rfl <;> walk_at "evs"
theorem Z552 {k : NK} (hk : Scr K k) (ns : List Int) : (scD k ns).imm = true := by
 unfold scD
 rcases hk with rfl | rfl <;> simp only [D.imm, NK.mut, imI, Bool.not_false, Bool.true_and]
noncomputable abbrev figS (k : NK) (ns : List Int) (i base : Int) (m : Nat) (cell : Int) (xs : List Int) (x6 : DL) : Sd := [.own true (scD k ns), .own true (aI i), .own true (aI base), .own true (aI m), .own true (aI cell), .own true (.nd (.lst true) (xs.map aI)), x6, .non, .non, .non, .non, .non]
theorem Z618 (k : NK) (hk : Scr K k) (ns : List Int) (i base : Int) (m j : Nat) (cell : Int) (xs : List Int) (hb : 0 < base) (hb' : base < 1073741824) (hx : xs.length < 16777216) (hz : atL ns 0 % 2 = 0) :
  Z292 K A (figS k ns i base m cell xs (.own true (aI (0 + j)))) = .nx (figS k ns i base m (cell / base) (xs ++ [cell % base]) .non) := by
 have hki := Z552 hk ns
 have hat0 := v_at (A := A) k hk ns 0 (by omega)
 unfold Z292
 walk_at "evs"
 simp only [figS, List.map_append, List.map_cons, List.map_nil]
theorem Z619 (k : NK) (hk : Scr K k) (ns : List Int) (i base : Int) (m j : Nat) (cell : Int) (xs : List Int) (hb : 0 < base) (hx : xs.length < 16777216) (hz : ¬ atL ns 0 % 2 = 0) :
  ∃ y, Z292 K A (figS k ns i base m cell xs (.own true (aI (0 + j)))) = .nx (figS k ns i base m cell (xs ++ [y % base]) .non) := by
 have hki := Z552 hk ns
 have hat0 := v_at (A := A) k hk ns 0 (by omega)
 unfold Z292
 refine ⟨((cell + 31 * (0 + j) + 1) * 48271 % 2147483647 + 7919 * i + (0 + j) + 1) * 69621 % 2147483647, ?_⟩
 walk_at "evs"
 simp only [figS, List.map_append, List.map_cons, List.map_nil]
theorem Z620 (k : NK) (hk : Scr K k) (ns : List Int) (i base : Int) (m : Nat) (h0 : 0 ≤ i) (hm : m < 1000) (cell : Int) (xs : List Int)
  (h1 : loopG (itR 0 m) (asgD 6) (Z292 K A) (m + 1) 0 (figS k ns i base m (atL ns i) [] .non) = .nx (figS k ns i base m cell xs .non)) :
  Z146 K A [scD k ns, aI i, aI base, aI m] = .ok (.val (.nd (.lst true) (xs.map aI))) [scD k ns, aI i, aI base, aI m] := by
 have hki := Z552 hk ns
 have hat := v_at (A := A) k hk ns i h0
 have hm1 : (m : Int) < 4611686018427387904 := by omega
 have hm2 : -4611686018427387904 ≤ (m : Int) := by omega
 simp only [figS, List.map_nil] at h1
 unfold Z146 Z19
 walk_at "evs"
theorem Z621 (k : NK) (hk : Scr K k) (ns : List Int) (i base : Int) (m : Nat) (h0 : 0 ≤ i) (hb : 0 < base) (hb' : base < 1073741824) (hm : m < 1000) : ∃ xs : List Int, xs.length = m ∧ (∀ x ∈ xs, 0 ≤ x ∧ x < base) ∧
  Z146 K A [scD k ns, aI i, aI base, aI m] = .ok (.val (.nd (.lst true) (xs.map aI))) [scD k ns, aI i, aI base, aI m] := by
 have hmod : ∀ y : Int, 0 ≤ y % base ∧ y % base < base := fun y => ⟨Int.emod_nonneg _ (by omega), Int.emod_lt_of_pos _ hb⟩
 obtain ⟨s', h1, cell, xs, h2, h3, rfl⟩ := Z311 (lo := 0) (n := m) (b := asgD 6) (body := Z292 K A) (s := figS k ns i base m (atL ns i) [] .non)
  (fun j s => ∃ (cell : Int) (xs : List Int), xs.length = j ∧ (∀ x ∈ xs, 0 ≤ x ∧ x < base) ∧ s = figS k ns i base m cell xs .non) ⟨atL ns i, [], rfl, by simp, rfl⟩ (by
  rintro j s hj ⟨cell, xs, h1, h2, rfl⟩
  by_cases hz : atL ns 0 % 2 = 0
  ·refine ⟨_, _, rfl, .inl (Z618 k hk ns i base m j cell xs hb hb' (by omega) hz), _, _, ?_, fun x hx => ?_, rfl⟩
   ·rw [List.length_append, h1]; rfl
   rcases List.mem_append.mp hx with hx | hx
   ·exact h2 x hx
   ·rw [List.mem_singleton.mp hx]; exact hmod _
  ·obtain ⟨y, e⟩ := Z619 (A := A) k hk ns i base m j cell xs hb (by omega) hz
   refine ⟨_, _, rfl, .inl e, _, _, ?_, fun x hx => ?_, rfl⟩
   ·rw [List.length_append, h1]; rfl
   rcases List.mem_append.mp hx with hx | hx
   ·exact h2 x hx
   ·rw [List.mem_singleton.mp hx]; exact hmod _)
 exact ⟨xs, h2, h3, Z620 k hk ns i base m h0 hm cell xs h1⟩
theorem dt_up {n : Nat} {a : D} (h : DtN n a) : DtN (n + 1) a := by
 obtain ⟨d, h1, h2⟩ := h
 exact ⟨d, h1, Nat.le_succ_of_le h2⟩
theorem Z655 {a : D} (h : DtN 3 a) : Z150 A [a, a] = .ok (.val (.at (.bl true))) [a, a] := Z536 h
noncomputable abbrev duo (b : Int × Int) : D := .nd .tup [aI b.1, aI b.2]
noncomputable abbrev nD (l : List Int) : D := .nd (.lst true) (l.map aI)
noncomputable abbrev kW (x : Int × Int) : List Key := [.inl x.1, .inl x.2]
noncomputable abbrev kG (x : Int) : Key := .inl x
noncomputable abbrev bT : D := .at (.bl true)
noncomputable abbrev shD (A : Adr) (m : Int) (ms ks : List (Int × Int)) (ls : List (List Int)) (gk : List Int) : D :=
 .nd (.ins true A.c_Shelf Z158) [aI m, .nd (.lst true) (ms.map duo), .nd (.dit true (ks.map kW)) (ls.map nD), .nd (.dic true (gk.map kG)) (gk.map fun _ => bT)]
theorem Z630 (m : Int) : Z137 K A [.nd (.ins true A.c_Shelf []) [], aI m] = .ok (.val (.at .non)) [shD A m [] [] [] [], aI m] := by
 unfold Z137 Z10
 walk_at "ev"
 rfl
theorem v_cc (m ms ks ls gk) (cs : List Int) (hm : (cs.length : Int) = m) (hc : ∀ c ∈ cs, 0 ≤ c ∧ c ≤ 3) : Z138 K A [shD A m ms ks ls gk, nD cs] = .ok (.val (.at .non)) [shD A m ms ks ls gk, nD cs] := by
 obtain ⟨s', lp, rfl⟩ := Z310 (t := false) (n := 5) (k := 4) (p := []) (l := cs.map aI) (kd := .lst true) (b := asgD 2) (body := Z289 K A) (s := [.bor 3 [], .bor 4 [], .non, .own false (shD A m ms ks ls gk), .own false (nD cs), .bor 4 []]) (.inl ⟨rfl, true, rfl⟩)
  (fun i s => s = [.bor 3 [], .bor 4 [], .non, .own false (shD A m ms ks ls gk), .own false (nD cs), .bor 4 []]) rfl (by rintro i s rfl; exact ⟨rfl, rfl⟩) (by
  rintro i s c hc' rfl
  rw [List.getElem?_map] at hc'
  cases eb : cs[i]? with
  | none => rw [eb] at hc'; cases hc'
  | some b =>
   rw [eb] at hc'
   cases hc'
   obtain ⟨h1, h2⟩ := hc b (List.mem_of_getElem? eb)
   have e1 : ¬ b < 0 := by omega
   have e2 : ¬ b > 3 := by omega
   refine ⟨_, _, rfl, .inl ?_, rfl⟩
   clear hc hm eb
   unfold Z289
   walk_at "evs")
 simp only [List.length_map] at lp
 clear hc
 unfold Z138 Z11
 walk_at "evs"
noncomputable def rg (i : Int) (n : Nat) : List Int := (List.range n).map fun k : Nat => i + (k : Int)
theorem Z495 (i : Int) (n : Nat) : rngD i n = (rg i n).map aI := by simp [rngD, rg]
theorem Z485 (i : Int) (n : Nat) : (rg i n).length = n := by simp [rg]
noncomputable abbrev mkS (A : Adr) (m : Int) (ms ks : List (Int × Int)) (ls : List (List Int)) (gk : List Int) (w k c n : Int) (f : List Int) (s6 : DL) : Sd :=
 [.bor 7 [], .own true (aI w), .own true (aI k), .own true (aI c), .own true (aI n), .own true (nD f), s6, .own true (shD A m ms ks ls gk), .non, .non, .non, .bor 5 []]
theorem Z649 (m ms ks ls gk w k c f n x) (h : ms.length < 1000000) :
  Z291 K A (mkS A m ms ks ls gk w k c n f (.own true (aI x))) = .nx (mkS A m (ms ++ [(k, w)]) ks ls gk w k c n f .non) := by
 have h1 : ms.length < 16777216 := by omega
 clear h
 unfold Z291
 walk_at "evs"
 simp
theorem Z484 {α : Type} (x : α) (n : Nat) : List.replicate n x ++ [x] = List.replicate (n + 1) x := by
 rw [List.replicate_succ']
theorem Z651 (m ms ks ls gk w k c n f) (hk : idk (kW (w, k)) (ks.map kW) = none) (hl : ls.length < 900000) :
  Z574 K A [.bor 7 [], .own true (aI w), .own true (aI k), .own true (aI c), .own true (aI n), .own true (nD f), .non, .own true (shD A m ms ks ls gk), .non, .non, .non] =
  .rt (.plc 7 [2, ls.length]) [.bor 7 [], .own true (aI w), .own true (aI k), .own true (aI c), .own true (aI n), .bor 7 [2, ls.length], .non, .own true (shD A m ms (ks ++ [(w, k)]) (ls ++ [f]) gk), .non, .non, .non] := by
 have b7 : ls.length < 16777216 := by omega
 have e3 : (ls.map nD ++ [nD f])[ls.length]? = some (nD f) := by
  rw [List.getElem?_append_right (by simp)]; simp
 clear hl
 unfold Z574
 walk_at "evs"
 simp
theorem Z652 (m ms ks ls gk w k) (c : Nat) (h : ms.length < 900000) (hc : c < 1000) :
  loopG (itP false 11 5 []) (asgD 6) (Z291 K A) (c + 1) 0 (mkS A m ms ks ls gk w k c (ms.length + 1) (rg (ms.length + 1) c) .non) = .nx (mkS A m (ms ++ List.replicate c (k, w)) ks ls gk w k c (ms.length + 1) (rg (ms.length + 1) c) .non) := by
 obtain ⟨s', lp, rfl⟩ := Z310 (t := false) (n := 11) (k := 5) (p := []) (l := (rg (ms.length + 1) c).map aI) (kd := .lst true) (b := asgD 6) (body := Z291 K A) (s := mkS A m ms ks ls gk w k c (ms.length + 1) (rg (ms.length + 1) c) .non) (.inl ⟨rfl, true, rfl⟩)
  (fun i s => s = mkS A m (ms ++ List.replicate i (k, w)) ks ls gk w k c (ms.length + 1) (rg (ms.length + 1) c) .non) (by simp) (by rintro i s rfl; exact ⟨rfl, rfl⟩) (by
  rintro i s d hd rfl
  have hi := (List.getElem?_eq_some_iff.mp hd).1
  rw [List.length_map, Z485] at hi
  rw [List.getElem?_map] at hd
  cases eb : (rg (ms.length + 1) c)[i]? with
  | none => rw [eb] at hd; cases hd
  | some b =>
   rw [eb] at hd
   cases hd
   refine ⟨_, _, rfl, .inl (Z649 m _ ks ls gk w k c _ _ b (by simp; omega)), ?_⟩
   rw [List.append_assoc, Z484])
 rw [List.length_map, Z485] at lp
 exact lp
theorem v_rng (m ms ks ls gk w k) (c : Nat) (n : Int) (b1 : n < 4611686018427387904) (b2 : -4611686018427387904 ≤ n) (b3 : n + c < 4611686018427387904) (b4 : -4611686018427387904 ≤ n + c) (b5 : (n + c - n).toNat = c) (b6 : c ≤ 16777216) :
  sAsg (eNw hRng (aCons (eVar 4) (aCons (eNw hAddI (aCons (eVar 4) (aCons (eVar 3) aNil))) aNil))) (asgD 5) [.bor 7 [], .own true (aI w), .own true (aI k), .own true (aI c), .own true (aI n), .non, .non, .own true (shD A m ms ks ls gk), .non, .non, .non] = .nx [.bor 7 [], .own true (aI w), .own true (aI k), .own true (aI c), .own true (aI n), .own true (.nd (.lst true) (rngD n c)), .non, .own true (shD A m ms ks ls gk), .non, .non, .non] := by
 walk_at "evs"
theorem Z650 (m ms ks ls gk w k) (c : Nat) (h : ms.length < 900000) (hc : c < 1000) (hk : idk (kW (w, k)) (ks.map kW) = none) (hl : ls.length < 900000) :
  Z573 K A [.bor 7 [], .own true (aI w), .own true (aI k), .own true (aI c), .own true (aI (ms.length + 1)), .non, .non, .own true (shD A m ms ks ls gk), .non, .non, .non] = .rt (.plc 7 [2, ls.length]) [.bor 7 [], .own true (aI w), .own true (aI k), .own true (aI c), .own true (aI (ms.length + 1)), .bor 7 [2, ls.length], .non, .own true (shD A m (ms ++ List.replicate c (k, w)) (ks ++ [(w, k)]) (ls ++ [rg (ms.length + 1) c]) gk), .non, .non, .non] := by
 have lp := Z652 (K := K) (A := A) m ms ks ls gk w k c h hc
 have b1 : (ms.length : Int) + 1 < 4611686018427387904 := by omega
 have b2 : -4611686018427387904 ≤ (ms.length : Int) + 1 := by omega
 have b3 : (ms.length : Int) + 1 + c < 4611686018427387904 := by omega
 have b4 : -4611686018427387904 ≤ (ms.length : Int) + 1 + c := by omega
 have b5 : ((ms.length : Int) + 1 + c - ((ms.length : Int) + 1)).toNat = c := by omega
 have b6 : c ≤ 16777216 := by omega
 have e1 := Z495 (ms.length + 1) c
 have e2 : (rg (ms.length + 1) c).length = c := Z485 _ _
 have tl := Z651 (K := K) (A := A) m (ms ++ List.replicate c (k, w)) ks ls gk w k c (ms.length + 1) (rg (ms.length + 1) c) hk hl
 clear h hc hl hk
 simp only [mkS] at lp
 have a1 := v_rng (A := A) m ms ks ls gk w k c ((ms.length : Int) + 1) b1 b2 b3 b4 b5 b6
 rw [e1] at a1
 clear b1 b2 b3 b4 b5 b6 e1
 unfold Z573
 rw [Z127, a1]
 clear a1
 have a2 : sForL (eVar 5) (asgD 6) (Z291 K A) [.bor 7 [], .own true (aI w), .own true (aI k), .own true (aI c), .own true (aI (ms.length + 1)), .own true (nD (rg (ms.length + 1) c)), .non, .own true (shD A m ms ks ls gk), .non, .non, .non] = .nx [.bor 7 [], .own true (aI w), .own true (aI k), .own true (aI c), .own true (aI (ms.length + 1)), .own true (nD (rg (ms.length + 1) c)), .non, .own true (shD A m (ms ++ List.replicate c (k, w)) ks ls gk), .non, .non, .non] := by
  clear tl
  walk_at "evs"
 dsimp only
 rw [Z127, a2]
 exact tl
theorem Z648 (m ms ks ls gk w k) (c : Nat) (h : ms.length < 900000) (hc : c < 1000) (hk : idk (kW (w, k)) (ks.map kW) = none) (hl : ls.length < 900000) :
  Z143 K A [shD A m ms ks ls gk, aI w, aI k, aI c] = .ok (.arg 0 [2, ls.length]) [shD A m (ms ++ List.replicate c (k, w)) (ks ++ [(w, k)]) (ls ++ [rg (ms.length + 1) c]) gk, aI w, aI k, aI c] := by
 have tl := Z650 (K := K) (A := A) m ms ks ls gk w k c h hc hk hl
 clear h hc hk hl
 unfold Z143 Z16
 walk_at "evs"
structure Sh where
 m : Int
 ms : List (Int × Int)
 ks : List (Int × Int)
 ls : List (List Int)
 gk : List Int
noncomputable def Sh.d (A : Adr) (x : Sh) : D := shD A x.m x.ms x.ks x.ls x.gk
noncomputable def mkF (w k : Int) (c : Nat) (x : Sh) : Sh := ⟨x.m, x.ms ++ List.replicate c (k, w), x.ks ++ [(w, k)], x.ls ++ [rg (x.ms.length + 1) c], x.gk⟩
noncomputable def fillJ (w : Int) (cs : List Int) (x : Sh) : Nat → Sh × List Int
 | 0 => (x, [])
 | j + 1 => (mkF w j (cs.getD j 0).toNat (fillJ w cs x j).1, (fillJ w cs x j).2 ++ rg ((fillJ w cs x j).1.ms.length + 1) (cs.getD j 0).toNat)
noncomputable abbrev fiS (A : Adr) (w : Int) (cs : List Int) (x : Sh × List Int) (s4 s5 : DL) : Sd :=
 [.bor 6 [], .own true (aI w), .bor 8 [], .own true (nD x.2), s4, s5, .own true (x.1.d A), .non, .own false (nD cs), .bor 8 []]
theorem Z623 (w : Int) (cs : List Int) (x : Sh × List Int) (k : Nat) (c : Nat) (h : x.1.ms.length < 900000) (hc : c < 1000) (hk : idk (kW (w, (k : Int))) (x.1.ks.map kW) = none) (hl : x.1.ls.length < 900000) (ha : x.2.length < 900000) :
  Z290 K A (fiS A w cs x (.own true (aI k)) (.own true (aI c))) = .nx (fiS A w cs (mkF w k c x.1, x.2 ++ rg (x.1.ms.length + 1) c) .non .non) := by
 obtain ⟨⟨m, ms, ks, ls, gk⟩, ans⟩ := x
 dsimp only at h hc hk hl ha
 have hm := Z648 (K := K) (A := A) m ms ks ls gk w k c h hc hk hl
 have e3 : (List.map nD (ls ++ [rg (ms.length + 1) c]))[ls.length]? = some (.nd (.lst true) (List.map aI (rg (ms.length + 1) c))) := by simp
 have i1 := imI ans
 have i2 := imI (rg (ms.length + 1) c)
 have i3 : ans.length + (rg (ms.length + 1) c).length ≤ 16777216 := by rw [Z485]; omega
 clear h hc hk hl ha
 unfold Z290
 simp only [fiS, Sh.d, mkF]
 walk_at "evs"
 simp
theorem Z199 {κ : Type} [DecidableEq κ] {k : κ} {ks : List κ} (h : k ∉ ks) : idk k ks = none := by
 unfold idk
 rw [List.findIdx?_eq_none_iff]
 intro x hx
 exact decide_eq_false (by rintro rfl; exact h hx)
theorem Z151 (w : Int) (cs : List Int) (x : Sh) : ∀ j, (fillJ w cs x j).1.ks = x.ks ++ (List.range j).map (fun i : Nat => (w, (i : Int)))
 | 0 => by simp [fillJ]
 | j + 1 => by simp [fillJ, mkF, Z151 w cs x j, List.range_succ]
theorem Z152 (w : Int) (cs : List Int) (x : Sh) (hc : ∀ c ∈ cs, 0 ≤ c ∧ c ≤ 3) : ∀ j, (fillJ w cs x j).1.ms.length ≤ x.ms.length + 3 * j ∧ (fillJ w cs x j).1.ls.length = x.ls.length + j ∧ (fillJ w cs x j).2.length ≤ 3 * j
 | 0 => by simp [fillJ]
 | j + 1 => by
  obtain ⟨h1, h2, h3⟩ := Z152 w cs x hc j
  have : (cs.getD j 0).toNat ≤ 3 := by
   rw [List.getD_eq_getElem?_getD]
   cases e : cs[j]? with
   | none => simp
   | some c => have := hc c (List.mem_of_getElem? e); simp; omega
  simp only [fillJ, mkF, List.length_append, List.length_replicate, Z485, List.length_cons, List.length_nil]
  omega
theorem Sh.imm (x : Sh) : (x.d A).imm = false := rfl
theorem Sh.obj (x : Sh) (n : Str) (h : Z158.contains n = false) : isObjD A.c_Shelf n (x.d A) = true := by
 simp only [Sh.d, isObjD, h]; simp
theorem v_ccS (x : Sh) (cs : List Int) (hm : (cs.length : Int) = x.m) (hc : ∀ c ∈ cs, 0 ≤ c ∧ c ≤ 3) : Z138 K A [x.d A, nD cs] = .ok (.val (.at .non)) [x.d A, nD cs] := v_cc _ _ _ _ _ cs hm hc
theorem Z625 (w : Int) (cs : List Int) (x : Sh) (hc : ∀ c ∈ cs, 0 ≤ c ∧ c ≤ 3) (hw : ∀ p ∈ x.ks, p.1 ≠ w) (h1 : x.ms.length < 800000) (h2 : x.ls.length < 800000) (h4 : cs.length ≤ 4) :
  loopG (itE 9 8 []) (tgT (tgC (asgD 4) (tgC (asgD 5) tgN))) (Z290 K A) (cs.length + 1) 0 (fiS A w cs (x, []) .non .non) = .nx (fiS A w cs (fillJ w cs x cs.length) .non .non) := by
 obtain ⟨s', lp, rfl⟩ := Z309 (n := 9) (k := 8) (p := []) (l := cs.map aI) (m := true) (b := tgT (tgC (asgD 4) (tgC (asgD 5) tgN))) (body := Z290 K A) (s := fiS A w cs (x, []) .non .non)
  (fun j s => s = fiS A w cs (fillJ w cs x j) .non .non) rfl (by rintro i s rfl; exact ⟨rfl, rfl⟩) (by
  rintro i s d hd rfl
  have hi := (List.getElem?_eq_some_iff.mp hd).1
  rw [List.length_map] at hi
  rw [List.getElem?_map, List.getElem?_eq_getElem hi] at hd
  cases hd
  have hci := hc cs[i] (List.getElem_mem hi)
  have eg : cs.getD i 0 = cs[i] := by rw [List.getD_eq_getElem?_getD, List.getElem?_eq_getElem hi]; rfl
  obtain ⟨l1, l2, l3⟩ := Z152 w cs x hc i
  have ec : ((cs[i].toNat : Nat) : Int) = cs[i] := by omega
  have st := Z623 (K := K) (A := A) w cs (fillJ w cs x i) i cs[i].toNat (by omega) (by omega) (Z199 (by
   rw [Z151]
   simp only [List.map_append, List.mem_append, List.mem_map, not_or]
   refine ⟨?_, ?_⟩
   ·rintro ⟨p, hp, e⟩
    simp only [kW, List.cons.injEq, Sum.inl.injEq] at e
    exact hw p hp e.1
   ·rintro ⟨p, ⟨q, hq, rfl⟩, e⟩
    simp only [kW, List.cons.injEq, Sum.inl.injEq, and_true, true_and] at e
    simp only [List.mem_range] at hq
    omega)) (by omega) (by omega)
  rw [ec] at st
  refine ⟨rfl, _, _, rfl, .inl st, ?_⟩
  simp only [fillJ, eg])
 rw [List.length_map] at lp
 exact lp
theorem Z622 (w : Int) (cs : List Int) (x : Sh) (hm : (cs.length : Int) = x.m) (hc : ∀ c ∈ cs, 0 ≤ c ∧ c ≤ 3) (hw : ∀ p ∈ x.ks, p.1 ≠ w) (h1 : x.ms.length < 800000) (h2 : x.ls.length < 800000) (h4 : cs.length ≤ 4) :
  Z140 K A [x.d A, aI w, nD cs] = .ok (.val (nD (fillJ w cs x cs.length).2)) [(fillJ w cs x cs.length).1.d A, aI w, nD cs] := by
 have lp := Z625 (K := K) (A := A) w cs x hc hw h1 h2 h4
 have cc := v_ccS (K := K) (A := A) x cs hm hc
 have o1 := Sh.obj (A := A) x "check_counts" Z190
 have o2 : ∀ x : Sh, (x.d A).imm = false := fun x => x.imm
 clear hm hc hw h1 h2 h4
 simp only [fiS, show nD [] = D.nd (.lst true) [] from rfl] at lp
 unfold Z140 Z13
 walk_at "evs"
theorem v_num (x : Sh) (n : Int) (h1 : 1 ≤ n) (h2 : n ≤ x.ms.length) : Z139 K A [x.d A, aI n] = .ok (.val (.at .non)) [x.d A, aI n] := by
 obtain ⟨m, ms, ks, ls, gk⟩ := x
 have e1 : ¬ n < 1 := by omega
 have e2 : ¬ n > (ms.length : Int) := by dsimp only at h2; omega
 clear h1 h2
 unfold Z139 Z12 Sh.d
 walk_at "evs"
noncomputable def inG (n : Int) (gk : List Int) : Bool := decide (n ∈ gk)
theorem Z201 {κ : Type} [DecidableEq κ] {k : κ} {ks : List κ} (h : k ∈ ks) : ∃ j, idk k ks = some j ∧ ks[j]? = some k := by
 unfold idk
 cases e : List.findIdx? (fun x => decide (x = k)) ks with
 | none =>
  rw [List.findIdx?_eq_none_iff] at e
  exact absurd (e k h) (by simp)
 | some j =>
  refine ⟨j, rfl, ?_⟩
  obtain ⟨h1, h2, _⟩ := List.findIdx?_eq_some_iff_getElem.mp e
  rw [List.getElem?_eq_getElem h1]
  simpa using h2
theorem Z198 (n : Int) (gk : List Int) : (idk (kG n) (gk.map kG)).isSome = inG n gk := by
 unfold inG
 by_cases h : n ∈ gk
 ·obtain ⟨j, e, _⟩ := Z201 (k := kG n) (ks := gk.map kG) (List.mem_map.mpr ⟨n, h, rfl⟩)
  rw [e]; simp [h]
 ·rw [Z199 (by
   rintro z
   obtain ⟨y, hy, e⟩ := List.mem_map.mp z
   cases e
   exact h hy)]
  simp [h]
theorem Z628 (x : Sh) (n : Int) (k w : Int) (h1 : 1 ≤ n) (h2 : n ≤ x.ms.length) (h3 : x.ms[(n - 1).toNat]? = some (k, w)) : Z141 K A [x.d A, aI n] = .ok (.val (.nd .tup [aI k, aI w, .at (.bl (inG n x.gk))])) [x.d A, aI n] := by
 have hn := v_num (K := K) (A := A) x n h1 h2
 have o1 := Sh.obj (A := A) x "check_number" Z191
 have o2 := x.imm (A := A)
 obtain ⟨m, ms, ks, ls, gk⟩ := x
 have e1 : (ms.map duo)[(n - 1).toNat]? = some (.nd .tup [aI k, aI w]) := by
  rw [List.getElem?_map]
  dsimp only at h3
  rw [h3]; rfl
 have e2 : ixN ms.length (n - 1) = some (n - 1).toNat := by
  dsimp only at h2
  unfold ixN; rw [if_pos (by omega), if_pos (by omega)]
 have e3 := Z198 n gk
 clear h1 h2 h3
 unfold Z141 Z14
 simp only [Sh.d] at hn o1 o2 ⊢
 walk_at "evs"
theorem Z185 (cs : List Int) (hl : cs.length ≤ 1000) (h : ∀ c ∈ cs, c.natAbs < 2 ^ 64) : hRepr [nD cs] = some (.at (.str (shownL cs))) := by
 show (match intsD (cs.map aI) with | some ns => if ns.length ≤ 1000 ∧ ∀ n ∈ ns, n.natAbs.log2 < 1920 then some (D.at (.str (shownL ns))) else none | none => none) = _
 rw [Z213]
 dsimp only
 rw [if_pos ⟨hl, fun n hn => Z356 (h n hn)⟩]
theorem Z612 (x : Sh) (cs : List Int) (hm : ¬ (cs.length : Int) = x.m) (hl : cs.length ≤ 1000) (h : ∀ c ∈ cs, c.natAbs < 2 ^ 64) : Z138 K A [x.d A, nD cs] = .ex "BadCounts" [x.d A, nD cs] := by
 have hr := Z185 cs hl h
 obtain ⟨m, ms, ks, ls, gk⟩ := x
 dsimp only at hm
 clear h hl
 unfold Z138 Z11 Sh.d
 walk_at "evs"
noncomputable abbrev ccS (A : Adr) (x : Sh) (cs : List Int) (s2 : DL) : Sd := [.bor 3 [], .bor 4 [], s2, .own false (x.d A), .own false (nD cs), .bor 4 []]
theorem Z609 (x : Sh) (cs : List Int) (c : Int) (h1 : 0 ≤ c) (h2 : c ≤ 3) : Z289 K A (ccS A x cs (.own true (aI c))) = .nx (ccS A x cs .non) := by
 have e1 : ¬ c < 0 := by omega
 have e2 : ¬ c > 3 := by omega
 clear h1 h2
 unfold Z289
 simp only [ccS]
 walk_at "evs"
theorem Z610 (x : Sh) (cs : List Int) (c : Int) (hc : c < 0 ∨ c > 3) (hl : cs.length ≤ 1000) (h : ∀ c ∈ cs, c.natAbs < 2 ^ 64) : Z289 K A (ccS A x cs (.own true (aI c))) = .ex "BadCounts" (ccS A x cs (.own true (aI c))) := by
 have hr := Z185 cs hl h
 clear h hl
 unfold Z289
 simp only [ccS]
 by_cases e1 : c < 0
 ·clear hc
  walk_at "evs"
 ·have e2 : c > 3 := by omega
  clear hc
  walk_at "evs"
theorem Z312 {it : Nat → Sd → Option (Option DV)} {b : Sd → DV → Option Sd} {body : SF} {P : Nat → Sd → Prop} {n : Nat} {C : Str} {s' : Sd}
  (hs : ∀ i s, i < n → P i s → ∃ r s1 s2, it i s = some (some r) ∧ b s r = some s1 ∧ (body s1 = .nx s2 ∨ body s1 = .ct s2) ∧ P (i + 1) s2) (he : ∀ s, P n s → ∃ r s1, it n s = some (some r) ∧ b s r = some s1 ∧ body s1 = .ex C s') :
  ∀ k i m s, i + k = n → P i s → loopG it b body (k + 1 + m) i s = .ex C s'
 | 0, i, m, s, hi, h => by
  have : i = n := by omega
  subst this
  obtain ⟨r, s1, h1, h2, h3⟩ := he s h
  rw [show 0 + 1 + m = m + 1 by omega, loopG, h1]
  dsimp only
  rw [h2]
  dsimp only
  rw [h3]
 | k + 1, i, m, s, hi, h => by
  obtain ⟨r, s1, s2, h1, h2, h3, h4⟩ := hs i s (by omega) h
  have h5 := Z312 hs he k (i + 1) m s2 (by omega) h4
  rw [show k + 1 + 1 + m = (k + 1 + m) + 1 by omega, loopG, h1]
  dsimp only
  rw [h2]
  dsimp only
  rcases h3 with h3 | h3 <;> rw [h3] <;> exact h5
theorem Z613 (x : Sh) (cs : List Int) (hm : (cs.length : Int) = x.m) (hb : ¬ ∀ c ∈ cs, 0 ≤ c ∧ c ≤ 3) (hl : cs.length ≤ 1000) (h : ∀ c ∈ cs, c.natAbs < 2 ^ 64) : Z138 K A [x.d A, nD cs] = .ex "BadCounts" [x.d A, nD cs] := by
 obtain ⟨n, hn, h1, h2⟩ : ∃ n, ∃ hn : n < cs.length, (cs[n] < 0 ∨ cs[n] > 3) ∧ ∀ i (hi : i < n), 0 ≤ cs[i]'(by omega) ∧ cs[i]'(by omega) ≤ 3 := by
  have key : ∀ l : List Int, (¬ ∀ c ∈ l, 0 ≤ c ∧ c ≤ 3) → ∃ n, ∃ hn : n < l.length, (l[n] < 0 ∨ l[n] > 3) ∧ ∀ i (hi : i < n), 0 ≤ l[i]'(by omega) ∧ l[i]'(by omega) ≤ 3 := by
   intro l
   induction l with
   | nil => intro h; exact absurd (fun c hc => by cases hc) h
   | cons c l ih =>
    intro h
    by_cases hc : 0 ≤ c ∧ c ≤ 3
    ·obtain ⟨n, hn, h1, h2⟩ := ih (fun z => h fun d hd => by
      rcases List.mem_cons.mp hd with rfl | hd
      ·exact hc
      ·exact z d hd)
     refine ⟨n + 1, by simpa using hn, by simpa using h1, fun i hi => ?_⟩
     cases i with
     | zero => exact hc
     | succ i => simpa using h2 i (by omega)
    ·exact ⟨0, by simp, by simp; omega, fun i hi => absurd hi (Nat.not_lt_zero _)⟩
  exact key cs hb
 have it : ∀ i s, s = ccS A x cs .non → itP false 5 4 [] i s = some ((cs.map aI)[i]?.map (mkV 4 ([] ++ [i]))) := by
  rintro i s rfl
  unfold itP
  rw [if_pos (by simp [held])]
  rfl
 have lp := Z312 (it := itP false 5 4 []) (b := asgD 2) (body := Z289 K A) (P := fun i s => s = ccS A x cs .non) (n := n) (C := "BadCounts") (s' := ccS A x cs (.own true (aI cs[n])))
  (by
   rintro i s hi rfl
   refine ⟨.val (aI (cs[i]'(by omega))), _, _, ?_, rfl, .inl (Z609 x cs (cs[i]'(by omega)) (h2 i hi).1 (h2 i hi).2), rfl⟩
   rw [it i _ rfl, List.getElem?_map, List.getElem?_eq_getElem (by omega)]; rfl)
  (by
   rintro s rfl
   refine ⟨.val (aI cs[n]), _, ?_, rfl, Z610 x cs cs[n] h1 hl h⟩
   rw [it n _ rfl, List.getElem?_map, List.getElem?_eq_getElem hn]; rfl)
  n 0 (cs.length - n) (ccS A x cs .non) (by omega) rfl
 rw [show n + 1 + (cs.length - n) = cs.length + 1 by omega] at lp
 generalize cs[n] = c at lp
 obtain ⟨m, ms, ks, ls, gk⟩ := x
 dsimp only at hm
 simp only [ccS, Sh.d] at lp
 clear h hl hb h1 h2 it
 unfold Z138 Z11 Sh.d
 walk_at "evs"
noncomputable def good (m : Int) (cs : List Int) : Prop := (cs.length : Int) = m ∧ ∀ c ∈ cs, 0 ≤ c ∧ c ≤ 3
theorem Z611 (x : Sh) (cs : List Int) (hb : ¬ good x.m cs) (hl : cs.length ≤ 1000) (h : ∀ c ∈ cs, c.natAbs < 2 ^ 64) : Z138 K A [x.d A, nD cs] = .ex "BadCounts" [x.d A, nD cs] := by
 by_cases hm : (cs.length : Int) = x.m
 ·exact Z613 x cs hm (fun z => hb ⟨hm, z⟩) hl h
 ·exact Z612 x cs hm hl h
theorem Z624 (x : Sh) (w : Int) (cs : List Int) (hb : ¬ good x.m cs) (hl : cs.length ≤ 1000) (h : ∀ c ∈ cs, c.natAbs < 2 ^ 64) : Z140 K A [x.d A, aI w, nD cs] = .ex "BadCounts" [x.d A, aI w, nD cs] := by
 have cc := Z611 (K := K) (A := A) x cs hb hl h
 have o1 := Sh.obj (A := A) x "check_counts" Z190
 have o2 : ∀ x : Sh, (x.d A).imm = false := fun x => x.imm
 clear hb hl h
 unfold Z140 Z13
 walk_at "evs"
theorem Z654 (x : Sh) (n : Int) (h : n < 1 ∨ n > x.ms.length) (hz : n.natAbs < 2 ^ 64) : Z139 K A [x.d A, aI n] = .ex "UnknownFolder" [x.d A, aI n] := by
 have hl := Z356 hz
 obtain ⟨m, ms, ks, ls, gk⟩ := x
 dsimp only at h
 unfold Z139 Z12 Sh.d
 by_cases e1 : n < 1
 ·clear h hz
  walk_at "evs"
 ·have e2 : n > (ms.length : Int) := by omega
  clear h hz
  walk_at "evs"
theorem Z629 (x : Sh) (n : Int) (h : n < 1 ∨ n > x.ms.length) (hz : n.natAbs < 2 ^ 64) : Z141 K A [x.d A, aI n] = .ex "UnknownFolder" [x.d A, aI n] := by
 have hn := Z654 (K := K) (A := A) x n h hz
 have o1 := Sh.obj (A := A) x "check_number" Z191
 have o2 := x.imm (A := A)
 clear h hz
 unfold Z141 Z14
 walk_at "evs"
theorem Z647 (x : Sh) (n : Int) (h : n < 1 ∨ n > x.ms.length) (hz : n.natAbs < 2 ^ 64) : Z142 K A [x.d A, aI n] = .ex "UnknownFolder" [x.d A, aI n] := by
 have hn := Z654 (K := K) (A := A) x n h hz
 have o1 := Sh.obj (A := A) x "check_number" Z191
 have o2 := x.imm (A := A)
 clear h hz
 unfold Z142 Z15
 walk_at "evs"
theorem Z653 (x : Sh) (n : Int) (h : n < 1 ∨ n > x.ms.length) (hz : n.natAbs < 2 ^ 64) : Z149 K A [x.d A, aI n] = .ok (.val bT) [x.d A, aI n] := by
 have h1 := Z629 (K := K) (A := A) x n h hz
 have h2 := Z647 (K := K) (A := A) x n h hz
 have o1 := Sh.obj (A := A) x "folder" Z193
 have o3 := Sh.obj (A := A) x "lose" Z195
 have o2 := x.imm (A := A)
 clear h hz
 unfold Z149 Z22
 walk_at "evs"
noncomputable abbrev drS (f0 f1 f2 f3 f4 f5 m : Int) (s2 s3 s4 s5 : DL) : Sd := [.bor 6 [], .own true (aI m), s2, s3, s4, s5, .own false (nD [f0, f1, f2, f3, f4, f5]), .non]
noncomputable abbrev dElt (K : PySem.W.Frag) (n1 : Nat) : EF := (eNw hMod (aCons (eCh (hIx K) (aCons (eVar 0) (aCons (eVar n1) aNil))) (aCons (eC (.int (4))) aNil)))
theorem Z615 (f0 f1 f2 f3 f4 f5 m z c : Int) (j : Nat) (e1 : ([aI f0, aI f1, aI f2, aI f3, aI f4, aI f5] : List D)[j]? = some (aI c)) (e2 : ixN 6 z = some j) :
  dElt K 8 (drS f0 f1 f2 f3 f4 f5 m .non .non .non .non ++ [.own true (aI z)]) = .ok (.val (aI (c % 4))) (drS f0 f1 f2 f3 f4 f5 m .non .non .non .non ++ [.own true (aI z)]) := by
 simp only [dElt, drS]
 walk_at "evs"
noncomputable def Nw (y : DL) : Prop := y = .non ∨ ∃ n : Int, y = .own true (aI n)
theorem Nw.u {y : DL} (h : Nw y) (j : Nat) : unrootD j y = y := by rcases h with rfl | ⟨n, rfl⟩ <;> rfl
theorem Z614 (f0 f1 f2 f3 f4 f5 : Int) (m : Nat) (hm : m ≤ 4) : ∃ l : List Int, l.length = m ∧ (∀ c ∈ l, 0 ≤ c ∧ c ≤ 3) ∧
  sAsg (eCompR1 (eVar 1) (fun _ => bYes) (fun n1 => dElt K n1)) (asgD 2) (drS f0 f1 f2 f3 f4 f5 m .non .non .non .non) = .nx (drS f0 f1 f2 f3 f4 f5 m (.own true (nD l)) .non .non .non) := by
 obtain ⟨acc, s', h1, y, l, hy, hl1, hl2, rfl, rfl⟩ := Z50 (it := itR 0 m) (n := 8) (c := bYes) (e := dElt K 8) (N := m)
  (P := fun j acc s => ∃ (y : DL) (l : List Int), Nw y ∧ l.length = j ∧ (∀ c ∈ l, 0 ≤ c ∧ c ≤ 3) ∧ acc = l.map aI ∧ s = drS f0 f1 f2 f3 f4 f5 m .non .non .non .non ++ [y])
  (by
   rintro j acc s hj ⟨y, l, hy, hl1, hl2, rfl, rfl⟩
   have hc : ∃ c : Int, ([aI f0, aI f1, aI f2, aI f3, aI f4, aI f5] : List D)[j]? = some (aI c) := by
    match j, (show j < 4 by omega) with
    | 0, _ => exact ⟨f0, rfl⟩
    | 1, _ => exact ⟨f1, rfl⟩
    | 2, _ => exact ⟨f2, rfl⟩
    | 3, _ => exact ⟨f3, rfl⟩
   obtain ⟨c, hc⟩ := hc
   have st := Z615 (K := K) f0 f1 f2 f3 f4 f5 m (0 + j) c j hc (by unfold ixN; rw [if_pos (by omega), if_pos (by omega)]; congr 1; omega)
   refine ⟨.val (aI (0 + j)), drS f0 f1 f2 f3 f4 f5 m .non .non .non .non ++ [.own true (aI (0 + j))], ?_, ?_, .inl ⟨_, aI (c % 4), _, rfl, st, ?_, _, l ++ [c % 4], .inr ⟨_, rfl⟩, by rw [List.length_append, hl1]; rfl, fun d hd => ?_, by simp, rfl⟩⟩
   ·unfold itR; rw [if_pos hj]
   ·simp only [asgD, drS, List.cons_append, List.nil_append, List.map_cons, List.map_nil, Z608, Z607, Z606, hy.u, List.set_cons_succ, List.set_cons_zero, Nat.reduceEqDiff, if_false]
   ·rw [List.length_map, sz]; omega
   ·rcases List.mem_append.mp hd with hd | hd
    ·exact hl2 d hd
    ·rw [List.mem_singleton.mp hd]; omega)
  (by
   rintro acc s ⟨y, l, hy, hl1, hl2, rfl, rfl⟩
   unfold itR; rw [if_neg (Nat.lt_irrefl _)])
  m 0 [] (drS f0 f1 f2 f3 f4 f5 m .non .non .non .non ++ [.non]) (by omega) ⟨.non, [], .inl rfl, rfl, (by intro c h; cases h), rfl, rfl⟩
 refine ⟨l, hl1, hl2, ?_⟩
 have b1 : (m : Int) < 4611686018427387904 := by omega
 have b2 : -4611686018427387904 ≤ (m : Int) := by omega
 have uy := hy.u
 simp only [drS, List.cons_append, List.nil_append] at h1
 clear hm hy hl1 hl2
 generalize he : dElt K = g at h1
 clear he
 simp only [drS]
 walk_at "evs"
theorem Z616 (f0 f1 f2 f3 f4 f5 m s b : Int) (l q : List Int) (hl : l.length ≤ 4) (hl2 : ∀ c ∈ l, 0 ≤ c ∧ c ≤ 3) (hq : q.length ≤ 4) (hq2 : ∀ c ∈ q, c.natAbs < 2 ^ 64) : ∃ (r : DV) (cs : List Int), cs.length ≤ 5 ∧ (∀ c ∈ cs, c.natAbs < 2 ^ 64) ∧
  Z576 K A (drS f0 f1 f2 f3 f4 f5 m (.own true (nD l)) (.own true (aI s)) (.own true (nD [b])) (.own true (nD q))) = .rt r (drS f0 f1 f2 f3 f4 f5 m (.own true (nD l)) (.own true (aI s)) (.own true (nD [b])) (.own true (nD q))) ∧ (r = .val (nD cs) ∨ r = .plc 5 [] ∧ cs = q) := by
 have i1 := imI l
 have b1 : l.length + 1 ≤ 16777216 := by omega
 have sm : ∀ c : Int, 0 ≤ c ∧ c ≤ 3 → c.natAbs < 2 ^ 64 := fun c h => by omega
 have : f5 / 6 % 5 = 0 ∨ f5 / 6 % 5 = 1 ∨ f5 / 6 % 5 = 2 ∨ f5 / 6 % 5 = 3 ∨ f5 / 6 % 5 = 4 := by omega
 unfold Z576
 simp only [drS]
 rcases this with h | h | h | h | h
 ·refine ⟨.val (nD (l ++ [f4 % 4])), l ++ [f4 % 4], by simp; omega, fun c hc => ?_, ?_, .inl rfl⟩
  ·rcases List.mem_append.mp hc with hc | hc
   ·exact sm c (hl2 c hc)
   ·rw [List.mem_singleton.mp hc]; exact sm _ (by omega)
  ·clear hl hl2 hq hq2 sm
   walk_at "evs"
   simp
 ·refine ⟨.val (nD (l.drop 1)), l.drop 1, by simp; omega, fun c hc => sm c (hl2 c (List.mem_of_mem_drop hc)), ?_, .inl rfl⟩
  clear hl hl2 hq hq2 sm
  walk_at "evs"
  simp
 ·refine ⟨.val (nD []), [], by simp, (by intro c hc; cases hc), ?_, .inl rfl⟩
  clear hl hl2 hq hq2 sm
  walk_at "evs"
  rfl
 ·refine ⟨.plc 5 [], q, by omega, hq2, ?_, .inr ⟨rfl, rfl⟩⟩
  clear hl hl2 hq hq2 sm
  walk_at "evs"
 ·refine ⟨.plc 5 [], q, by omega, hq2, ?_, .inr ⟨rfl, rfl⟩⟩
  clear hl hl2 hq hq2 sm
  walk_at "evs"
noncomputable def badN (f4 : Int) : Int := match f4 / 4 % 4 with | 0 => -1 | 1 => 4 | 2 => 1000000 | _ => -7
theorem Z23 (f4 : Int) : ixN 4 (f4 / 4 % 4) = some (f4 / 4 % 4).toNat ∧ ([aI (-1), aI 4, aI 1000000, aI (-7)] : List D)[(f4 / 4 % 4).toNat]? = some (aI (badN f4)) ∧ (badN f4).natAbs < 2 ^ 64 := by
 refine ⟨by unfold ixN; rw [if_pos (by omega), if_pos (by omega)], ?_⟩
 have : f4 / 4 % 4 = 0 ∨ f4 / 4 % 4 = 1 ∨ f4 / 4 % 4 = 2 ∨ f4 / 4 % 4 = 3 := by omega
 unfold badN
 rcases this with h | h | h | h <;> rw [h] <;> exact ⟨rfl, by decide⟩
theorem Z617 (f0 f1 f2 f3 f4 f5 : Int) (m : Nat) (hm1 : 1 ≤ m) (hm : m ≤ 4) : ∃ cs : List Int, cs.length ≤ 5 ∧ (∀ c ∈ cs, c.natAbs < 2 ^ 64) ∧
  Z145 K A [nD [f0, f1, f2, f3, f4, f5], aI m] = .ok (.val (nD cs)) [nD [f0, f1, f2, f3, f4, f5], aI m] := by
 obtain ⟨l, hl1, hl2, hc⟩ := Z614 (K := K) f0 f1 f2 f3 f4 f5 m hm
 have sm : ∀ c : Int, 0 ≤ c ∧ c ≤ 3 → c.natAbs < 2 ^ 64 := fun c h => by omega
 have fin : ∃ (r : DV) (cs : List Int) (s' : Sd), cs.length ≤ 5 ∧ (∀ c ∈ cs, c.natAbs < 2 ^ 64) ∧ Z575 K A (drS f0 f1 f2 f3 f4 f5 m (.own true (nD l)) .non .non .non) = .rt r s' ∧
   ends 6 [false, false] [nD [f0, f1, f2, f3, f4, f5], aI m] r s' = .ok (.val (nD cs)) [nD [f0, f1, f2, f3, f4, f5], aI m] := by
  by_cases h6 : f5 % 6 = 1
  ·have q1 : 0 ≤ f4 % (m : Int) := Int.emod_nonneg _ (by omega)
   have q2 : f4 % (m : Int) < m := Int.emod_lt_of_pos _ (by omega)
   obtain ⟨b1, b2, b3⟩ := Z23 f4
   obtain ⟨k, hk⟩ : ∃ k, k = (f4 % (m : Int)).toNat := ⟨_, rfl⟩
   have hk2 : (f4 % (m : Int) + 1).toNat = k + 1 := by omega
   have e1 : ((l.map aI).take (f4 % (m : Int)).toNat ++ [aI (badN f4)]) ++ (l.map aI).drop (f4 % (m : Int) + 1).toNat = (l.take k ++ [badN f4] ++ l.drop (k + 1)).map aI := by
    rw [hk2, ← hk]; simp
   obtain ⟨r, cs, h1, h2, h3, h4⟩ := Z616 (K := K) (A := A) f0 f1 f2 f3 f4 f5 m (f4 % (m : Int)) (badN f4) l (l.take k ++ [badN f4] ++ l.drop (k + 1)) (by omega) hl2 (by simp; omega) (fun c hc => by
    simp only [List.mem_append, List.mem_singleton] at hc
    rcases hc with (hc | hc) | hc
    ·exact sm c (hl2 c (List.mem_of_mem_take hc))
    ·rw [hc]; exact b3
    ·exact sm c (hl2 c (List.mem_of_mem_drop hc)))
   refine ⟨r, cs, drS f0 f1 f2 f3 f4 f5 m (.own true (nD l)) (.own true (aI (f4 % (m : Int)))) (.own true (nD [badN f4])) (.own true (nD (l.take k ++ [badN f4] ++ l.drop (k + 1)))), h1, h2, ?_, ?_⟩
   ·have i1 := imI l
    have i2 : D.imms ((l.map aI).take (f4 % (m : Int)).toNat) = true := by rw [← List.map_take]; exact imI _
    have i3 : D.imms ((l.map aI).drop (f4 % (m : Int) + 1).toNat) = true := by rw [← List.map_drop]; exact imI _
    have i4 : D.imms ((l.map aI).take (f4 % (m : Int)).toNat ++ [aI (badN f4)]) = true := by rw [← List.map_take, show [aI (badN f4)] = [badN f4].map aI from rfl, ← List.map_append]; exact imI _
    have z1 : ((l.map aI).take (f4 % (m : Int)).toNat).length + 1 ≤ 16777216 := by simp; omega
    have z2 : ((l.map aI).take (f4 % (m : Int)).toNat).length + 1 + ((l.map aI).drop (f4 % (m : Int) + 1).toNat).length ≤ 16777216 := by simp; omega
    have p1 : (0 : Int) < m := by omega
    have p2 : 0 ≤ f4 % (m : Int) + 1 := by omega
    simp only [drS, show nD [badN f4] = D.nd (.lst true) [aI (badN f4)] from rfl] at h3
    clear h1 h2 h4 hl1 hl2 hc sm hk hk2 b3 q2 hm hm1
    unfold Z575
    simp only [drS]
    walk_at "evs"
    rfl
   ·rcases h4 with rfl | ⟨rfl, rfl⟩ <;> rfl
  ·refine ⟨.plc 2 [], l, drS f0 f1 f2 f3 f4 f5 m (.own true (nD l)) .non .non .non, by omega, fun c hc => sm c (hl2 c hc), ?_, ?_⟩
   ·clear hl1 hl2 hc sm hm hm1
    unfold Z575
    simp only [drS]
    walk_at "evs"
   ·rfl
 obtain ⟨r, cs, s', h1, h2, h3, h4⟩ := fin
 refine ⟨cs, h1, h2, ?_⟩
 unfold Z145 Z18
 rw [Z125]
 have e0 : ini 6 [false, false] [nD [f0, f1, f2, f3, f4, f5], aI m] = drS f0 f1 f2 f3 f4 f5 m .non .non .non .non := rfl
 simp only [dElt] at hc
 rw [e0, Z127, hc]
 dsimp only
 rw [h3]
 exact h4
theorem dt_nD (l : List Int) (h : l.length < 16777216) : DtN 3 (nD l) := dt_up (Z78 (by rw [List.length_map, sz]; exact h) fun x hx => by
 obtain ⟨i, _, rfl⟩ := List.mem_map.mp hx
 exact Z77)
noncomputable abbrev refD (s : Str) : D := .nd .tup [.at (.str "refused"), .at (.str s)]
theorem Z626 (w : Int) (cs : List Int) (x : Sh) (hg : good x.m cs) (hw : ∀ p ∈ x.ks, p.1 ≠ w) (h1 : x.ms.length < 800000) (h2 : x.ls.length < 800000) (h4 : cs.length ≤ 4) :
  Z147 K A [x.d A, aI w, nD cs] = .ok (.val (nD (fillJ w cs x cs.length).2)) [(fillJ w cs x cs.length).1.d A, aI w, nD cs] := by
 have hf := Z622 (K := K) (A := A) w cs x hg.1 hg.2 hw h1 h2 h4
 have hs := Z655 (A := A) (dt_nD cs (by omega))
 have o1 := Sh.obj (A := A) x "fill" Z192
 have o2 : ∀ x : Sh, (x.d A).imm = false := fun x => x.imm
 have i1 := imI cs
 have b1 : cs.length < 16777216 := by omega
 clear hg hw h1 h2 h4
 unfold Z147 Z20 Z577
 walk_at "evs"
theorem Z627 (w : Int) (cs : List Int) (x : Sh) (hb : ¬ good x.m cs) (hl : cs.length ≤ 1000) (h : ∀ c ∈ cs, c.natAbs < 2 ^ 64) :
  Z147 K A [x.d A, aI w, nD cs] = .ok (.val (refD "bad counts")) [x.d A, aI w, nD cs] := by
 have hf := Z624 (K := K) (A := A) x w cs hb hl h
 have hs := Z655 (A := A) (dt_nD cs (by omega))
 have o1 := Sh.obj (A := A) x "fill" Z192
 have o2 : ∀ x : Sh, (x.d A).imm = false := fun x => x.imm
 have i1 := imI cs
 have b1 : cs.length < 16777216 := by omega
 have sn : ¬ (Str.ofString "bad counts" = Str.ofString "") := by decide
 clear hb hl h
 unfold Z147 Z20 Z577
 walk_at "evs"
noncomputable abbrev tr3 (p : Int × Int) : D := .nd .tup [aI p.1, aI p.2, .at (.bl false)]
noncomputable abbrev mdD (ms : List (Int × Int)) : D := .nd (.lst true) (ms.map tr3)
theorem Z80 (a b : Int) (c : Bool) : DtN 3 (.nd .tup [aI a, aI b, .at (.bl c)]) := dt_up (Z81 (by rw [sz]; simp) fun x hx => by
 simp only [List.mem_cons, List.not_mem_nil, or_false] at hx
 rcases hx with rfl | rfl | rfl
 ·exact Z77
 ·exact Z77
 ·exact dt_bl)
noncomputable abbrev kpS (A : Adr) (x : Sh) (s2 s3 : DL) (t : List DL) : Sd := .bor 4 [] :: .bor 5 [] :: s2 :: s3 :: .own true (x.d A) :: .own false (mdD x.ms) :: t
theorem Z632 (x : Sh) (n : Int) (l : D) (h : n < 1 ∨ n > x.ms.length) (hz : n.natAbs < 2 ^ 64) : Z293 K A (kpS A x (.own true (aI n)) .non [.own true l]) = .nx (kpS A x .non .non [.own true l]) := by
 have hm := Z653 (K := K) (A := A) x n h hz
 have o2 : ∀ x : Sh, (x.d A).imm = false := fun x => x.imm
 have o3 : (mdD x.ms).imm = false := rfl
 clear h hz
 unfold Z293
 simp only [kpS]
 walk_at "evs"
theorem Z633 (x : Sh) (z : Int) (j : Nat) (hg : x.gk = []) (hj : j < x.ms.length) (hz : z = j) : Z294 K A (kpS A x .non (.own true (aI z)) []) = .nx (kpS A x .non .non []) := by
 obtain ⟨a, b, e0⟩ : ∃ a b, x.ms[j]? = some (a, b) := ⟨x.ms[j].1, x.ms[j].2, by rw [List.getElem?_eq_getElem hj]⟩
 have e1 : (x.ms.map tr3)[j]? = some (.nd .tup [aI a, aI b, .at (.bl false)]) := by rw [List.getElem?_map, e0]; rfl
 have e2 : ixN x.ms.length z = some j := by unfold ixN; rw [if_pos (by omega), if_pos (by omega)]; congr 1; omega
 have hf := Z628 (K := K) (A := A) x (z + 1) a b (by omega) (by omega) (by rw [show (z + 1 - 1).toNat = j by omega, e0])
 rw [show inG (z + 1) x.gk = false by rw [hg]; simp [inG]] at hf
 have hs := Z655 (A := A) (Z80 a b false)
 have o1 := Sh.obj (A := A) x "folder" Z193
 have o2 : ∀ x : Sh, (x.d A).imm = false := fun x => x.imm
 have o3 : (mdD x.ms).imm = false := rfl
 clear hj hz e0 hg
 unfold Z294
 simp only [kpS]
 walk_at "evs"
theorem Z631 (x : Sh) (hg : x.gk = []) (hl : x.ms.length < 900000) : Z148 K A [x.d A, mdD x.ms] = .ok (.val bT) [x.d A, mdD x.ms] := by
 obtain ⟨L, hL⟩ : ∃ L : List D, L = [aI 0, aI (-1), aI ((x.ms.length : Int) + 1), aI ((x.ms.length : Int) + 1000000)] := ⟨_, rfl⟩
 obtain ⟨s1, h1, rfl⟩ := Z310 (t := false) (n := 6) (k := 6) (p := []) (l := L) (kd := .lst true) (b := asgD 2) (body := Z293 K A) (s := kpS A x .non .non [.own true (.nd (.lst true) L)]) (.inl ⟨rfl, true, rfl⟩)
  (fun _ s => s = kpS A x .non .non [.own true (.nd (.lst true) L)]) rfl (by rintro i s rfl; exact ⟨rfl, rfl⟩) (by
  rintro i s c hc rfl
  have : ∃ a : Int, c = aI a ∧ (a < 1 ∨ a > x.ms.length) ∧ a.natAbs < 2 ^ 64 := by
   rw [hL] at hc
   match i, hc with
   | 0, hc => cases hc; exact ⟨0, rfl, by omega, by decide⟩
   | 1, hc => cases hc; exact ⟨-1, rfl, by omega, by decide⟩
   | 2, hc => cases hc; exact ⟨_, rfl, by omega, by omega⟩
   | 3, hc => cases hc; exact ⟨_, rfl, by omega, by omega⟩
   | i + 4, hc => simp at hc
  obtain ⟨a, rfl, q1, q2⟩ := this
  exact ⟨_, _, rfl, .inl (Z632 x a _ q1 q2), rfl⟩)
 obtain ⟨s2, h2, rfl⟩ := Z311 (lo := 0) (n := x.ms.length) (b := asgD 3) (body := Z294 K A) (s := kpS A x .non .non [])
  (fun _ s => s = kpS A x .non .non []) rfl (by
  rintro j s hj rfl
  exact ⟨_, _, rfl, .inl (Z633 x (0 + j) j hg hj (by omega)), rfl⟩)
 have o2 : ∀ x : Sh, (x.d A).imm = false := fun x => x.imm
 have o3 : (mdD x.ms).imm = false := rfl
 have b1 : (x.ms.length : Int) < 4611686018427387904 := by omega
 have b2 : -4611686018427387904 ≤ (x.ms.length : Int) := by omega
 rw [hL] at h1
 simp only [List.length_cons, List.length_nil, Nat.zero_add, Nat.reduceAdd, kpS] at h1
 simp only [kpS] at h2
 clear hg hl hL
 generalize x.ms = ms at *
 unfold Z148 Z21
 walk_at "evs"
noncomputable def swp {α : Type} (z : Int) (a b : α) : List α := if z = 0 then [a, b] else [b, a]
theorem swp0 {α : Type} (a b : α) : swp 0 a b = [a, b] := rfl
theorem swp1 {α : Type} (a b : α) : swp 1 a b = [b, a] := rfl
noncomputable abbrev lawZ (A : Adr) (k : NK) (ns : List Int) (z m m' : Int) (x x' : Sh) (M M' : List (Int × Int)) (w : Int) (s5 s6 s7 s8 s9 s10 s11 : DL) : Sd :=
 [.own true (scD k ns), .own true (.nd (.lst true) ((swp z m m').map aI)), .own true (.nd .tup ((swp z x x').map (Sh.d A))), .own true (.nd .tup ((swp z M M').map mdD)), .own true (aI w), s5, s6, s7, s8, s9, s10, s11, .non]
theorem Z639 (k : NK) (hk : Scr K k) (ns : List Int) (z m m' : Int) (hz : z = 0 ∨ z = 1) (x x' : Sh) (M M' : List (Int × Int)) (w i kd t : Int) (f cs du : List Int) (hM : M.length < 800000) (hd : du.length < 800000) :
  Z295 K A (lawZ A k ns z m m' x x' M M' w (.own true (aI i)) (.own true (nD f)) (.own true (aI z)) (.own true (nD cs)) (.own true (nD du)) (.own true (aI kd)) (.own true (aI t))) =
  .nx (lawZ A k ns z m m' x x' (M ++ [(kd, w)]) M' w (.own true (aI i)) (.own true (nD f)) (.own true (aI z)) (.own true (nD cs)) (.own true (nD (du ++ [(M.length : Int) + 1]))) (.own true (aI kd)) .non) := by
 have b1 : M.length < 16777216 := by omega
 have b2 : du.length < 16777216 := by omega
 have o2 : ∀ x : Sh, (x.d A).imm = false := fun x => x.imm
 have o3 : ∀ M, (mdD M).imm = false := fun _ => rfl
 have hki := Z552 hk ns
 clear hM hd hk
 unfold Z295
 rcases hz with rfl | rfl
 ·simp only [lawZ, swp0]
  walk_at "evs"
  simp
 ·simp only [lawZ, swp1]
  walk_at "evs"
  simp
theorem Z487 (i : Int) (n : Nat) : rg i (n + 1) = rg i n ++ [i + n] := by unfold rg; rw [List.range_succ, List.map_append]; rfl
theorem Z643 (k : NK) (hk : Scr K k) (ns : List Int) (z m m' : Int) (hz : z = 0 ∨ z = 1) (x x' : Sh) (M M' : List (Int × Int)) (w i kd : Int) (f cs du : List Int) (j c : Nat) (e0 : cs[j]? = some (c : Int)) (e2 : ixN cs.length kd = some j) (hc : c ≤ 3) (hM : M.length < 700000) (hd : du.length < 700000) :
  Z296 K A (lawZ A k ns z m m' x x' M M' w (.own true (aI i)) (.own true (nD f)) (.own true (aI z)) (.own true (nD cs)) (.own true (nD du)) (.own true (aI kd)) .non) =
  .nx (lawZ A k ns z m m' x x' (M ++ List.replicate c (kd, w)) M' w (.own true (aI i)) (.own true (nD f)) (.own true (aI z)) (.own true (nD cs)) (.own true (nD (du ++ rg (M.length + 1) c))) .non .non) := by
 obtain ⟨s', lp, rfl⟩ := Z311 (lo := 0) (n := c) (b := asgD 11) (body := Z295 K A) (s := lawZ A k ns z m m' x x' M M' w (.own true (aI i)) (.own true (nD f)) (.own true (aI z)) (.own true (nD cs)) (.own true (nD du)) (.own true (aI kd)) .non)
  (fun j s => s = lawZ A k ns z m m' x x' (M ++ List.replicate j (kd, w)) M' w (.own true (aI i)) (.own true (nD f)) (.own true (aI z)) (.own true (nD cs)) (.own true (nD (du ++ rg (M.length + 1) j))) (.own true (aI kd)) .non) (by simp [rg]) (by
  rintro j s hj rfl
  refine ⟨_, _, rfl, .inl (Z639 k hk ns z m m' hz x x' (M ++ List.replicate j (kd, w)) M' w i kd (0 + j) f cs (du ++ rg (M.length + 1) j) (by rw [List.length_append, List.length_replicate]; omega) (by rw [List.length_append, Z485]; omega)), ?_⟩
  rw [List.append_assoc, Z484, List.append_assoc, Z487, List.length_append, List.length_replicate]
  have : ((M.length + j : Nat) : Int) + 1 = (M.length : Int) + 1 + j := by omega
  rw [this])
 have e1 : (cs.map aI)[j]? = some (aI c) := by rw [List.getElem?_map, e0]; rfl
 have o2 : ∀ x : Sh, (x.d A).imm = false := fun x => x.imm
 have o3 : ∀ M, (mdD M).imm = false := fun _ => rfl
 have hki := Z552 hk ns
 have b1 : (c : Int) < 4611686018427387904 := by omega
 have b2 : -4611686018427387904 ≤ (c : Int) := by omega
 clear hM hd hk hc e0 hz
 simp only [lawZ] at lp ⊢
 unfold Z296
 walk_at "evs"
theorem Z183 (g : List Int → Int) (cs : List Int) (h : cs ≠ []) : hLst g [nD cs] = some (.at (.int (g cs))) := by
 show (match intsD (cs.map aI) with | some (n :: ns) => some (D.at (.int (g (n :: ns)))) | _ => none) = _
 rw [Z213]
 cases cs with
 | nil => exact absurd rfl h
 | cons => rfl
theorem Z646 (k : NK) (hk : Scr K k) (ns : List Int) (z m' : Int) (m : Nat) (hz : z = 0 ∨ z = 1) (x x' : Sh) (M' : List (Int × Int)) (w i : Int) (f cs : List Int) (hg : good m cs) (hm4 : m ≤ 4) (hM : x.ms.length < 600000) :
  loopG (itR 0 m) (asgD 10) (Z296 K A) (m + 1) 0 (lawZ A k ns z m m' x x' x.ms M' w (.own true (aI i)) (.own true (nD f)) (.own true (aI z)) (.own true (nD cs)) (.own true (nD [])) .non .non) =
  .nx (lawZ A k ns z m m' x x' (fillJ w cs x m).1.ms M' w (.own true (aI i)) (.own true (nD f)) (.own true (aI z)) (.own true (nD cs)) (.own true (nD (fillJ w cs x m).2)) .non .non) := by
 obtain ⟨s', lp, rfl⟩ := Z311 (lo := 0) (n := m) (b := asgD 10) (body := Z296 K A) (s := lawZ A k ns z m m' x x' x.ms M' w (.own true (aI i)) (.own true (nD f)) (.own true (aI z)) (.own true (nD cs)) (.own true (nD [])) .non .non)
  (fun j s => s = lawZ A k ns z m m' x x' (fillJ w cs x j).1.ms M' w (.own true (aI i)) (.own true (nD f)) (.own true (aI z)) (.own true (nD cs)) (.own true (nD (fillJ w cs x j).2)) .non .non) rfl (by
  rintro j s hj rfl
  have hl : cs.length = m := by have := hg.1; omega
  have hjc : j < cs.length := by omega
  have hcj := hg.2 cs[j] (List.getElem_mem hjc)
  have ec : ((cs[j].toNat : Nat) : Int) = cs[j] := by omega
  obtain ⟨l1, l2, l3⟩ := Z152 w cs x hg.2 j
  have st := Z643 (A := A) k hk ns z m m' hz x x' (fillJ w cs x j).1.ms M' w i (0 + j) f cs (fillJ w cs x j).2 j cs[j].toNat (by rw [List.getElem?_eq_getElem hjc, ec]) (by unfold ixN; rw [if_pos (by omega), if_pos (by omega)]; congr 1; omega) (by omega) (by omega) (by omega)
  refine ⟨_, _, rfl, .inl st, ?_⟩
  have eg : cs.getD j 0 = cs[j] := by rw [List.getD_eq_getElem?_getD, List.getElem?_eq_getElem hjc]; rfl
  simp only [fillJ, mkF, eg, Int.zero_add])
 exact lp
theorem Z642 (k : NK) (hk : Scr K k) (ns : List Int) (z m m' : Int) (hz : z = 0 ∨ z = 1) (x x' y : Sh) (M M' : List (Int × Int)) (w i : Int) (f cs : List Int) (du : D) (hf : Z147 K A [x.d A, aI w, nD cs] = .ok (.val du) [y.d A, aI w, nD cs]) (hs : DtN 3 du) (s9 : DL) (h9 : s9 = .own true du) :
  Z580 K A (lawZ A k ns z m m' x x' M M' w (.own true (aI i)) (.own true (nD f)) (.own true (aI z)) (.own true (nD cs)) s9 .non .non) = .nx (lawZ A k ns z m m' y x' M M' w (.own true (aI i)) (.own true (nD f)) (.own true (aI z)) (.own true (nD cs)) s9 .non .non) := by
 have hsm := Z655 (A := A) hs
 have o2 : ∀ x : Sh, (x.d A).imm = false := fun x => x.imm
 have o3 : ∀ M, (mdD M).imm = false := fun _ => rfl
 have hki := Z552 hk ns
 subst h9
 clear hs hk
 unfold Z580
 cases hd : du.imm with
 | true =>
  rcases hz with rfl | rfl
  ·simp only [lawZ, swp0]
   walk_at "evs"
  ·simp only [lawZ, swp1]
   walk_at "evs"
 | false =>
  rcases hz with rfl | rfl
  ·simp only [lawZ, swp0]
   walk_at "evs"
  ·simp only [lawZ, swp1]
   walk_at "evs"
theorem Z641 (k : NK) (hk : Scr K k) (ns : List Int) (z m' : Int) (m : Nat) (hz : z = 0 ∨ z = 1) (x x' : Sh) (M' : List (Int × Int)) (w i : Int) (f cs : List Int) (hg : good m cs) (hxm : x.m = m) (hm1 : 1 ≤ m) (hm4 : m ≤ 4) (hM : x.ms.length < 600000) (hL : x.ls.length < 600000) (hw : ∀ p ∈ x.ks, p.1 ≠ w) :
  Z579 K A (lawZ A k ns z m m' x x' x.ms M' w (.own true (aI i)) (.own true (nD f)) (.own true (aI z)) (.own true (nD cs)) (.own true (nD [])) .non .non) =
  .nx (lawZ A k ns z m m' (fillJ w cs x m).1 x' (fillJ w cs x m).1.ms M' w (.own true (aI i)) (.own true (nD f)) (.own true (aI z)) (.own true (nD cs)) (.own true (nD (fillJ w cs x m).2)) .non .non) := by
 have hl : cs.length = m := by have := hg.1; omega
 have hne : cs ≠ [] := by rintro rfl; simp at hl; omega
 have lp := Z646 (A := A) k hk ns z m' m hz x x' M' w i f cs hg hm4 hM
 have hf := Z626 (K := K) (A := A) w cs x (by rw [hxm]; exact hg) hw (by omega) (by omega) (by omega)
 rw [hl] at hf
 have l3 := (Z152 w cs x hg.2 m).2.2
 have t18 := Z642 (A := A) k hk ns z m m' hz x x' _ (fillJ w cs x m).1.ms M' w i f cs _ hf (dt_nD _ (by omega)) _ rfl
 have x1 := Z183 maxI cs hne
 have x2 := Z183 minI cs hne
 have y1 : ¬ maxI cs > 3 := by have := (hg.2 _ (Z322 hne).1).2; omega
 have y2 : ¬ minI cs < 0 := by have := (hg.2 _ (Z331 hne).1).1; omega
 have y3 : (cs.length : Int) = m := hg.1
 have b1 : (m : Int) < 4611686018427387904 := by omega
 have b2 : -4611686018427387904 ≤ (m : Int) := by omega
 have o2 : ∀ x : Sh, (x.d A).imm = false := fun x => x.imm
 have o3 : ∀ M, (mdD M).imm = false := fun _ => rfl
 have hki := Z552 hk ns
 clear hg hxm hm1 hm4 hM hL hw hl hne hf l3 hk
 unfold Z579
 rcases hz with rfl | rfl
 ·simp only [lawZ, swp0, List.map_cons, List.map_nil] at lp t18 ⊢
  walk_at "evs"
 ·simp only [lawZ, swp1, List.map_cons, List.map_nil] at lp t18 ⊢
  walk_at "evs"
theorem Z640 (k : NK) (hk : Scr K k) (ns : List Int) (z m' : Int) (m : Nat) (hz : z = 0 ∨ z = 1) (x x' : Sh) (M' : List (Int × Int)) (w i : Int) (f cs : List Int) (hg : ¬ good m cs) (hxm : x.m = m) (hm1 : 1 ≤ m) (hl : cs.length ≤ 1000) (h : ∀ c ∈ cs, c.natAbs < 2 ^ 64) :
  Z579 K A (lawZ A k ns z m m' x x' x.ms M' w (.own true (aI i)) (.own true (nD f)) (.own true (aI z)) (.own true (nD cs)) (.own true (nD [])) .non .non) =
  .nx (lawZ A k ns z m m' x x' x.ms M' w (.own true (aI i)) (.own true (nD f)) (.own true (aI z)) (.own true (nD cs)) (.own true (refD "bad counts")) .non .non) := by
 have hf := Z627 (K := K) (A := A) w cs x (by rw [hxm]; exact hg) hl h
 have hdt : DtN 3 (refD "bad counts") := dt_up (Z81 (by rw [sz]; simp) fun x hx => by
  simp only [List.mem_cons, List.not_mem_nil, or_false] at hx
  rcases hx with rfl | rfl <;> exact Z79)
 have t18 := Z642 (A := A) k hk ns z m m' hz x x' x x.ms M' w i f cs _ hf hdt _ rfl
 have o2 : ∀ x : Sh, (x.d A).imm = false := fun x => x.imm
 have o3 : ∀ M, (mdD M).imm = false := fun _ => rfl
 have hki := Z552 hk ns
 clear hf hdt hl h hxm
 by_cases y3 : (cs.length : Int) = m
 ·have hne : cs ≠ [] := by rintro rfl; simp at y3; omega
  have x1 := Z183 maxI cs hne
  have x2 := Z183 minI cs hne
  have hmx := Z322 hne
  have hmn := Z331 hne
  by_cases y1 : maxI cs > 3
  ·clear hg hm1 hk hne hmx hmn
   unfold Z579
   rcases hz with rfl | rfl
   ·simp only [lawZ, swp0, List.map_cons, List.map_nil] at t18 ⊢
    walk_at "evs"
   ·simp only [lawZ, swp1, List.map_cons, List.map_nil] at t18 ⊢
    walk_at "evs"
  ·have y2 : minI cs < 0 := by
    rcases Int.lt_or_le (minI cs) 0 with q | q
    ·exact q
    ·exact absurd ⟨y3, fun c hc => ⟨Int.le_trans q (hmn.2 c hc), by have := hmx.2 c hc; omega⟩⟩ hg
   clear hg hm1 hk hne hmx hmn
   unfold Z579
   rcases hz with rfl | rfl
   ·simp only [lawZ, swp0, List.map_cons, List.map_nil] at t18 ⊢
    walk_at "evs"
   ·simp only [lawZ, swp1, List.map_cons, List.map_nil] at t18 ⊢
    walk_at "evs"
 ·clear hg hm1 hk
  unfold Z579
  rcases hz with rfl | rfl
  ·simp only [lawZ, swp0, List.map_cons, List.map_nil] at t18 ⊢
   walk_at "evs"
  ·simp only [lawZ, swp1, List.map_cons, List.map_nil] at t18 ⊢
   walk_at "evs"
structure Gd (n : Nat) (m : Nat) (w : Int) (x : Sh) : Prop where
 xm : x.m = m
 wk : ∀ p ∈ x.ks, p.1 ≤ w
 len : x.ms.length ≤ 12 * n
 ls : x.ls.length ≤ 4 * n
 gk : x.gk = []
theorem Gd.up {n m : Nat} {w w' : Int} {x : Sh} (g : Gd n m w x) (h : w ≤ w') : Gd (n + 1) m w' x := ⟨g.xm, fun p hp => Int.le_trans (g.wk p hp) h, by have := g.len; omega, by have := g.ls; omega, g.gk⟩
theorem Gd.fill {n m : Nat} {w w' : Int} {x : Sh} (g : Gd n m w x) (h : w < w') (cs : List Int) (hg : good m cs) (hm4 : m ≤ 4) : Gd (n + 1) m w' (fillJ w' cs x m).1 := by
 obtain ⟨l1, l2, l3⟩ := Z152 w' cs x hg.2 m
 have hgk : ∀ j, (fillJ w' cs x j).1.gk = x.gk ∧ (fillJ w' cs x j).1.m = x.m := by
  intro j
  induction j with
  | zero => exact ⟨rfl, rfl⟩
  | succ j ih => exact ih
 refine ⟨by rw [(hgk m).2]; exact g.xm, fun p hp => ?_, by have := g.len; omega, by have := g.ls; omega, by rw [(hgk m).1]; exact g.gk⟩
 rw [Z151] at hp
 rcases List.mem_append.mp hp with hp | hp
 ·have := g.wk p hp; omega
 ·obtain ⟨j, _, rfl⟩ := List.mem_map.mp hp
  exact Int.le_refl _
theorem Z645 (k : NK) (hk : Scr K k) (ns : List Int) (z m' : Int) (m : Nat) (hz : z = 0 ∨ z = 1) (x x' : Sh) (M' : List (Int × Int)) (w w' i : Int) (f cs : List Int) (n : Nat) (g : Gd n m w x) (hn : n < 80) (hw : w < w') (hm1 : 1 ≤ m) (hm4 : m ≤ 4) (hl : cs.length ≤ 5) (hc : ∀ c ∈ cs, c.natAbs < 2 ^ 64) :
  ∃ (y : Sh) (du : D), Gd (n + 1) m w' y ∧ Z579 K A (lawZ A k ns z m m' x x' x.ms M' w' (.own true (aI i)) (.own true (nD f)) (.own true (aI z)) (.own true (nD cs)) (.own true (nD [])) .non .non) =
  .nx (lawZ A k ns z m m' y x' y.ms M' w' (.own true (aI i)) (.own true (nD f)) (.own true (aI z)) (.own true (nD cs)) (.own true du) .non .non) := by
 by_cases hg : good m cs
 ·exact ⟨_, _, g.fill hw cs hg hm4, Z641 k hk ns z m' m hz x x' M' w' i f cs hg g.xm hm1 hm4 (by have := g.len; omega) (by have := g.ls; omega) (fun p hp => by have := g.wk p hp; omega)⟩
 ·exact ⟨x, _, g.up (by omega), Z640 k hk ns z m' m hz x x' M' w' i f cs hg g.xm hm1 (by omega) hc⟩
noncomputable abbrev lawS (A : Adr) (k : NK) (ns : List Int) (m0 m1 : Int) (x0 x1 : Sh) (w : Int) (s5 : DL) : Sd :=
 [.own true (scD k ns), .own true (.nd (.lst true) [aI m0, aI m1]), .own true (.nd .tup [x0.d A, x1.d A]), .own true (.nd .tup [mdD x0.ms, mdD x1.ms]), .own true (aI w), s5, .non, .non, .non, .non, .non, .non, .non]
noncomputable abbrev fr3 (A : Adr) (k : NK) (ns : List Int) (m0 m1 : Int) (x0 x1 : Sh) (w : Int) (s5 s6 s7 s8 s9 : DL) : Sd :=
 [.own true (scD k ns), .own true (.nd (.lst true) [aI m0, aI m1]), .own true (.nd .tup [x0.d A, x1.d A]), .own true (.nd .tup [mdD x0.ms, mdD x1.ms]), .own true (aI w), s5, s6, s7, s8, s9, .non, .non, .non]
theorem Z634 (k : NK) (hk : Scr K k) (ns : List Int) (m0 m1 i w w' z f0 f1 f2 f3 f4 f5 : Int) (x0 x1 : Sh) (cs : List Int) (hfig : Z146 K A [scD k ns, aI i, aI 840, aI 6] = .ok (.val (nD [f0, f1, f2, f3, f4, f5])) [scD k ns, aI i, aI 840, aI 6]) : (sAsg (eCall [false, false, false, false] (Z146 K A) (aCons (eVar 0) (aCons (eVar 5) (aCons (eC (.int (840))) (aCons (eC (.int (6))) aNil))))) (asgD 6)) (fr3 A k ns m0 m1 x0 x1 w (.own true (aI i)) .non .non .non .non) = .nx (fr3 A k ns m0 m1 x0 x1 w (.own true (aI i)) (.own true (nD [f0, f1, f2, f3, f4, f5])) .non .non .non) := by
 have hki := Z552 hk ns
 have o2 : ∀ x : Sh, (x.d A).imm = false := fun x => x.imm
 have o3 : ∀ M, (mdD M).imm = false := fun _ => rfl
 clear hk
 simp only [fr3]
 walk_at "evs"
theorem Z635 (k : NK) (hk : Scr K k) (ns : List Int) (m0 m1 i w w' z f0 f1 f2 f3 f4 f5 : Int) (x0 x1 : Sh) (cs : List Int) (hz : f4 / 16 % 2 = z) : (sAsg (eNw hMod (aCons (eNw hDiv (aCons (eCh (hIx K) (aCons (eVar 6) (aCons (eC (.int (4))) aNil))) (aCons (eC (.int (16))) aNil))) (aCons (eC (.int (2))) aNil))) (asgD 7)) (fr3 A k ns m0 m1 x0 x1 w (.own true (aI i)) (.own true (nD [f0, f1, f2, f3, f4, f5])) .non .non .non) = .nx (fr3 A k ns m0 m1 x0 x1 w (.own true (aI i)) (.own true (nD [f0, f1, f2, f3, f4, f5])) (.own true (aI z)) .non .non) := by
 have hki := Z552 hk ns
 have o2 : ∀ x : Sh, (x.d A).imm = false := fun x => x.imm
 have o3 : ∀ M, (mdD M).imm = false := fun _ => rfl
 clear hk
 simp only [fr3]
 walk_at "evs"
theorem Z636 (k : NK) (hk : Scr K k) (ns : List Int) (m0 m1 i w w' z f0 f1 f2 f3 f4 f5 : Int) (x0 x1 : Sh) (cs : List Int) (hw' : w + 1 + f5 / 30 % 3 = w') : (sAsg (eNw hAddI (aCons (eNw hAddI (aCons (eVar 4) (aCons (eC (.int (1))) aNil))) (aCons (eNw hMod (aCons (eNw hDiv (aCons (eCh (hIx K) (aCons (eVar 6) (aCons (eC (.int (5))) aNil))) (aCons (eC (.int (30))) aNil))) (aCons (eC (.int (3))) aNil))) aNil))) (asgD 4)) (fr3 A k ns m0 m1 x0 x1 w (.own true (aI i)) (.own true (nD [f0, f1, f2, f3, f4, f5])) (.own true (aI z)) .non .non) = .nx (fr3 A k ns m0 m1 x0 x1 w' (.own true (aI i)) (.own true (nD [f0, f1, f2, f3, f4, f5])) (.own true (aI z)) .non .non) := by
 have hki := Z552 hk ns
 have o2 : ∀ x : Sh, (x.d A).imm = false := fun x => x.imm
 have o3 : ∀ M, (mdD M).imm = false := fun _ => rfl
 clear hk
 simp only [fr3]
 walk_at "evs"
theorem Z637 (k : NK) (hk : Scr K k) (ns : List Int) (m0 m1 i w w' z f0 f1 f2 f3 f4 f5 : Int) (x0 x1 : Sh) (cs : List Int) (hz : z = 0 ∨ z = 1) (m : Int) (hm : m = if z = 0 then m0 else m1) (hd : Z145 K A [nD [f0, f1, f2, f3, f4, f5], aI m] = .ok (.val (nD cs)) [nD [f0, f1, f2, f3, f4, f5], aI m]) : (sAsg (eCall [false, false] (Z145 K A) (aCons (eVar 6) (aCons (eCh (hIx K) (aCons (eVar 1) (aCons (eVar 7) aNil))) aNil))) (asgD 8)) (fr3 A k ns m0 m1 x0 x1 w' (.own true (aI i)) (.own true (nD [f0, f1, f2, f3, f4, f5])) (.own true (aI z)) .non .non) = .nx (fr3 A k ns m0 m1 x0 x1 w' (.own true (aI i)) (.own true (nD [f0, f1, f2, f3, f4, f5])) (.own true (aI z)) (.own true (nD cs)) .non) := by
 have hki := Z552 hk ns
 have o2 : ∀ x : Sh, (x.d A).imm = false := fun x => x.imm
 have o3 : ∀ M, (mdD M).imm = false := fun _ => rfl
 clear hk
 simp only [fr3]
 rcases hz with rfl | rfl
 ·rw [if_pos rfl] at hm
  subst hm
  walk_at "evs"
 ·rw [if_neg (by decide)] at hm
  subst hm
  walk_at "evs"
theorem Z638 (k : NK) (hk : Scr K k) (ns : List Int) (m0 m1 i w w' z f0 f1 f2 f3 f4 f5 : Int) (x0 x1 : Sh) (cs : List Int)  : (sAsg (eDisp (.lst true) aNil) (asgD 9)) (fr3 A k ns m0 m1 x0 x1 w' (.own true (aI i)) (.own true (nD [f0, f1, f2, f3, f4, f5])) (.own true (aI z)) (.own true (nD cs)) .non) = .nx (fr3 A k ns m0 m1 x0 x1 w' (.own true (aI i)) (.own true (nD [f0, f1, f2, f3, f4, f5])) (.own true (aI z)) (.own true (nD cs)) (.own true (nD []))) := by
 have hki := Z552 hk ns
 have o2 : ∀ x : Sh, (x.d A).imm = false := fun x => x.imm
 have o3 : ∀ M, (mdD M).imm = false := fun _ => rfl
 clear hk
 simp only [fr3]
 walk_at "evs"
 rfl
theorem v_l3 (k : NK) (hk : Scr K k) (ns : List Int) (m0 m1 i w w' z f0 f1 f2 f3 f4 f5 : Int) (x0 x1 y0 y1 : Sh) (cs : List Int) (du : D) (m : Int)
  (hfig : Z146 K A [scD k ns, aI i, aI 840, aI 6] = .ok (.val (nD [f0, f1, f2, f3, f4, f5])) [scD k ns, aI i, aI 840, aI 6]) (hz2 : f4 / 16 % 2 = z) (hw' : w + 1 + f5 / 30 % 3 = w') (hz : z = 0 ∨ z = 1) (hm : m = if z = 0 then m0 else m1)
  (hd : Z145 K A [nD [f0, f1, f2, f3, f4, f5], aI m] = .ok (.val (nD cs)) [nD [f0, f1, f2, f3, f4, f5], aI m])
  (t11 : Z579 K A (fr3 A k ns m0 m1 x0 x1 w' (.own true (aI i)) (.own true (nD [f0, f1, f2, f3, f4, f5])) (.own true (aI z)) (.own true (nD cs)) (.own true (nD []))) = .nx (fr3 A k ns m0 m1 y0 y1 w' (.own true (aI i)) (.own true (nD [f0, f1, f2, f3, f4, f5])) (.own true (aI z)) (.own true (nD cs)) (.own true du))) :
  Z297 K A (fr3 A k ns m0 m1 x0 x1 w (.own true (aI i)) .non .non .non .non) = .nx (fr3 A k ns m0 m1 y0 y1 w' .non .non .non .non .non) := by
 unfold Z297 Z578
 rw [Z118, Z127, Z634 k hk ns m0 m1 i w w' z f0 f1 f2 f3 f4 f5 x0 x1 cs hfig]
 dsimp only
 rw [Z127, Z635 k hk ns m0 m1 i w w' z f0 f1 f2 f3 f4 f5 x0 x1 cs hz2]
 dsimp only
 rw [Z127, Z636 k hk ns m0 m1 i w w' z f0 f1 f2 f3 f4 f5 x0 x1 cs hw']
 dsimp only
 rw [Z127, Z637 k hk ns m0 m1 i w w' z f0 f1 f2 f3 f4 f5 x0 x1 cs hz m hm hd]
 dsimp only
 rw [Z127, Z638 k hk ns m0 m1 i w w' z f0 f1 f2 f3 f4 f5 x0 x1 cs]
 dsimp only
 rw [t11]
 rfl
theorem Z644 (k : NK) (hk : Scr K k) (ns : List Int) (m0 m1 : Nat) (h0 : 1 ≤ m0 ∧ m0 ≤ 4) (h1 : 1 ≤ m1 ∧ m1 ≤ 4) (x0 x1 : Sh) (w i : Int) (n : Nat) (g0 : Gd n m0 w x0) (g1 : Gd n m1 w x1) (hn : n < 80) (hi : 0 ≤ i) :
  ∃ (y0 y1 : Sh) (w' : Int), Gd (n + 1) m0 w' y0 ∧ Gd (n + 1) m1 w' y1 ∧ Z297 K A (lawS A k ns m0 m1 x0 x1 w (.own true (aI i))) = .nx (lawS A k ns m0 m1 y0 y1 w' .non) := by
 obtain ⟨xs, hx1, hx2, hfig⟩ := Z621 (A := A) k hk ns i 840 6 hi (by omega) (by omega) (by omega)
 obtain ⟨f0, f1, f2, f3, f4, f5, rfl⟩ : ∃ f0 f1 f2 f3 f4 f5, xs = [f0, f1, f2, f3, f4, f5] := by
  match xs, hx1 with
  | [a, b, c, d, e, f], _ => exact ⟨a, b, c, d, e, f, rfl⟩
 have q1 : 0 ≤ f5 / 30 % 3 := Int.emod_nonneg _ (by omega)
 obtain ⟨w', hw'⟩ : ∃ w', w + 1 + f5 / 30 % 3 = w' := ⟨_, rfl⟩
 have hww : w < w' := by omega
 rw [show ((6 : Nat) : Int) = 6 from rfl] at hfig
 have hz : f4 / 16 % 2 = 0 ∨ f4 / 16 % 2 = 1 := by omega
 rcases hz with hz | hz
 ·obtain ⟨cs, c1, c2, hd⟩ := Z617 (K := K) (A := A) f0 f1 f2 f3 f4 f5 m0 h0.1 h0.2
  obtain ⟨y, du, gy, t11⟩ := Z645 (K := K) (A := A) k hk ns 0 m1 m0 (.inl rfl) x0 x1 x1.ms w w' i [f0, f1, f2, f3, f4, f5] cs n g0 hn hww h0.1 h0.2 c1 c2
  exact ⟨y, x1, w', gy, g1.up (by omega), v_l3 k hk ns m0 m1 i w w' 0 f0 f1 f2 f3 f4 f5 x0 x1 y x1 cs du m0 hfig hz hw' (.inl rfl) rfl hd t11⟩
 ·obtain ⟨cs, c1, c2, hd⟩ := Z617 (K := K) (A := A) f0 f1 f2 f3 f4 f5 m1 h1.1 h1.2
  obtain ⟨y, du, gy, t11⟩ := Z645 (K := K) (A := A) k hk ns 1 m0 m1 (.inr rfl) x1 x0 x0.ms w w' i [f0, f1, f2, f3, f4, f5] cs n g1 hn hww h1.1 h1.2 c1 c2
  exact ⟨x0, y, w', g0.up (by omega), gy, v_l3 k hk ns m0 m1 i w w' 1 f0 f1 f2 f3 f4 f5 x0 x1 x0 y cs du m1 hfig hz hw' (.inr rfl) rfl hd t11⟩
noncomputable def shZ (m : Int) : Sh := ⟨m, [], [], [], []⟩
theorem v_law (k : NK) (ns : List Int) (hk : Scr K k) (hl : ns.length ≤ 63) : ∃ ds, f_law K A [scD k ns] = .ok (.val (.at (.bl true))) ds := by
 obtain ⟨m0, hm0⟩ : ∃ m : Nat, 1 + atL ns 0 / 2 % 4 = m := ⟨(1 + atL ns 0 / 2 % 4).toNat, by have := Int.emod_nonneg (atL ns 0 / 2) (show (4 : Int) ≠ 0 by omega); omega⟩
 obtain ⟨m1, hm1⟩ : ∃ m : Nat, 1 + atL ns 1 % 4 = m := ⟨(1 + atL ns 1 % 4).toNat, by have := Int.emod_nonneg (atL ns 1) (show (4 : Int) ≠ 0 by omega); omega⟩
 have r0 : 1 ≤ m0 ∧ m0 ≤ 4 := by omega
 have r1 : 1 ≤ m1 ∧ m1 ≤ 4 := by omega
 have gz : ∀ m : Nat, Gd 0 m 0 (shZ m) := fun m => ⟨rfl, (by intro p h; cases h), Nat.le_refl _, Nat.le_refl _, rfl⟩
 obtain ⟨s1, h1, x0, x1, w, g0, g1, rfl⟩ := Z311 (lo := 2) (n := ((ns.length : Int) - 2).toNat) (b := asgD 5) (body := Z297 K A) (s := lawS A k ns m0 m1 (shZ m0) (shZ m1) 0 .non)
  (fun j s => ∃ (x0 x1 : Sh) (w : Int), Gd j m0 w x0 ∧ Gd j m1 w x1 ∧ s = lawS A k ns m0 m1 x0 x1 w .non) ⟨shZ m0, shZ m1, 0, gz m0, gz m1, rfl⟩ (by
  rintro j s hj ⟨x0, x1, w, g0, g1, rfl⟩
  obtain ⟨y0, y1, w', g0', g1', e⟩ := Z644 (A := A) k hk ns m0 m1 r0 r1 x0 x1 w (2 + j) j g0 g1 (by omega) (by omega)
  exact ⟨_, _, rfl, .inl e, y0, y1, w', g0', g1', rfl⟩)
 refine ⟨[scD k ns], ?_⟩
 have k0 := Z631 (K := K) (A := A) x0 g0.gk (by have := g0.len; omega)
 have k1 := Z631 (K := K) (A := A) x1 g1.gk (by have := g1.len; omega)
 have i0 := Z630 (K := K) (A := A) (m0 : Int)
 have i1 := Z630 (K := K) (A := A) (m1 : Int)
 have a0 := v_at (A := A) k hk ns 0 (by omega)
 have a1 := v_at (A := A) k hk ns 1 (by omega)
 have hlen : hLen K [scD k ns] = some (aI ns.length) := by
  unfold scD hLen
  rcases hk with rfl | rfl <;> simp
 have b1 : (ns.length : Int) < 4611686018427387904 := by omega
 have b2 : -4611686018427387904 ≤ (ns.length : Int) := by omega
 have hki := Z552 hk ns
 have o2 : ∀ x : Sh, (x.d A).imm = false := fun x => x.imm
 have o3 : ∀ M, (mdD M).imm = false := fun _ => rfl
 have ez : ∀ m : Nat, shD A (m : Int) [] [] [] [] = (shZ m).d A := fun _ => rfl
 rw [ez] at i0 i1
 simp only [lawS, show ∀ m, mdD (shZ m).ms = D.nd (.lst true) [] from fun _ => rfl] at h1
 clear g0 g1 gz r0 r1 hk hl ez
 unfold f_law b_law
 walk_at "evs"
end Pf
set_option Elab.async false
set_option linter.all false
set_option maxRecDepth 100000
namespace Pf
open PySem PySem.Spec PyProof.Rows L2 RM
theorem Z595 {K : PySem.W.Frag} {h : Heap} {mg : Str → Option Value} (X : K.In h) (G : h.Ns mainGlobals mg)
    (z_all : PySem.W.nsIn K mainGlobals "all" = some none)
    (z_bool : PySem.W.nsIn K mainGlobals "bool" = some none)
    (z_enumerate : PySem.W.nsIn K mainGlobals "enumerate" = some none)
    (z_int : PySem.W.nsIn K mainGlobals "int" = some none)
    (z_isinstance : PySem.W.nsIn K mainGlobals "isinstance" = some none)
    (z_len : PySem.W.nsIn K mainGlobals "len" = some none)
    (z_list : PySem.W.nsIn K mainGlobals "list" = some none)
    (z_max : PySem.W.nsIn K mainGlobals "max" = some none)
    (z_min : PySem.W.nsIn K mainGlobals "min" = some none)
    (z_range : PySem.W.nsIn K mainGlobals "range" = some none)
    (z_str : PySem.W.nsIn K mainGlobals "str" = some none)
    (z_tuple : PySem.W.nsIn K mainGlobals "tuple" = some none)
    {u_NEW_MOST : Value} (v_NEW_MOST : PySem.W.nsIn K mainGlobals "NEW_MOST" = some (some u_NEW_MOST)) (r_NEW_MOST : RelV (V.int 3) u_NEW_MOST)
    {C_Shelf : Addr} (y_Shelf : PySem.W.nsIn K mainGlobals "Shelf" = some (some (.ref C_Shelf))) (pg_Shelf : PySem.W.plainGet K C_Shelf Str.empty = true) (hd_Shelf : PySem.W.hasDictIn K C_Shelf = true) (po_Shelf : PySem.W.plainOver K C_Shelf = true) (sa_Shelf : PySem.W.findIn K (.ref C_Shelf) "__setattr__" = some (some (.builtin "object.__setattr__")))
    (n_Shelf_gone : PySem.W.findIn K (.ref C_Shelf) "gone" = some none)
    (n_Shelf_made : PySem.W.findIn K (.ref C_Shelf) "made" = some none)
    (n_Shelf_many : PySem.W.findIn K (.ref C_Shelf) "many" = some none)
    (n_Shelf_numbers : PySem.W.findIn K (.ref C_Shelf) "numbers" = some none)
    {C_BadCounts : Addr} (y_BadCounts : PySem.W.nsIn K mainGlobals "BadCounts" = some (some (.ref C_BadCounts))) (q_BadCounts : PySem.W.excIn K C_BadCounts bmV "ValueError.__new__" = true)
    {C_UnknownFolder : Addr} (y_UnknownFolder : PySem.W.nsIn K mainGlobals "UnknownFolder" = some (some (.ref C_UnknownFolder))) (q_UnknownFolder : PySem.W.excIn K C_UnknownFolder bmV "ValueError.__new__" = true)
    (m_BadCounts_BadCounts : PySem.W.exmOne K (.ref C_BadCounts) (.ref C_BadCounts) = some true)
    (m_BadCounts_UnknownFolder : PySem.W.exmOne K (.ref C_BadCounts) (.ref C_UnknownFolder) = some false)
    (m_UnknownFolder_BadCounts : PySem.W.exmOne K (.ref C_UnknownFolder) (.ref C_BadCounts) = some false)
    (m_UnknownFolder_UnknownFolder : PySem.W.exmOne K (.ref C_UnknownFolder) (.ref C_UnknownFolder) = some true)
    {Z137 : Addr} {od_Shelf___init__ an_Shelf___init__ : Option Addr} {sl_Shelf___init__ : Array (Option Value)} {oc_Shelf___init__ kV_Shelf___init__ dc_Shelf___init__ pm_Shelf___init__ cd_Shelf___init__ ct_Shelf___init__ : Value} (a_Shelf___init__ : PySem.W.findIn K (.ref C_Shelf) "__init__" = some (some (.ref Z137))) (i_Shelf___init__ : PySem.W.isFn K (.ref Z137) = true) (l_Shelf___init__ : K.lookup Z137 = some ⟨oc_Shelf___init__, od_Shelf___init__, .func (PySem.W.fnOf "__init__" "Shelf.__init__" (defArgs Z521) (defBody Z521) (defScope Z521) .none kV_Shelf___init__ dc_Shelf___init__ pm_Shelf___init__ an_Shelf___init__ cd_Shelf___init__ ct_Shelf___init__), sl_Shelf___init__⟩) (c_Shelf___init__ : PySem.W.codeIn K cd_Shelf___init__ "Shelf.__init__" = true) (k_Shelf___init__ : PySem.W.keepIn K (.ref Z137) = true)
    (mk_Shelf : PySem.W.makesIn K C_Shelf = true) (kc_Shelf : PySem.W.keepIn K (.ref C_Shelf) = true)
    {Z144 : Addr} {od__law_at an__law_at : Option Addr} {sl__law_at : Array (Option Value)} {oc__law_at kV__law_at dc__law_at pm__law_at cd__law_at ct__law_at : Value} (a__law_at : PySem.W.nsIn K mainGlobals "_law_at" = some (some (.ref Z144))) (l__law_at : K.lookup Z144 = some ⟨oc__law_at, od__law_at, .func (PySem.W.fnOf "_law_at" "_law_at" (defArgs Z528) (defBody Z528) (defScope Z528) .none kV__law_at dc__law_at pm__law_at an__law_at cd__law_at ct__law_at), sl__law_at⟩) (c__law_at : PySem.W.codeIn K cd__law_at "_law_at" = true) (k__law_at : PySem.W.keepIn K (.ref Z144) = true)
    {Z146 : Addr} {od__law_figures an__law_figures : Option Addr} {sl__law_figures : Array (Option Value)} {oc__law_figures kV__law_figures dc__law_figures pm__law_figures cd__law_figures ct__law_figures : Value} (a__law_figures : PySem.W.nsIn K mainGlobals "_law_figures" = some (some (.ref Z146))) (l__law_figures : K.lookup Z146 = some ⟨oc__law_figures, od__law_figures, .func (PySem.W.fnOf "_law_figures" "_law_figures" (defArgs Z530) (defBody Z530) (defScope Z530) .none kV__law_figures dc__law_figures pm__law_figures an__law_figures cd__law_figures ct__law_figures), sl__law_figures⟩) (c__law_figures : PySem.W.codeIn K cd__law_figures "_law_figures" = true) (k__law_figures : PySem.W.keepIn K (.ref Z146) = true)
    {Z145 : Addr} {od__law_drawn_counts an__law_drawn_counts : Option Addr} {sl__law_drawn_counts : Array (Option Value)} {oc__law_drawn_counts kV__law_drawn_counts dc__law_drawn_counts pm__law_drawn_counts cd__law_drawn_counts ct__law_drawn_counts : Value} (a__law_drawn_counts : PySem.W.nsIn K mainGlobals "_law_drawn_counts" = some (some (.ref Z145))) (l__law_drawn_counts : K.lookup Z145 = some ⟨oc__law_drawn_counts, od__law_drawn_counts, .func (PySem.W.fnOf "_law_drawn_counts" "_law_drawn_counts" (defArgs Z529) (defBody Z529) (defScope Z529) .none kV__law_drawn_counts dc__law_drawn_counts pm__law_drawn_counts an__law_drawn_counts cd__law_drawn_counts ct__law_drawn_counts), sl__law_drawn_counts⟩) (c__law_drawn_counts : PySem.W.codeIn K cd__law_drawn_counts "_law_drawn_counts" = true) (k__law_drawn_counts : PySem.W.keepIn K (.ref Z145) = true)
    {Z150 : Addr} {od__law_same an__law_same : Option Addr} {sl__law_same : Array (Option Value)} {oc__law_same kV__law_same dc__law_same pm__law_same cd__law_same ct__law_same : Value} (a__law_same : PySem.W.nsIn K mainGlobals "_law_same" = some (some (.ref Z150))) (l__law_same : K.lookup Z150 = some ⟨oc__law_same, od__law_same, .func (PySem.W.fnOf "_law_same" "_law_same" (defArgs Z534) (defBody Z534) (defScope Z534) .none kV__law_same dc__law_same pm__law_same an__law_same cd__law_same ct__law_same), sl__law_same⟩) (c__law_same : PySem.W.codeIn K cd__law_same "_law_same" = true) (k__law_same : PySem.W.keepIn K (.ref Z150) = true)
    {Z138 : Addr} {od_Shelf_check_counts an_Shelf_check_counts : Option Addr} {sl_Shelf_check_counts : Array (Option Value)} {oc_Shelf_check_counts kV_Shelf_check_counts dc_Shelf_check_counts pm_Shelf_check_counts cd_Shelf_check_counts ct_Shelf_check_counts : Value} (a_Shelf_check_counts : PySem.W.findIn K (.ref C_Shelf) "check_counts" = some (some (.ref Z138))) (i_Shelf_check_counts : PySem.W.isFn K (.ref Z138) = true) (l_Shelf_check_counts : K.lookup Z138 = some ⟨oc_Shelf_check_counts, od_Shelf_check_counts, .func (PySem.W.fnOf "check_counts" "Shelf.check_counts" (defArgs Z522) (defBody Z522) (defScope Z522) .none kV_Shelf_check_counts dc_Shelf_check_counts pm_Shelf_check_counts an_Shelf_check_counts cd_Shelf_check_counts ct_Shelf_check_counts), sl_Shelf_check_counts⟩) (c_Shelf_check_counts : PySem.W.codeIn K cd_Shelf_check_counts "Shelf.check_counts" = true) (k_Shelf_check_counts : PySem.W.keepIn K (.ref Z138) = true)
    {Z143 : Addr} {od_Shelf_make an_Shelf_make : Option Addr} {sl_Shelf_make : Array (Option Value)} {oc_Shelf_make kV_Shelf_make dc_Shelf_make pm_Shelf_make cd_Shelf_make ct_Shelf_make : Value} (a_Shelf_make : PySem.W.findIn K (.ref C_Shelf) "make" = some (some (.ref Z143))) (i_Shelf_make : PySem.W.isFn K (.ref Z143) = true) (l_Shelf_make : K.lookup Z143 = some ⟨oc_Shelf_make, od_Shelf_make, .func (PySem.W.fnOf "make" "Shelf.make" (defArgs Z527) (defBody Z527) (defScope Z527) .none kV_Shelf_make dc_Shelf_make pm_Shelf_make an_Shelf_make cd_Shelf_make ct_Shelf_make), sl_Shelf_make⟩) (c_Shelf_make : PySem.W.codeIn K cd_Shelf_make "Shelf.make" = true) (k_Shelf_make : PySem.W.keepIn K (.ref Z143) = true)
    {Z140 : Addr} {od_Shelf_fill an_Shelf_fill : Option Addr} {sl_Shelf_fill : Array (Option Value)} {oc_Shelf_fill kV_Shelf_fill dc_Shelf_fill pm_Shelf_fill cd_Shelf_fill ct_Shelf_fill : Value} (a_Shelf_fill : PySem.W.findIn K (.ref C_Shelf) "fill" = some (some (.ref Z140))) (i_Shelf_fill : PySem.W.isFn K (.ref Z140) = true) (l_Shelf_fill : K.lookup Z140 = some ⟨oc_Shelf_fill, od_Shelf_fill, .func (PySem.W.fnOf "fill" "Shelf.fill" (defArgs Z524) (defBody Z524) (defScope Z524) .none kV_Shelf_fill dc_Shelf_fill pm_Shelf_fill an_Shelf_fill cd_Shelf_fill ct_Shelf_fill), sl_Shelf_fill⟩) (c_Shelf_fill : PySem.W.codeIn K cd_Shelf_fill "Shelf.fill" = true) (k_Shelf_fill : PySem.W.keepIn K (.ref Z140) = true)
    {Z147 : Addr} {od__law_filled an__law_filled : Option Addr} {sl__law_filled : Array (Option Value)} {oc__law_filled kV__law_filled dc__law_filled pm__law_filled cd__law_filled ct__law_filled : Value} (a__law_filled : PySem.W.nsIn K mainGlobals "_law_filled" = some (some (.ref Z147))) (l__law_filled : K.lookup Z147 = some ⟨oc__law_filled, od__law_filled, .func (PySem.W.fnOf "_law_filled" "_law_filled" (defArgs Z531) (defBody Z531) (defScope Z531) .none kV__law_filled dc__law_filled pm__law_filled an__law_filled cd__law_filled ct__law_filled), sl__law_filled⟩) (c__law_filled : PySem.W.codeIn K cd__law_filled "_law_filled" = true) (k__law_filled : PySem.W.keepIn K (.ref Z147) = true)
    {Z139 : Addr} {od_Shelf_check_number an_Shelf_check_number : Option Addr} {sl_Shelf_check_number : Array (Option Value)} {oc_Shelf_check_number kV_Shelf_check_number dc_Shelf_check_number pm_Shelf_check_number cd_Shelf_check_number ct_Shelf_check_number : Value} (a_Shelf_check_number : PySem.W.findIn K (.ref C_Shelf) "check_number" = some (some (.ref Z139))) (i_Shelf_check_number : PySem.W.isFn K (.ref Z139) = true) (l_Shelf_check_number : K.lookup Z139 = some ⟨oc_Shelf_check_number, od_Shelf_check_number, .func (PySem.W.fnOf "check_number" "Shelf.check_number" (defArgs Z523) (defBody Z523) (defScope Z523) .none kV_Shelf_check_number dc_Shelf_check_number pm_Shelf_check_number an_Shelf_check_number cd_Shelf_check_number ct_Shelf_check_number), sl_Shelf_check_number⟩) (c_Shelf_check_number : PySem.W.codeIn K cd_Shelf_check_number "Shelf.check_number" = true) (k_Shelf_check_number : PySem.W.keepIn K (.ref Z139) = true)
    {Z141 : Addr} {od_Shelf_folder an_Shelf_folder : Option Addr} {sl_Shelf_folder : Array (Option Value)} {oc_Shelf_folder kV_Shelf_folder dc_Shelf_folder pm_Shelf_folder cd_Shelf_folder ct_Shelf_folder : Value} (a_Shelf_folder : PySem.W.findIn K (.ref C_Shelf) "folder" = some (some (.ref Z141))) (i_Shelf_folder : PySem.W.isFn K (.ref Z141) = true) (l_Shelf_folder : K.lookup Z141 = some ⟨oc_Shelf_folder, od_Shelf_folder, .func (PySem.W.fnOf "folder" "Shelf.folder" (defArgs Z525) (defBody Z525) (defScope Z525) .none kV_Shelf_folder dc_Shelf_folder pm_Shelf_folder an_Shelf_folder cd_Shelf_folder ct_Shelf_folder), sl_Shelf_folder⟩) (c_Shelf_folder : PySem.W.codeIn K cd_Shelf_folder "Shelf.folder" = true) (k_Shelf_folder : PySem.W.keepIn K (.ref Z141) = true)
    {Z142 : Addr} {od_Shelf_lose an_Shelf_lose : Option Addr} {sl_Shelf_lose : Array (Option Value)} {oc_Shelf_lose kV_Shelf_lose dc_Shelf_lose pm_Shelf_lose cd_Shelf_lose ct_Shelf_lose : Value} (a_Shelf_lose : PySem.W.findIn K (.ref C_Shelf) "lose" = some (some (.ref Z142))) (i_Shelf_lose : PySem.W.isFn K (.ref Z142) = true) (l_Shelf_lose : K.lookup Z142 = some ⟨oc_Shelf_lose, od_Shelf_lose, .func (PySem.W.fnOf "lose" "Shelf.lose" (defArgs Z526) (defBody Z526) (defScope Z526) .none kV_Shelf_lose dc_Shelf_lose pm_Shelf_lose an_Shelf_lose cd_Shelf_lose ct_Shelf_lose), sl_Shelf_lose⟩) (c_Shelf_lose : PySem.W.codeIn K cd_Shelf_lose "Shelf.lose" = true) (k_Shelf_lose : PySem.W.keepIn K (.ref Z142) = true)
    {Z149 : Addr} {od__law_missing an__law_missing : Option Addr} {sl__law_missing : Array (Option Value)} {oc__law_missing kV__law_missing dc__law_missing pm__law_missing cd__law_missing ct__law_missing : Value} (a__law_missing : PySem.W.nsIn K mainGlobals "_law_missing" = some (some (.ref Z149))) (l__law_missing : K.lookup Z149 = some ⟨oc__law_missing, od__law_missing, .func (PySem.W.fnOf "_law_missing" "_law_missing" (defArgs Z533) (defBody Z533) (defScope Z533) .none kV__law_missing dc__law_missing pm__law_missing an__law_missing cd__law_missing ct__law_missing), sl__law_missing⟩) (c__law_missing : PySem.W.codeIn K cd__law_missing "_law_missing" = true) (k__law_missing : PySem.W.keepIn K (.ref Z149) = true)
    {Z148 : Addr} {od__law_kept an__law_kept : Option Addr} {sl__law_kept : Array (Option Value)} {oc__law_kept kV__law_kept dc__law_kept pm__law_kept cd__law_kept ct__law_kept : Value} (a__law_kept : PySem.W.nsIn K mainGlobals "_law_kept" = some (some (.ref Z148))) (l__law_kept : K.lookup Z148 = some ⟨oc__law_kept, od__law_kept, .func (PySem.W.fnOf "_law_kept" "_law_kept" (defArgs Z532) (defBody Z532) (defScope Z532) .none kV__law_kept dc__law_kept pm__law_kept an__law_kept cd__law_kept ct__law_kept), sl__law_kept⟩) (c__law_kept : PySem.W.codeIn K cd__law_kept "_law_kept" = true) (k__law_kept : PySem.W.keepIn K (.ref Z148) = true)
    {f_law : Addr} {od_law an_law : Option Addr} {sl_law : Array (Option Value)} {oc_law kV_law dc_law pm_law cd_law ct_law : Value} (a_law : PySem.W.nsIn K mainGlobals "law" = some (some (.ref f_law))) (l_law : K.lookup f_law = some ⟨oc_law, od_law, .func (PySem.W.fnOf "law" "law" (defArgs s_law) (defBody s_law) (defScope s_law) .none kV_law dc_law pm_law an_law cd_law ct_law), sl_law⟩) (c_law : PySem.W.codeIn K cd_law "law" = true) (k_law : PySem.W.keepIn K (.ref f_law) = true) : ∃ A, Txt K mg A :=
  ⟨⟨C_Shelf, C_BadCounts, C_UnknownFolder⟩,
   ⟨PySem.W.mg_none_of X G z_all,
   PySem.W.mg_none_of X G z_bool,
   PySem.W.mg_none_of X G z_enumerate,
   PySem.W.mg_none_of X G z_int,
   PySem.W.mg_none_of X G z_isinstance,
   PySem.W.mg_none_of X G z_len,
   PySem.W.mg_none_of X G z_list,
   PySem.W.mg_none_of X G z_max,
   PySem.W.mg_none_of X G z_min,
   PySem.W.mg_none_of X G z_range,
   PySem.W.mg_none_of X G z_str,
   PySem.W.mg_none_of X G z_tuple,
   ⟨u_NEW_MOST, PySem.W.mg_of X G v_NEW_MOST, r_NEW_MOST⟩,
   PySem.W.mg_of X G y_Shelf,
   ⟨pg_Shelf, hd_Shelf, po_Shelf, sa_Shelf⟩,
   n_Shelf_gone,
   n_Shelf_made,
   n_Shelf_many,
   n_Shelf_numbers,
   ⟨PySem.W.mg_of X G y_BadCounts, q_BadCounts⟩,
   ⟨PySem.W.mg_of X G y_UnknownFolder, q_UnknownFolder⟩,
   m_BadCounts_BadCounts,
   m_BadCounts_UnknownFolder,
   m_UnknownFolder_BadCounts,
   m_UnknownFolder_UnknownFolder,
   ⟨Z137, _, Z161 (st := Z521) l_Shelf___init__ c_Shelf___init__ k_Shelf___init__, ⟨mk_Shelf, a_Shelf___init__, i_Shelf___init__, kc_Shelf⟩, fun us hl => by obtain ⟨_, _, rfl⟩ := RM.len2 hl; rfl⟩,
   ⟨Z144, _, Z161 (st := Z528) l__law_at c__law_at k__law_at, PySem.W.mg_of X G a__law_at, fun us hl => by obtain ⟨_, _, rfl⟩ := RM.len2 hl; rfl⟩,
   ⟨Z146, _, Z161 (st := Z530) l__law_figures c__law_figures k__law_figures, PySem.W.mg_of X G a__law_figures, fun us hl => by obtain ⟨_, _, _, _, rfl⟩ := RM.len4 hl; rfl⟩,
   ⟨Z145, _, Z161 (st := Z529) l__law_drawn_counts c__law_drawn_counts k__law_drawn_counts, PySem.W.mg_of X G a__law_drawn_counts, fun us hl => by obtain ⟨_, _, rfl⟩ := RM.len2 hl; rfl⟩,
   ⟨Z150, _, Z161 (st := Z534) l__law_same c__law_same k__law_same, PySem.W.mg_of X G a__law_same, fun us hl => by obtain ⟨_, _, rfl⟩ := RM.len2 hl; rfl⟩,
   ⟨Z138, _, Z161 (st := Z522) l_Shelf_check_counts c_Shelf_check_counts k_Shelf_check_counts, ⟨a_Shelf_check_counts, i_Shelf_check_counts, k_Shelf_check_counts⟩, fun us hl => by obtain ⟨_, _, rfl⟩ := RM.len2 hl; rfl⟩,
   ⟨Z143, _, Z161 (st := Z527) l_Shelf_make c_Shelf_make k_Shelf_make, ⟨a_Shelf_make, i_Shelf_make, k_Shelf_make⟩, fun us hl => by obtain ⟨_, _, _, _, rfl⟩ := RM.len4 hl; rfl⟩,
   ⟨Z140, _, Z161 (st := Z524) l_Shelf_fill c_Shelf_fill k_Shelf_fill, ⟨a_Shelf_fill, i_Shelf_fill, k_Shelf_fill⟩, fun us hl => by obtain ⟨_, _, _, rfl⟩ := RM.len3 hl; rfl⟩,
   ⟨Z147, _, Z161 (st := Z531) l__law_filled c__law_filled k__law_filled, PySem.W.mg_of X G a__law_filled, fun us hl => by obtain ⟨_, _, _, rfl⟩ := RM.len3 hl; rfl⟩,
   ⟨Z139, _, Z161 (st := Z523) l_Shelf_check_number c_Shelf_check_number k_Shelf_check_number, ⟨a_Shelf_check_number, i_Shelf_check_number, k_Shelf_check_number⟩, fun us hl => by obtain ⟨_, _, rfl⟩ := RM.len2 hl; rfl⟩,
   ⟨Z141, _, Z161 (st := Z525) l_Shelf_folder c_Shelf_folder k_Shelf_folder, ⟨a_Shelf_folder, i_Shelf_folder, k_Shelf_folder⟩, fun us hl => by obtain ⟨_, _, rfl⟩ := RM.len2 hl; rfl⟩,
   ⟨Z142, _, Z161 (st := Z526) l_Shelf_lose c_Shelf_lose k_Shelf_lose, ⟨a_Shelf_lose, i_Shelf_lose, k_Shelf_lose⟩, fun us hl => by obtain ⟨_, _, rfl⟩ := RM.len2 hl; rfl⟩,
   ⟨Z149, _, Z161 (st := Z533) l__law_missing c__law_missing k__law_missing, PySem.W.mg_of X G a__law_missing, fun us hl => by obtain ⟨_, _, rfl⟩ := RM.len2 hl; rfl⟩,
   ⟨Z148, _, Z161 (st := Z532) l__law_kept c__law_kept k__law_kept, PySem.W.mg_of X G a__law_kept, fun us hl => by obtain ⟨_, _, rfl⟩ := RM.len2 hl; rfl⟩,
   ⟨f_law, _, Z161 (st := s_law) l_law c_law k_law, PySem.W.mg_of X G a_law, fun us hl => by obtain ⟨_, rfl⟩ := RM.len1 hl; rfl⟩⟩⟩
end Pf
namespace PySem.W.Fast
theorem tw16546727572030593280:0=0:=rfl
theorem tw13474790738939379040:0=0:=rfl
theorem tw9043875382823519712:0=0:=rfl
theorem tw16348767898208111168:0=0:=rfl
theorem tw12912072829677314688:0=0:=rfl
theorem tw9692047467519974401:0=0:=rfl
theorem tw11641932449892158561:0=0:=rfl
theorem tw15173335121465697377:0=0:=rfl
theorem tw13893591201993058625:0=0:=rfl
theorem tw11596864343776502113:0=0:=rfl
theorem tw17501146413738730241:0=0:=rfl
theorem tw7816358770556005249:0=0:=rfl
theorem tw6622007685086536066:0=0:=rfl
theorem tw4280982840718832034:0=0:=rfl
theorem tw9042547438698492578:0=0:=rfl
theorem tw14218294978199160578:0=0:=rfl
theorem tw10041635920773856098:0=0:=rfl
theorem tw11260008067364740962:0=0:=rfl
theorem tw1935952170702003203:0=0:=rfl
theorem tw11113479655273457667:0=0:=rfl
theorem tw9172041983129253923:0=0:=rfl
theorem tw4441967144168271939:0=0:=rfl
theorem tw10198341595369067939:0=0:=rfl
theorem tw6504091052048988611:0=0:=rfl
theorem tw17554059478148221475:0=0:=rfl
theorem tw4604322275563483524:0=0:=rfl
theorem tw16789776733946954116:0=0:=rfl
theorem tw2087525010512678756:0=0:=rfl
theorem tw17461219189902189444:0=0:=rfl
theorem tw14775402656544792548:0=0:=rfl
theorem tw2472488058393577509:0=0:=rfl
theorem tw7377616803046991141:0=0:=rfl
theorem tw7577282197098055973:0=0:=rfl
theorem tw4776648240731463013:0=0:=rfl
theorem tw16203485855251193221:0=0:=rfl
theorem tw12829510775224192581:0=0:=rfl
theorem tw15247776348084374309:0=0:=rfl
theorem tw2245082623062432613:0=0:=rfl
theorem tw13287206241584270245:0=0:=rfl
theorem tw13184352591623998598:0=0:=rfl
theorem tw14964757792400926886:0=0:=rfl
theorem tw9759750175014952198:0=0:=rfl
theorem tw6969234426549935526:0=0:=rfl
theorem tw11768073602856772038:0=0:=rfl
theorem tw1354895005598346694:0=0:=rfl
theorem tw5999013401494182502:0=0:=rfl
theorem tw8652492206371650310:0=0:=rfl
theorem tw18124476591057451846:0=0:=rfl
theorem tw5102185605202138022:0=0:=rfl
theorem tw7162599612596293799:0=0:=rfl
theorem tw6012002846409916743:0=0:=rfl
theorem tw7360065748752973191:0=0:=rfl
theorem tw8977862126223016647:0=0:=rfl
theorem tw11226305407731730247:0=0:=rfl
theorem tw3662122758592305063:0=0:=rfl
theorem tw1299915321528842183:0=0:=rfl
theorem tw7449927162898786856:0=0:=rfl
theorem tw2340248299500966536:0=0:=rfl
theorem tw10895932079502351272:0=0:=rfl
theorem tw14614028089880947785:0=0:=rfl
theorem tw9856656242583309513:0=0:=rfl
theorem tw14406635106685758697:0=0:=rfl
theorem tw5734445049006058857:0=0:=rfl
theorem tw3786754260316743049:0=0:=rfl
theorem tw4199232466639661577:0=0:=rfl
theorem tw3778261458793047593:0=0:=rfl
theorem tw13575737329891675785:0=0:=rfl
theorem tw12403143208805697225:0=0:=rfl
theorem tw13422986653842257034:0=0:=rfl
theorem tw6684054560567214218:0=0:=rfl
theorem tw1705608703426950346:0=0:=rfl
theorem tw984831650750668074:0=0:=rfl
theorem tw12461819093043983690:0=0:=rfl
theorem tw8512605603073082698:0=0:=rfl
theorem tw8006804323653562794:0=0:=rfl
theorem tw6311333921773416106:0=0:=rfl
theorem tw8700713892475000682:0=0:=rfl
theorem tw13001562090920768619:0=0:=rfl
theorem tw512431221874327115:0=0:=rfl
theorem tw2931359512949383787:0=0:=rfl
theorem tw338198603380930411:0=0:=rfl
theorem tw12711863389337644140:0=0:=rfl
theorem tw10253472404367626412:0=0:=rfl
theorem tw10090018857930340588:0=0:=rfl
theorem tw16087885570208708076:0=0:=rfl
theorem tw3764213027891321388:0=0:=rfl
theorem tw7408471429371201132:0=0:=rfl
theorem tw15205806885743039212:0=0:=rfl
theorem tw8143726335787258796:0=0:=rfl
theorem tw14317431459291881420:0=0:=rfl
theorem tw10520918859844942925:0=0:=rfl
theorem tw16954387519069865133:0=0:=rfl
theorem tw9389874391972185293:0=0:=rfl
theorem tw6891119580954636077:0=0:=rfl
theorem tw4071075072504692589:0=0:=rfl
theorem tw3613460823284565166:0=0:=rfl
theorem tw1108798458694324398:0=0:=rfl
theorem tw949613456164178414:0=0:=rfl
theorem tw17218448434642867822:0=0:=rfl
theorem tw15326327734683885358:0=0:=rfl
theorem tw17297307607742550063:0=0:=rfl
theorem tw11349228249701943471:0=0:=rfl
theorem tw450379793058398415:0=0:=rfl
theorem tw6648085751032771023:0=0:=rfl
theorem tw17636974240611720751:0=0:=rfl
theorem tw14614335942772728687:0=0:=rfl
theorem tw15837994397930420336:0=0:=rfl
theorem tw3258425580087662800:0=0:=rfl
theorem tw14997119322393148752:0=0:=rfl
theorem tw5851087770335448624:0=0:=rfl
theorem tw605364154064495344:0=0:=rfl
theorem tw10188869800393011952:0=0:=rfl
theorem tw6530613030290222864:0=0:=rfl
theorem tw17115820579699356432:0=0:=rfl
theorem tw18237657765360321456:0=0:=rfl
theorem tw2716734947749550097:0=0:=rfl
theorem tw2589463927111880785:0=0:=rfl
theorem tw16323437651611838577:0=0:=rfl
theorem tw7342160814913956145:0=0:=rfl
theorem tw15561982200005020049:0=0:=rfl
theorem tw12029184234108037553:0=0:=rfl
theorem tw17636863229790257649:0=0:=rfl
theorem tw9229847644095168049:0=0:=rfl
theorem tw3458930577793599313:0=0:=rfl
theorem tw11981011654000113553:0=0:=rfl
theorem tw13453347522964563889:0=0:=rfl
theorem tw5367464452414594098:0=0:=rfl
theorem tw4806864295792981074:0=0:=rfl
theorem tw12517887237920921810:0=0:=rfl
theorem tw13527206928439410962:0=0:=rfl
theorem tw2752583224405593554:0=0:=rfl
theorem tw6967156892793478834:0=0:=rfl
theorem tw15467483087724655474:0=0:=rfl
theorem tw7417463554911693714:0=0:=rfl
theorem tw9175755122814384082:0=0:=rfl
theorem tw5167080073196532787:0=0:=rfl
theorem tw11420823669900273747:0=0:=rfl
theorem tw2468171313327406227:0=0:=rfl
theorem tw15104044121549519059:0=0:=rfl
theorem tw326530933547069747:0=0:=rfl
theorem tw16468853228423138675:0=0:=rfl
theorem tw7637293380610888243:0=0:=rfl
theorem tw1590337258439108339:0=0:=rfl
theorem tw5937314708272103219:0=0:=rfl
theorem tw18238407796184018036:0=0:=rfl
theorem tw17391671695994740980:0=0:=rfl
theorem tw17750974681810239956:0=0:=rfl
theorem tw3817253590984124916:0=0:=rfl
theorem tw16463651346609127988:0=0:=rfl
theorem tw6157074005777576085:0=0:=rfl
theorem tw12395705649676699957:0=0:=rfl
theorem tw2227195094664671893:0=0:=rfl
theorem tw5492844734156328757:0=0:=rfl
theorem tw13591723279275986837:0=0:=rfl
theorem tw36800220339163029:0=0:=rfl
theorem tw15674579849081939030:0=0:=rfl
theorem tw16400811304142628022:0=0:=rfl
theorem tw15514082403950140182:0=0:=rfl
theorem tw1719787323589965654:0=0:=rfl
theorem tw2776777569598164822:0=0:=rfl
theorem tw6072441590572993559:0=0:=rfl
theorem tw13058810580106056823:0=0:=rfl
theorem tw12358242381262602359:0=0:=rfl
theorem tw5921628863365858423:0=0:=rfl
theorem tw1801022722991420759:0=0:=rfl
theorem tw9616861103688537527:0=0:=rfl
theorem tw4002911098238756471:0=0:=rfl
theorem tw4171415189436461815:0=0:=rfl
theorem tw6630370705565496215:0=0:=rfl
theorem tw1015062481317706776:0=0:=rfl
theorem tw5379287903004668088:0=0:=rfl
theorem tw9356934110931411320:0=0:=rfl
theorem tw1180858431469249048:0=0:=rfl
theorem tw8841753010073301528:0=0:=rfl
theorem tw14957646950693867128:0=0:=rfl
theorem tw11843392343318268632:0=0:=rfl
theorem tw3720492582560035545:0=0:=rfl
theorem tw8384149941283202362:0=0:=rfl
theorem tw13357079325169789274:0=0:=rfl
theorem tw15593762567550412282:0=0:=rfl
theorem tw16757969897135465978:0=0:=rfl
theorem tw892663180411059802:0=0:=rfl
theorem tw11503282788676471578:0=0:=rfl
theorem tw13936138744535342970:0=0:=rfl
theorem tw6218009228633061274:0=0:=rfl
theorem tw13261804894533808058:0=0:=rfl
theorem tw16110889332600749243:0=0:=rfl
theorem tw7049108385033727195:0=0:=rfl
theorem tw6978787390394246459:0=0:=rfl
theorem tw11140667784687697275:0=0:=rfl
theorem tw14212145654148079163:0=0:=rfl
theorem tw4673617986902464283:0=0:=rfl
theorem tw10836523537888708507:0=0:=rfl
theorem tw1737532104675361723:0=0:=rfl
theorem tw6738276495489328123:0=0:=rfl
theorem tw2748623862151235644:0=0:=rfl
theorem tw4927375775699975356:0=0:=rfl
theorem tw3923840510983483708:0=0:=rfl
theorem tw2758871621493796156:0=0:=rfl
theorem tw7026090145230118492:0=0:=rfl
theorem tw15796309587321004700:0=0:=rfl
theorem tw14631513481382013692:0=0:=rfl
theorem tw5454347734900539228:0=0:=rfl
theorem tw3107981524872632316:0=0:=rfl
theorem tw16067657084828798557:0=0:=rfl
theorem tw16447690511679832765:0=0:=rfl
theorem tw4779375552863318877:0=0:=rfl
theorem tw14382181333552877565:0=0:=rfl
theorem tw10116930332298277982:0=0:=rfl
theorem tw11746743155954230750:0=0:=rfl
theorem tw9872375013243475614:0=0:=rfl
theorem tw6329813037194293343:0=0:=rfl
theorem tw11273994435068879999:0=0:=rfl
theorem tw15396741323445791967:0=0:=rfl
theorem tw11946317224737547679:0=0:=rfl
theorem tw6259940135158477247:0=0:=rfl
theorem tw13875862735647485439:0=0:=rfl
theorem tw12638014738130887263:0=0:=rfl
theorem tw4943686613055613951:0=0:=rfl
theorem tw18014108433880785724:0=0:=rfl
end PySem.W.Fast
open PySem PySem.W PyProof.Rows
set_option maxRecDepth 100000 in
set_option maxHeartbeats 0 in
theorem PySem.Challenge.cw_papercircle_k04_shelf_numbers_holds : PySem.Challenge.rw_papercircle_k04_shelf_numbers.Holds := by
  w_on; o_law; k_head; (case hw => w_witness2)
  k_fill
  refine L2.Z665 (l := PySem.Challenge.rw_papercircle_k04_shelf_numbers) (n := 63) (k := 6) (x := "_law_script") (CX := fun w => L2.CX1 PySem.Challenge.pw_papercircle_k04_shelf_numbers w) (sp := fun w => RM.spLaw _) rfl (by decide) rfl ⟨rfl, by decide, by decide, rfl⟩ (fun w h Y => PySem.W.kIn_of Y) ?F (fun w H a ns hl hO hS => RM.Z562 hl hS) (fun _ _ _ _ _ z => L2.Z61 z)
  case F =>
    intro w mg fa h KX G hmg
    have T : ∃ A, Pf.Txt (L2.KOf KX) mg A := by
      dsimp only [L2.KOf]
      refine' Pf.Z595 KX G ?z_all ?z_bool ?z_enumerate ?z_int ?z_isinstance ?z_len ?z_list ?z_max ?z_min ?z_range ?z_str ?z_tuple ?v_NEW_MOST ?r_NEW_MOST ?y_Shelf ?pg_Shelf ?hd_Shelf ?po_Shelf ?sa_Shelf ?n_Shelf_gone ?n_Shelf_made ?n_Shelf_many ?n_Shelf_numbers ?y_BadCounts ?q_BadCounts ?y_UnknownFolder ?q_UnknownFolder ?m_BadCounts_BadCounts ?m_BadCounts_UnknownFolder ?m_UnknownFolder_BadCounts ?m_UnknownFolder_UnknownFolder ?a_Shelf___init__ ?i_Shelf___init__ ?l_Shelf___init__ ?c_Shelf___init__ ?k_Shelf___init__ ?mk_Shelf ?kc_Shelf ?a__law_at ?l__law_at ?c__law_at ?k__law_at ?a__law_figures ?l__law_figures ?c__law_figures ?k__law_figures ?a__law_drawn_counts ?l__law_drawn_counts ?c__law_drawn_counts ?k__law_drawn_counts ?a__law_same ?l__law_same ?c__law_same ?k__law_same ?a_Shelf_check_counts ?i_Shelf_check_counts ?l_Shelf_check_counts ?c_Shelf_check_counts ?k_Shelf_check_counts ?a_Shelf_make ?i_Shelf_make ?l_Shelf_make ?c_Shelf_make ?k_Shelf_make ?a_Shelf_fill ?i_Shelf_fill ?l_Shelf_fill ?c_Shelf_fill ?k_Shelf_fill ?a__law_filled ?l__law_filled ?c__law_filled ?k__law_filled ?a_Shelf_check_number ?i_Shelf_check_number ?l_Shelf_check_number ?c_Shelf_check_number ?k_Shelf_check_number ?a_Shelf_folder ?i_Shelf_folder ?l_Shelf_folder ?c_Shelf_folder ?k_Shelf_folder ?a_Shelf_lose ?i_Shelf_lose ?l_Shelf_lose ?c_Shelf_lose ?k_Shelf_lose ?a__law_missing ?l__law_missing ?c__law_missing ?k__law_missing ?a__law_kept ?l__law_kept ?c__law_kept ?k__law_kept ?a_law ?l_law ?c_law ?k_law
      (case z_all => k_is)
      (case z_bool => k_is)
      (case z_enumerate => k_is)
      (case z_int => k_is)
      (case z_isinstance => k_is)
      (case z_len => k_is)
      (case z_list => k_is)
      (case z_max => k_is)
      (case z_min => k_is)
      (case z_range => k_is)
      (case z_str => k_is)
      (case z_tuple => k_is)
      (case v_NEW_MOST => k_is)
      (case r_NEW_MOST => exact ⟨_, rfl⟩)
      (case y_Shelf => k_is)
      (case pg_Shelf => k_is)
      (case hd_Shelf => k_is)
      (case po_Shelf => k_is)
      (case sa_Shelf => k_is)
      (case n_Shelf_gone => k_is)
      (case n_Shelf_made => k_is)
      (case n_Shelf_many => k_is)
      (case n_Shelf_numbers => k_is)
      (case y_BadCounts => k_is)
      (case q_BadCounts => k_exc)
      (case y_UnknownFolder => k_is)
      (case q_UnknownFolder => k_exc)
      (case m_BadCounts_BadCounts => kts_exm)
      (case m_BadCounts_UnknownFolder => kts_exm)
      (case m_UnknownFolder_BadCounts => kts_exm)
      (case m_UnknownFolder_UnknownFolder => kts_exm)
      (case a_Shelf___init__ => k_is)
      (case i_Shelf___init__ => k_is)
      (case l_Shelf___init__ => k_is)
      (case c_Shelf___init__ => k_is)
      (case k_Shelf___init__ => k_is)
      (case mk_Shelf => k_is)
      (case kc_Shelf => k_is)
      (case a__law_at => k_is)
      (case l__law_at => k_is)
      (case c__law_at => k_is)
      (case k__law_at => k_is)
      (case a__law_figures => k_is)
      (case l__law_figures => k_is)
      (case c__law_figures => k_is)
      (case k__law_figures => k_is)
      (case a__law_drawn_counts => k_is)
      (case l__law_drawn_counts => k_is)
      (case c__law_drawn_counts => k_is)
      (case k__law_drawn_counts => k_is)
      (case a__law_same => k_is)
      (case l__law_same => k_is)
      (case c__law_same => k_is)
      (case k__law_same => k_is)
      (case a_Shelf_check_counts => k_is)
      (case i_Shelf_check_counts => k_is)
      (case l_Shelf_check_counts => k_is)
      (case c_Shelf_check_counts => k_is)
      (case k_Shelf_check_counts => k_is)
      (case a_Shelf_make => k_is)
      (case i_Shelf_make => k_is)
      (case l_Shelf_make => k_is)
      (case c_Shelf_make => k_is)
      (case k_Shelf_make => k_is)
      (case a_Shelf_fill => k_is)
      (case i_Shelf_fill => k_is)
      (case l_Shelf_fill => k_is)
      (case c_Shelf_fill => k_is)
      (case k_Shelf_fill => k_is)
      (case a__law_filled => k_is)
      (case l__law_filled => k_is)
      (case c__law_filled => k_is)
      (case k__law_filled => k_is)
      (case a_Shelf_check_number => k_is)
      (case i_Shelf_check_number => k_is)
      (case l_Shelf_check_number => k_is)
      (case c_Shelf_check_number => k_is)
      (case k_Shelf_check_number => k_is)
      (case a_Shelf_folder => k_is)
      (case i_Shelf_folder => k_is)
      (case l_Shelf_folder => k_is)
      (case c_Shelf_folder => k_is)
      (case k_Shelf_folder => k_is)
      (case a_Shelf_lose => k_is)
      (case i_Shelf_lose => k_is)
      (case l_Shelf_lose => k_is)
      (case c_Shelf_lose => k_is)
      (case k_Shelf_lose => k_is)
      (case a__law_missing => k_is)
      (case l__law_missing => k_is)
      (case c__law_missing => k_is)
      (case k__law_missing => k_is)
      (case a__law_kept => k_is)
      (case l__law_kept => k_is)
      (case c__law_kept => k_is)
      (case k__law_kept => k_is)
      (case a_law => k_is)
      (case l_law => k_is)
      (case c_law => k_is)
      (case k_law => k_is)
    obtain ⟨A, T⟩ := T
    exact L2.Z287 T.a_law (fun base => RM.DefX.imp (Pf.Z374 T) fun vs H Q E h => RM.Z288 (fun k ns hk hl => Pf.v_law k ns hk hl) h) hmg
