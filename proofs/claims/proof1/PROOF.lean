import PyProof.Rows.All
import Wide.All
import OpenK.AllK
import Wide.FinOn
import PyProof.EqAt
import PyProof.EqKinds
import PyProof.TupleCall
import KE.BitLaws
import Open.SpecLaws
import KE.OsHead
import KE.OsGo
import PyProof.ZipIter
import PyProof.Draws
import PyProof.WalksMore
import PyProof.EnumMake
import PyProof.Rows.TupAdd
import PySem.Challenge.RW_sortingbelts_s01_answers
set_option Elab.async false
set_option linter.all false
set_option maxRecDepth 100000
set_option maxHeartbeats 4000000
section
namespace L2
open PySem PySem.Spec PyProof.Rows
abbrev Key := Sum Int Str
def keyIs : Key → Value → Bool
 | .inl k, v => Value.isInt k v
 | .inr x, v => Value.isStrOf x v
def keyH (w : World) : Key → Int
 | .inl k => hashInt k
 | .inr x => hashStr w x
theorem keyIs_shape : ∀ {k : Key} {v : Value}, keyIs k v = true → (∃ i t, k = Sum.inl i ∧ v = Value.int i t) ∨ (∃ x t, k = Sum.inr x ∧ v = Value.str x t)
 | .inl i, v, h => by
  obtain ⟨t, e⟩ := Value.isInt_shape (k := i) (v := v) h
  exact .inl ⟨i, t, rfl, e⟩
 | .inr x, v, h => by
  obtain ⟨t, e⟩ := Value.isStrOf_shape (x := x) (v := v) h
  exact .inr ⟨x, t, rfl, e⟩
theorem key_ll (a b : Int) : decide ((Sum.inl a : Key) = Sum.inl b) = (a == b) := by
 by_cases e : a = b
 ·subst e; simp
 ·have h : ¬ (Sum.inl a : Key) = Sum.inl b := fun q => e (Sum.inl.inj q)
  rw [decide_eq_false h]
  exact (beq_eq_false_iff_ne.mpr e).symm
theorem key_rr (a b : Str) : decide ((Sum.inr a : Key) = Sum.inr b) = decide (a = b) := by
 by_cases e : a = b
 ·subst e; simp
 ·have h : ¬ (Sum.inr a : Key) = Sum.inr b := fun q => e (Sum.inr.inj q)
  rw [decide_eq_false h, decide_eq_false e]
theorem key_lr (a : Int) (b : Str) : decide ((Sum.inl a : Key) = Sum.inr b) = false := decide_eq_false (fun q => nomatch q)
theorem key_rl (a : Str) (b : Int) : decide ((Sum.inr a : Key) = Sum.inl b) = false := decide_eq_false (fun q => nomatch q)
def mixKind (prog : Program) (w : World) : PySem.KeyKind prog w Key where
 is := keyIs
 hash := keyH w
 inj := fun v a b ha hb => by
  rcases keyIs_shape ha with ⟨i, t, rfl, rfl⟩ | ⟨x, t, rfl, rfl⟩
  ·rcases keyIs_shape hb with ⟨j, u, rfl, e⟩ | ⟨y, u, rfl, e⟩
   ·injection e with e1 _; rw [e1]
   ·exact nomatch e
  ·rcases keyIs_shape hb with ⟨j, u, rfl, e⟩ | ⟨y, u, rfl, e⟩
   ·exact nomatch e
   ·injection e with e1 _; rw [e1]
 byValue := fun k v h => by
  rcases keyIs_shape h with ⟨i, t, rfl, rfl⟩ | ⟨x, t, rfl, rfl⟩ <;> rfl
 pyHash := fun hv h => by
  rcases keyIs_shape hv with ⟨i, t, rfl, rfl⟩ | ⟨x, t, rfl, rfl⟩
  ·exact wpAny_pyHash_int h
  ·exact wpAny_pyHash_str h
 eqBool := fun hu hv h => by
  rcases keyIs_shape hu with ⟨i, t, rfl, rfl⟩ | ⟨x, t, rfl, rfl⟩
  ·rcases keyIs_shape hv with ⟨j, u, rfl, rfl⟩ | ⟨y, u, rfl, rfl⟩
   ·rw [key_ll] at h; exact wpAny_eqBool_int h
   ·rw [key_lr] at h; exact SeqAt.EqAt.int_str i t y u _ _ _ _ h
  ·rcases keyIs_shape hv with ⟨j, u, rfl, rfl⟩ | ⟨y, u, rfl, rfl⟩
   ·rw [key_rl] at h; exact SeqAt.EqAt.str_int x t j u _ _ _ _ h
   ·rw [key_rr] at h; exact wpAny_eqBool_str h
 «strs» := fun k x t v h => by
  rcases keyIs_shape h with ⟨i, u, rfl, e⟩ | ⟨y, u, rfl, e⟩
  ·exact nomatch e
  ·injection e with e1 _
   subst e1
   cases v <;> rfl
end L2
namespace L2
open PySem PySem.Spec PyProof.Rows
inductive V where
 | non | bl (b : Bool) | int (i : Int) | str (x : Str) | byt (b : Array UInt8) | flt (b : UInt64) | ref (a : Addr) | ty (n : String)
 deriving DecidableEq
def RelV : V → Value → Prop
 | .non, u => u = Value.none
 | .bl b, u => u = Value.bool b
 | .int i, u => ∃ t, u = Value.int i t
 | .str x, u => ∃ t, u = Value.str x t
 | .byt b, u => ∃ t, u = Value.bytes b t
 | .flt b, u => ∃ t, u = Value.float b t
 | .ref a, u => u = Value.ref a
 | .ty n, u => u = Value.type n
abbrev Vals : List V → List Value → Prop := Paired RelV
theorem Vals.length {xs : List V} {us : List Value} (r : Vals xs us) : xs.length = us.length := Paired.length r
theorem Vals.get : ∀ {xs : List V} {us : List Value} {i : Nat} {x : V}, Vals xs us → xs[i]? = some x → ∃ u, us[i]? = some u ∧ RelV x u
 | _, _, _, _, .nil, e => by simp at e
 | _, _, 0, _, .cons r _, e => by simp at e; subst e; exact ⟨_, rfl, r⟩
 | _, _, i + 1, x, .cons _ t, e => by
  obtain ⟨u, h1, h2⟩ := Vals.get (i := i) (x := x) t (by simpa using e)
  exact ⟨u, by simpa using h1, h2⟩
theorem Vals.set {x : V} {u : Value} (r : RelV x u) : ∀ {xs : List V} {us : List Value} (i : Nat), Vals xs us → Vals (xs.set i x) (us.set i u)
 | _, _, _, .nil => .nil
 | _, _, 0, .cons _ t => .cons r t
 | _, _, i + 1, .cons q t => .cons q (Vals.set r i t)
theorem Vals.append : ∀ {xs ys : List V} {us ws : List Value}, Vals xs us → Vals ys ws → Vals (xs ++ ys) (us ++ ws)
 | _, _, _, _, .nil, s => s
 | _, _, _, _, .cons r t, s => .cons r (Vals.append t s)
theorem Vals.take : ∀ {xs : List V} {us : List Value} (n : Nat), Vals xs us → Vals (xs.take n) (us.take n)
 | _, _, 0, _ => .nil
 | _, _, _ + 1, .nil => .nil
 | _, _, n + 1, .cons r t => .cons r (Vals.take n t)
theorem Vals.drop : ∀ {xs : List V} {us : List Value} (n : Nat), Vals xs us → Vals (xs.drop n) (us.drop n)
 | _, _, 0, r => r
 | _, _, _ + 1, .nil => .nil
 | _, _, n + 1, .cons _ t => Vals.drop n t
def RelO : Option V → Option Value → Prop
 | some v, some u => RelV v u
 | none, none => True
 | _, _ => False
def KV {κ : Type} : List (κ × V) → List (κ × Value) → Prop := Paired fun (p : κ × V) (q : κ × Value) => p.1 = q.1 ∧ RelV p.2 q.2
def kV : Key → V
 | .inl i => .int i
 | .inr x => .str x
inductive HO where
  | lst (xs : List V)
  | tup (xs : List V)
  | dK (kvs : List (Key × V)) | dT (kvs : List (List Key × V))
  | set (S : Int → Bool) (n : Nat)
  | ins (C dx : Addr) (fs : List (Str × V))
  | own (x : Addr)
  | xd (fs : List (Str × V))
  | met (f x : Addr)
  | rng (lo hi : Int)
  | frz (o : Obj) (u : HO)
  | tbl (ps : Array Value)
  | ext (φ : Heap → Prop)
abbrev Hp := Addr → Option HO
def upd (H : Hp) (a : Addr) (o : HO) : Hp := fun b => if b = a then some o else H b
theorem upd_same {H : Hp} {a : Addr} {o : HO} : upd H a o a = some o := by unfold upd; rw [if_pos rfl]
theorem upd_ne {H : Hp} {a b : Addr} {o : HO} (h : b ≠ a) : upd H a o b = H b := by unfold upd; rw [if_neg h]
theorem upd_upd {H : Hp} {a : Addr} {o u : HO} : upd (upd H a o) a u = upd H a u := by
 funext b; unfold upd; split <;> rfl
theorem ne_of {H : Hp} {a b : Addr} {o u : HO} (h : H a = some o) (h' : H b = some u) (d : o ≠ u) : a ≠ b := by
 intro e; subst e; rw [h] at h'; exact d (Option.some.inj h')
theorem ne_of_none {H : Hp} {a b : Addr} {o : HO} (h : H a = some o) (h' : H b = none) : a ≠ b := by
 intro e; subst e; rw [h] at h'; cases h'
section
variable (P : Program) (w : World)
def ObjOk (H : Hp) (h : Heap) (a : Addr) : HO → Prop
 | .lst xs => xs.length ≤ sizeLine ∧ ∃ (its : List Value) (n : Nat), Vals xs its ∧ h.get? a = some { cls := .type "list", data := .seq its.toArray n }
 | .tup xs => xs.length ≤ sizeLine ∧ ∃ its : List Value, Vals xs its ∧ IsTup h a its.toArray
 | .dK kvs => kvs.length ≤ sizeLine ∧ (a == sysModules) = false ∧ ∃ vs, KV kvs vs ∧ h.DictOf (mixKind P w) a vs
 | .dT kvs => kvs.length ≤ sizeLine ∧ (a == sysModules) = false ∧ ∃ xs : List (List Key × Addr × Value),
   Paired (fun (p : List Key × V) (q : List Key × Addr × Value) => p.1 = q.1 ∧ H q.2.1 = some (.tup (p.1.map kV)) ∧ RelV p.2 q.2.2) kvs xs ∧
   ∃ o es ep, h.get? a = some o ∧ o.ExactDict ∧ o.data = .dict es ep ∧ es.toList = xs.map (entryOfKey (tupleKind (mixKind P w))) ∧ (xs.map (·.1)).Nodup
 | .set S n => h.SetOf (intKind P w) a S n
 | .ins C dx fs => H dx = some (.own a) ∧ fs.length ≤ 1000 ∧ dx ≠ a ∧ h.get? a = some (PySem.W.instObj C dx) ∧
   ∃ mA, h.Ns1 dx mA ∧ (∀ f, RelO (fs.lookup f) (mA f)) ∧ PySem.Within mA (fs.map (·.1))
 | .own _ => ∃ o, h.get? a = some o
 | .xd fs => ∃ mA, h.Ns1 a mA ∧ ∀ f, RelO (fs.lookup f) (mA f)
 | .rng lo hi => ∃ t u v, h.get? a = some { cls := .type "range", data := .fields #[.int lo t, .int hi u, .int 1 v] }
 | .frz o u => h.get? a = some o ∧ ObjOk H h a u
 | .tbl ps => h.get? a = some { cls := .none, data := .fields ps }
 | .met f x => h.get? a = some (PySem.W.methodObj (.ref f) (.ref x))
 | .ext φ => φ h ∧ (∃ o, h.get? a = some o) ∧ ∀ h1 h2 : Heap, φ h1 → (∀ o, h1.get? a = some o → h2.get? a = some o) → φ h2
def HOk (H : Hp) (h : Heap) : Prop := ∀ a o, H a = some o → ObjOk P w H h a o
end
section
variable {P : Program} {w : World} {H H' : Hp} {h h' : Heap} {a : Addr} {o : HO}
theorem ObjOk.lt (x : ObjOk P w H h a o) : a < h.objs.size := by
 cases o with
 | lst xs => obtain ⟨_, _, _, _, e⟩ := x; exact Heap.lt_size e
 | tup xs => obtain ⟨_, _, _, p⟩ := x; exact p.lt
 | dK kvs => obtain ⟨_, _, _, _, o, _, _, e, _⟩ := x; exact Heap.lt_size e
 | dT kvs => obtain ⟨_, _, _, _, o, _, _, e, _⟩ := x; exact Heap.lt_size e
 | set S n => obtain ⟨o, _, _, _, e, _⟩ := x; exact Heap.lt_size e
 | ins C dx fs => obtain ⟨_, _, _, e, _⟩ := x; exact Heap.lt_size e
 | own y => obtain ⟨_, e⟩ := x; exact Heap.lt_size e
 | xd fs => obtain ⟨_, ⟨_, _, _, e, _⟩, _⟩ := x; exact Heap.lt_size e
 | rng lo hi => obtain ⟨_, _, _, e⟩ := x; exact Heap.lt_size e
 | frz ob u => obtain ⟨e, _⟩ := x; exact Heap.lt_size e
 | tbl ps => exact Heap.lt_size (show h.get? a = some _ from x)
 | met f y => exact Heap.lt_size (show h.get? a = some _ from x)
 | ext φ => obtain ⟨_, ⟨_, e⟩, _⟩ := x; exact Heap.lt_size e
theorem Paired.mapP {α β : Type} {F G : α → β → Prop} : ∀ {l₁ : List α} {l₂ : List β}, Paired F l₁ l₂ → (∀ a b, F a b → G a b) → Paired G l₁ l₂
 | _, _, .nil, _ => .nil
 | _, _, .cons r t, f => .cons (f _ _ r) (Paired.mapP t f)
theorem ObjOk.stay (x : ObjOk P w H h a o) (k : ∀ b u, (b = a ∨ H b = some (.own a)) → h.get? b = some u → h'.get? b = some u)
  (ho : ∀ b, H b = some (.own a) → H' b = some (.own a)) (ht : ∀ b xs, H b = some (.tup xs) → H' b = some (.tup xs)) : ObjOk P w H' h' a o := by
 induction o with
 | lst xs => obtain ⟨z, its, n, r, e⟩ := x; exact ⟨z, its, n, r, k _ _ (.inl rfl) e⟩
 | tup xs => obtain ⟨z, its, r, ob, e, c⟩ := x; exact ⟨z, its, r, ob, k _ _ (.inl rfl) e, c⟩
 | dK kvs => obtain ⟨z, y, vs, r, ob, es, ep, e, c⟩ := x; exact ⟨z, y, vs, r, ob, es, ep, k _ _ (.inl rfl) e, c⟩
 | dT kvs =>
  obtain ⟨z, y, xs, r, ob, es, ep, e, c⟩ := x
  exact ⟨z, y, xs, Paired.mapP r fun p q z => ⟨z.1, ht _ _ z.2.1, z.2.2⟩, ob, es, ep, k _ _ (.inl rfl) e, c⟩
 | set S n => obtain ⟨ob, es, ep, t, e, c⟩ := x; exact ⟨ob, es, ep, t, k _ _ (.inl rfl) e, c⟩
 | ins C dx fs =>
  obtain ⟨d, z, ne, e, mA, ⟨od, es, ep, e2, c⟩, r⟩ := x
  exact ⟨ho _ d, z, ne, k _ _ (.inl rfl) e, mA, ⟨od, es, ep, k _ _ (.inr d) e2, c⟩, r⟩
 | own y => obtain ⟨ob, e⟩ := x; exact ⟨ob, k _ _ (.inl rfl) e⟩
 | xd fs => obtain ⟨mA, ⟨od, es, ep, e, c⟩, r⟩ := x; exact ⟨mA, ⟨od, es, ep, k _ _ (.inl rfl) e, c⟩, r⟩
 | rng lo hi => obtain ⟨t, u, v, e⟩ := x; exact ⟨t, u, v, k _ _ (.inl rfl) e⟩
 | frz ob u ih => obtain ⟨e, q⟩ := x; exact ⟨k _ _ (.inl rfl) e, ih q⟩
 | tbl ps =>
  have e : h.get? a = some { cls := .none, data := .fields ps } := x
  show h'.get? a = some { cls := .none, data := .fields ps }
  exact k a _ (.inl rfl) e
 | met f y =>
  have e : h.get? a = some (PySem.W.methodObj (.ref f) (.ref y)) := x
  show h'.get? a = some (PySem.W.methodObj (.ref f) (.ref y))
  exact k a _ (.inl rfl) e
 | ext φ => obtain ⟨p, ⟨o, e⟩, st⟩ := x; exact ⟨st _ _ p fun o q => k _ _ (.inl rfl) q, ⟨o, k _ _ (.inl rfl) e⟩, st⟩
theorem HOk.lt (x : HOk P w H h) (e : H a = some o) : a < h.objs.size := (x a o e).lt
theorem HOk.fresh (x : HOk P w H h) (e : h.objs.size ≤ a) : H a = none := by
 cases q : H a with
 | none => rfl
 | some u => exact absurd (Nat.lt_of_lt_of_le (x.lt q) e) (Nat.lt_irrefl _)
theorem HOk.kept (x : HOk P w H h) (k : ∀ b u, h.get? b = some u → h'.get? b = some u) : HOk P w H h' := fun a o e =>
 (x a o e).stay (fun b u _ q => k b u q) (fun _ q => q) fun _ _ q => q
theorem HOk.laid (x : HOk P w H h) (k : ∀ b u, h.get? b = some u → h'.get? b = some u) (hp : h.objs.size ≤ a) (new : ObjOk P w (upd H a o) h' a o) : HOk P w (upd H a o) h' := fun b u e => by
 have hn := x.fresh hp
 by_cases hb : b = a
 ·subst hb; rw [upd_same] at e; cases e; exact new
 ·rw [upd_ne hb] at e
  exact (x b u e).stay (fun c v _ q => k c v q) (fun c q => by rw [upd_ne (ne_of_none q hn)]; exact q) fun c xs q => by rw [upd_ne (ne_of_none q hn)]; exact q
end
def Rd (H : Hp) (a : Addr) (u : HO) : Prop := H a = some u ∨ ∃ o, H a = some (.frz o u)
theorem Rd.ok {P : Program} {w : World} {H : Hp} {h : Heap} {a : Addr} {u : HO} (r : Rd H a u) (x : HOk P w H h) : ObjOk P w H h a u := by
 rcases r with r | ⟨o, r⟩
 ·exact x a u r
 ·obtain ⟨_, q⟩ := x a _ r
  exact q
def Mut : Option HO → Prop
 | some (.lst _) => True
 | some (.dK _) => True
 | some (.dT _) => True
 | some (.set _ _) => True
 | some (.ins _ _ _) => True
 | some (.ext _) => True
 | _ => False
section
variable {P : Program} {w : World} {H : Hp} {h h' : Heap} {x e : Addr} {o' : HO}
theorem HOk.write (ok : HOk P w H h) (mu : Mut (H x)) (he : e = x ∨ H e = some (.own x)) (k : ∀ b u, b ≠ e → h.get? b = some u → h'.get? b = some u) (heo : ∃ u, h'.get? e = some u)
  (new : ObjOk P w (upd H x o') h' x o') : HOk P w (upd H x o') h' := fun b u q => by
 have nown : ∀ c y, H c = some (.own y) → c ≠ x := fun c y r z => by subst z; rw [r] at mu; exact mu
 have ntup : ∀ c xs, H c = some (.tup xs) → c ≠ x := fun c xs r z => by subst z; rw [r] at mu; exact mu
 by_cases hb : b = x
 ·subst hb; rw [upd_same] at q; cases q; exact new
 ·rw [upd_ne hb] at q
  by_cases hbe : b = e
  ·have q' : H b = some (.own x) := by
    rcases he with z | z
    ·exact absurd (hbe.trans z) hb
    ·rw [hbe]; exact z
   rw [q] at q'; cases q'
   obtain ⟨v, hv⟩ := heo
   exact ⟨v, by rw [hbe]; exact hv⟩
  ·refine (ok b u q).stay (fun c v hc r => k c v ?_ r) (fun c r => by rw [upd_ne (nown c b r)]; exact r) fun c xs r => by rw [upd_ne (ntup c xs r)]; exact r
   rcases hc with rfl | hc
   ·exact hbe
   ·rintro rfl
    rcases he with z | z
    ·exact nown c b hc z
    ·rw [hc] at z; cases z; exact hb rfl
end
structure Un (fs ex : List Addr) (H H' : Hp) (h h' : Heap) : Prop where
 keep : ∀ b o, h.get? b = some o → H b = none → b ∉ fs → b ∉ ex → h'.get? b = some o
 slot : ∀ b o, h.get? b = some o → H b = none → b ∈ fs → b ∉ ex → ∃ sl, h'.get? b = some { o with slots := sl }
 free : ∀ b o, h.get? b = some o → H b = none → b ∉ ex → H' b = none
 there : ∀ b o, h.get? b = some o → b ∉ ex → ∃ o', h'.get? b = some o'
 tups : ∀ b xs, H b = some (.tup xs) → H' b = some (.tup xs)
 frzs : ∀ b o u, H b = some (.frz o u) → H' b = some (.frz o u)
 tbls : ∀ b ps, H b = some (.tbl ps) → ∃ more, H' b = some (.tbl (ps ++ more))
section
variable {fs fs' ex ex' : List Addr} {H H1 H2 : Hp} {h h1 h2 h' : Heap} {a x e : Addr} {o : HO}
theorem Un.any (u : Un fs ex H H1 h h1) {b : Addr} {ob : Obj} (q : h.get? b = some ob) (n : H b = none) (hx : b ∉ ex) : ∃ sl, h1.get? b = some { ob with slots := sl } := by
 by_cases hb : b ∈ fs
 ·exact u.slot b ob q n hb hx
 ·exact ⟨ob.slots, u.keep b ob q n hb hx⟩
theorem Un.kept (k : ∀ b u, h.get? b = some u → h'.get? b = some u) : Un fs ex H H h h' :=
 ⟨fun b ob q _ _ _ => k b ob q, fun b ob q _ _ _ => ⟨ob.slots, k b ob q⟩, fun _ _ _ n _ => n, fun b ob q _ => ⟨ob, k b ob q⟩, fun _ _ q => q, fun _ _ _ q => q, fun _ ps q => ⟨#[], by rw [q]; simp⟩⟩
theorem Un.refl : Un fs ex H H h h := Un.kept fun _ _ q => q
theorem Un.laid (k : ∀ b u, h.get? b = some u → h'.get? b = some u) (hp : h.objs.size ≤ a) (hn : H a = none) : Un fs ex H (upd H a o) h h' where
 keep := fun b u q _ _ _ => k b u q
 slot := fun b u q _ _ _ => ⟨u.slots, k b u q⟩
 free := fun b u q n _ => by rw [upd_ne (Nat.ne_of_lt (Nat.lt_of_lt_of_le (Heap.lt_size q) hp))]; exact n
 there := fun b u q _ => ⟨u, k b u q⟩
 tups := fun b xs q => by rw [upd_ne (ne_of_none q hn)]; exact q
 frzs := fun b u xs q => by rw [upd_ne (ne_of_none q hn)]; exact q
 tbls := fun b ps q => ⟨#[], by rw [upd_ne (ne_of_none q hn), q]; simp⟩
theorem Un.write (mu : Mut (H x)) (he : e = x ∨ H e = some (.own x)) (k : ∀ b u, b ≠ e → h.get? b = some u → h'.get? b = some u) (heo : ∃ u, h'.get? e = some u) : Un fs ex H (upd H x o) h h' := by
 have hx : ∀ b, H b = none → b ≠ x := fun b n z => by subst z; rw [n] at mu; exact mu
 have hb : ∀ b, H b = none → b ≠ e := fun b n z => by
  subst z
  rcases he with r | r
  ·exact hx b n r
  ·rw [n] at r; cases r
 have hm : ∀ b u, H b = some u → ¬ Mut (some u) → b ≠ x := fun b u q nm z => by subst z; rw [q] at mu; exact nm mu
 refine ⟨fun b u q n _ _ => k b u (hb b n) q, fun b u q n _ _ => ⟨u.slots, k b u (hb b n) q⟩, fun b u q n _ => by rw [upd_ne (hx b n)]; exact n, fun b u q _ => ?_,
  fun b xs q => by rw [upd_ne (hm b _ q fun z => z)]; exact q, fun b u xs q => by rw [upd_ne (hm b _ q fun z => z)]; exact q, fun b ps q => ⟨#[], by rw [upd_ne (hm b _ q fun z => z), q]; simp⟩⟩
 by_cases hbe : b = e
 ·subst hbe; exact heo
 ·exact ⟨u, k b u hbe q⟩
end
def trk (h : Heap) (H : Hp) : List Addr := (List.range h.objs.size).filter fun a => (H a).isSome
def hidT (h : Heap) (H : Hp) : Heap := PySem.W.hideAll h (trk h H)
theorem hidT_size (h : Heap) (H : Hp) : (hidT h H).objs.size = h.objs.size := PySem.W.hideAll_size _ _
theorem hidT_get {h : Heap} {H : Hp} {b : Addr} {o : Obj} (e : h.get? b = some o) (n : H b = none) : (hidT h H).get? b = some o :=
 PySem.W.hideAll_get _ e fun hm => by
  have q : (H b).isSome = true := (List.mem_filter.mp hm).2
  rw [n] at q; simp at q
theorem of_hidT {h : Heap} {H : Hp} {b : Addr} {o : Obj} (e : (hidT h H).get? b = some o) : h.get? b = some o ∧ H b = none := by
 have e' : h.get? b = some o := PySem.W.of_hideAll (trk h H) e
 refine ⟨e', ?_⟩
 cases q : H b with
 | none => rfl
 | some x =>
  have hm : b ∈ trk h H := List.mem_filter.mpr ⟨List.mem_range.mpr (Heap.lt_size e'), by simp [q]⟩
  have z : (hidT h H).get? b = none := PySem.W.hideAll_none (trk h H) hm
  rw [z] at e; cases e
end L2
namespace L2
open PySem PySem.Spec PyProof.Rows
structure Mod (K : PySem.W.Frag) (mg : Str → Option Value) (base : Heap) : Prop where
 kin : K.In base
 glob : base.Ns mainGlobals mg
 blt : ∃ mb, base.Ns builtinsNs mb ∧ ∀ x : Str, x ≠ "__name__" → mb x = bootBuiltins x
 nolimit : base.NoLimit
structure Cx where
 prog : Program
 w : World
 K : PySem.W.Frag
 mg : Str → Option Value
 base : Heap
 A : Around
 N : List Str
 s_0 : Shared
 H_0 : Hp
 env : Env
 outer : List Env
 stack : List Env
 ex : List Addr
 fn : Str → Bool
 calm : Bool
 pn : List (Addr × Obj)
 xe : Value → Shared → Prop
def frs (l : List Env) : List Addr := l.filterMap (·.frame)
abbrev Cx.fs (X : Cx) : List Addr := frs X.outer
def Vis (sc : Scope) (x : Str) : Prop := sc.names.lookup x = some .local ∨ sc.names.lookup x = some .cell ∨ sc.names.lookup x = some .free
def Loc (sc : Scope) (x : Str) : Prop := sc.names.lookup x = some .local ∨ sc.names.lookup x = some .cell
def Look (env : Env) (h : Heap) (m : Str → Option Value) (x : Str) (u : Value) : Prop :=
 (env.kindOf x = some .local ∧ m x = some u) ∨ ((env.kindOf x = some .cell ∨ env.kindOf x = some .free) ∧ ∃ c, env.cells.lookup x = some c ∧ h.IsCell c (some u))
structure Cx.Ok (X : Cx) : Prop where
 mod : Mod X.K X.mg X.base
 kind : X.env.scope.kind = .function
 glob : X.env.globals = mainGlobals
 blt : X.env.builtins = builtinsNs
 above : X.s_0.heap.objs.size ≤ X.env.locals
 inj : ∀ x y c, X.env.cells.lookup x = some c → X.env.cells.lookup y = some c → x = y
 has : ∀ x, (X.env.kindOf x = some .cell ∨ X.env.kindOf x = some .free) → ∃ c, X.env.cells.lookup x = some c
 cab : ∀ x c, X.fn x = true → X.env.cells.lookup x = some c → X.s_0.heap.objs.size ≤ c
 hd : X.calm = true → X.A.handled = none
 frames : X.A.frames = some X.stack
 stk : X.stack = X.outer ∨ (X.stack = X.env :: X.outer ∧ X.env.frame = some X.env.locals)
 exf : ∀ b ∈ X.ex, b ≠ X.env.locals ∧ ∀ x c, X.env.cells.lookup x = some c → c ≠ b
 bs : ∀ b o, X.base.get? b = some o → X.s_0.heap.get? b = some o ∧ X.H_0 b = none
 bsz : X.base.objs.size ≤ X.s_0.heap.objs.size
 noex : ∀ b o, X.base.get? b = some o → b ∉ X.ex
 exfs : ∀ b ∈ X.ex, b ∉ X.fs
 funs : X.s_0.heap.FunFrames X.base X.outer
 frf : ∀ b ∈ X.fs, X.H_0 b = none
structure Inv (X : Cx) (pins : List (Addr × Obj)) (σ : List (Option V)) (H : Hp) (s : Shared) : Prop where
 ok : X.Ok
 os : s.os = X.s_0.os
 bare : AllBare s.gens
 base : Un X.fs X.ex X.H_0 H X.s_0.heap s.heap
 loc : ∃ m, s.heap.Ns X.env.locals m ∧ ∀ (i : Nat) (x : Str) (v : V), X.N[i]? = some x → σ[i]? = some (some v) → Vis X.env.scope x → ∃ u, RelV v u ∧ Look X.env s.heap m x u
 cell : ∀ x c, X.env.cells.lookup x = some c → ∃ v, s.heap.IsCell c v
 free : H X.env.locals = none
 freeC : ∀ x c, X.env.cells.lookup x = some c → H c = none
 pin : ∀ p ∈ X.pn ++ pins, s.heap.get? p.1 = some p.2 ∧ H p.1 = none ∧ p.1 ≠ X.env.locals ∧ p.1 ∉ X.fs ∧ ∀ v, p.2.data ≠ .cell v
 hok : HOk X.prog X.w H s.heap
 len : σ.length = X.N.length
section
variable {X : Cx} {pins : List (Addr × Obj)} {σ : List (Option V)} {H H' : Hp} {s : Shared} {h' : Heap}
theorem Cx.Ok.nofr (ok : X.Ok) {b : Addr} {o : Obj} (e : X.base.get? b = some o) : b ∉ X.fs := fun hb => by
 have := (ok.funs.mem hb).1
 rw [e] at this; cases this
theorem Inv.bs (I : Inv X pins σ H s) : ∀ b o, X.base.get? b = some o → s.heap.get? b = some o ∧ H b = none := fun b o e =>
 ⟨I.base.keep b o (I.ok.bs b o e).1 (I.ok.bs b o e).2 (I.ok.nofr e) (I.ok.noex b o e), I.base.free b o (I.ok.bs b o e).1 (I.ok.bs b o e).2 (I.ok.noex b o e)⟩
theorem Inv.bk (I : Inv X pins σ H s) : ∀ b o, X.base.get? b = some o → s.heap.get? b = some o := fun b o e => (I.bs b o e).1
theorem Inv.mod (I : Inv X pins σ H s) : Mod X.K X.mg X.base := I.ok.mod
theorem Inv.kIn (I : Inv X pins σ H s) : X.K.In s.heap := I.ok.mod.kin.keeps I.bk
theorem Inv.fr (I : Inv X pins σ H s) : ∃ m, Fr X.base X.env.locals s.heap m :=
 let ⟨m, hn, _⟩ := I.loc
 ⟨m, hn, I.bk, Nat.le_trans I.ok.bsz I.ok.above⟩
theorem Inv.lt (I : Inv X pins σ H s) : X.env.locals < s.heap.objs.size := let ⟨_, hn, _⟩ := I.loc; hn.lt
theorem Inv.sz (I : Inv X pins σ H s) : X.s_0.heap.objs.size ≤ s.heap.objs.size := Nat.le_trans I.ok.above (Nat.le_of_lt I.lt)
theorem Inv.nofs (I : Inv X pins σ H s) {a : Addr} (h : s.heap.objs.size ≤ a) : a ∉ X.fs := fun hb => by
 obtain ⟨_, o, ho, _⟩ := I.ok.funs.mem hb
 exact absurd (Nat.lt_of_lt_of_le (Heap.lt_size ho) (Nat.le_trans I.sz h)) (Nat.lt_irrefl _)
theorem Inv.cne (I : Inv X pins σ H s) : ∀ x c, X.env.cells.lookup x = some c → c ≠ X.env.locals := fun x c e z => by
 obtain ⟨v, o, ho, hd⟩ := I.cell x c e
 obtain ⟨m, ⟨o', es, ep, ho', hd', _⟩, _⟩ := I.loc
 rw [z, ho'] at ho; cases ho; rw [hd'] at hd; cases hd
theorem Inv.funs (I : Inv X pins σ H s) : s.heap.FunFrames X.base X.outer := by
 have all : ∀ (l : List Env), (∀ b ∈ frs l, b ∈ X.fs) → X.s_0.heap.FunFrames X.base l → s.heap.FunFrames X.base l := by
  intro l
  induction l with
  | nil => intro _ _; trivial
  | cons env r ih =>
   intro hs hl
   obtain ⟨hk, ⟨L, o, hf, hn, ho, hd⟩, hr⟩ := hl
   have hL : L ∈ X.fs := hs L (by unfold frs; rw [List.filterMap_cons, hf]; exact List.mem_cons_self)
   obtain ⟨sl, e⟩ := I.base.slot L o ho (I.ok.frf L hL) hL fun z => I.ok.exfs L z hL
   exact ⟨hk, ⟨L, _, hf, hn, e, hd⟩, ih (fun b hb => hs b (by unfold frs; rw [List.filterMap_cons, hf]; exact List.mem_cons_of_mem _ hb)) hr⟩
 exact all X.outer (fun _ hb => hb) I.ok.funs
theorem Inv.stack (I : Inv X pins σ H s) : s.heap.FunFrames X.base X.stack := by
 rcases I.ok.stk with e | ⟨e, hf⟩
 ·rw [e]; exact I.funs
 ·rw [e]
  obtain ⟨m, hn, _⟩ := I.loc
  refine .cons (by rw [I.ok.kind]; decide) hf hn ?_ I.funs
  exact Heap.get?_none_of_le (Nat.le_trans I.ok.bsz I.ok.above)
theorem Inv.stkSub (I : Inv X pins σ H s) : ∀ b ∈ frs X.stack, b ∈ X.env.locals :: X.fs := fun b hb => by
 rcases I.ok.stk with e | ⟨e, hf⟩
 ·rw [e] at hb; exact List.mem_cons_of_mem _ hb
 ·rw [e] at hb
  unfold frs at hb
  rw [List.filterMap_cons, hf] at hb
  exact hb
theorem Inv.stkFree (I : Inv X pins σ H s) : ∀ b ∈ frs X.stack, H b = none := fun b hb => by
 rcases List.mem_cons.mp (I.stkSub b hb) with e | hb
 ·rw [e]; exact I.free
 ·obtain ⟨_, o, ho, _⟩ := I.ok.funs.mem hb
  exact I.base.free b o ho (I.ok.frf b hb) fun z => I.ok.exfs b z hb
theorem Inv.step {g' : Array GenState} {t' : Nat} {d' : Drawn} {ch : List Addr} (I : Inv X pins σ H s)
  (hch : ∀ b ∈ ch, (b ∈ X.ex ∨ X.s_0.heap.objs.size ≤ b) ∧ b ≠ X.env.locals ∧ (∀ x c, X.env.cells.lookup x = some c → c ≠ b) ∧ ∀ p ∈ X.pn ++ pins, p.1 ≠ b)
  (keep : ∀ b o, b ≠ X.env.locals → b ∉ X.fs → b ∉ ch → s.heap.get? b = some o → H b = none → h'.get? b = some o)
  (slot : ∀ b o, b ≠ X.env.locals → b ∈ X.fs → b ∉ ch → s.heap.get? b = some o → H b = none → ∃ sl, h'.get? b = some { o with slots := sl }) (free : ∀ b o, b ∉ ch → s.heap.get? b = some o → H b = none → H' b = none)
  (there : ∀ b o, b ∉ ch → s.heap.get? b = some o → ∃ o', h'.get? b = some o')
  (tups : ∀ b xs, H b = some (.tup xs) → H' b = some (.tup xs)) (frzs : ∀ b o u, H b = some (.frz o u) → H' b = some (.frz o u)) (tbls : ∀ b ps, H b = some (.tbl ps) → ∃ more, H' b = some (.tbl (ps ++ more)))
  (ns : ∀ m, s.heap.Ns X.env.locals m → h'.Ns X.env.locals m) (hok : HOk X.prog X.w H' h') (hg : AllBare g') :
  Inv X pins σ H' { s with heap := h', gens := g', drawn := d', toks := t' } := by
 have neL : ∀ b o, X.s_0.heap.get? b = some o → b ≠ X.env.locals := fun b o e => Nat.ne_of_lt (Nat.lt_of_lt_of_le (Heap.lt_size e) I.ok.above)
 have neC : ∀ b o, X.s_0.heap.get? b = some o → b ∉ X.ex → b ∉ ch := fun b o e hx hb => by
  rcases (hch b hb).1 with z | z
  ·exact hx z
  ·exact absurd (Nat.lt_of_lt_of_le (Heap.lt_size e) z) (Nat.lt_irrefl _)
 have cellK : ∀ x c, X.env.cells.lookup x = some c → ∀ v, s.heap.IsCell c v → h'.IsCell c v := fun x c e v ⟨o, ho, hd⟩ => by
  have nch : c ∉ ch := fun z => (hch c z).2.2.1 x c e rfl
  by_cases hc : c ∈ X.fs
  ·obtain ⟨sl, q⟩ := slot c o (I.cne x c e) hc nch ho (I.freeC x c e)
   exact ⟨_, q, hd⟩
  ·exact ⟨o, keep c o (I.cne x c e) hc nch ho (I.freeC x c e), hd⟩
 refine ⟨I.ok, I.os, hg, ⟨fun b o e n hb hx => ?_, fun b o e n hb hx => ?_, fun b o e n hx => ?_, fun b o e hx => ?_, fun b xs e => tups b xs (I.base.tups b xs e), fun b o xs e => frzs b o xs (I.base.frzs b o xs e), fun b ps e => ?_⟩, ?_, fun x c e => ?_, ?_, fun x c e => ?_, fun p hp => ?_, hok, I.len⟩
 ·exact keep b o (neL b o e) hb (neC b o e hx) (I.base.keep b o e n hb hx) (I.base.free b o e n hx)
 ·obtain ⟨sl, e1⟩ := I.base.slot b o e n hb hx
  obtain ⟨sl', e2⟩ := slot b _ (neL b o e) hb (neC b o e hx) e1 (I.base.free b o e n hx)
  exact ⟨sl', e2⟩
 ·obtain ⟨o', e1⟩ := I.base.there b o e hx
  exact free b o' (neC b o e hx) e1 (I.base.free b o e n hx)
 ·obtain ⟨o', e1⟩ := I.base.there b o e hx
  exact there b o' (neC b o e hx) e1
 ·obtain ⟨m1, e1⟩ := I.base.tbls b ps e
  obtain ⟨m2, e2⟩ := tbls b _ e1
  exact ⟨m1 ++ m2, by rw [e2, Array.append_assoc]⟩
 ·obtain ⟨m, hn, hl⟩ := I.loc
  refine ⟨m, ns m hn, fun i x v e1 e2 e3 => ?_⟩
  obtain ⟨u, r, l⟩ := hl i x v e1 e2 e3
  refine ⟨u, r, ?_⟩
  rcases l with l | ⟨k, c, e, z⟩
  ·exact .inl l
  ·exact .inr ⟨k, c, e, cellK x c e _ z⟩
 ·obtain ⟨v, z⟩ := I.cell x c e
  exact ⟨v, cellK x c e v z⟩
 ·obtain ⟨m, ⟨o, _, _, ho, _⟩, _⟩ := I.loc
  exact free _ o (fun z => (hch _ z).2.1 rfl) ho I.free
 ·obtain ⟨v, o, ho, hd⟩ := I.cell x c e
  exact free c o (fun z => (hch c z).2.2.1 x c e rfl) ho (I.freeC x c e)
 ·obtain ⟨e, n, ne, nf, d⟩ := I.pin p hp
  have nch : p.1 ∉ ch := fun z => (hch p.1 z).2.2.2 p hp rfl
  exact ⟨keep p.1 p.2 ne nf nch e n, free p.1 p.2 nch e n, ne, nf, d⟩
theorem Inv.un {t' : Nat} (I : Inv X pins σ H s) (u : Un X.fs [] H H' s.heap h') (hok : HOk X.prog X.w H' h') : Inv X pins σ H' { s with heap := h', toks := t' } := by
 obtain ⟨m, ⟨o, es, ep, ho, r⟩, _⟩ := id I.loc
 obtain ⟨sl, hL⟩ := u.any ho I.free (by simp)
 exact I.step (g' := s.gens) (d' := s.drawn) (ch := []) (fun _ z => nomatch z) (fun b o _ hb _ e n => u.keep b o e n hb (by simp)) (fun b o _ hb _ e n => u.slot b o e n hb (by simp)) (fun b o _ e n => u.free b o e n (by simp)) (fun b o _ e => u.there b o e (by simp)) u.tups u.frzs u.tbls (fun m' hm => by
  obtain ⟨o', es', ep', ho', r'⟩ := hm
  rw [ho] at ho'; cases ho'
  exact ⟨_, es', ep', hL, r'⟩) hok I.bare
theorem Inv.call {g' : Array GenState} {t' : Nat} {d' : Drawn} {ch : List Addr} (I : Inv X pins σ H s) (u : Un (frs X.stack) ch H H' s.heap h') (hok : HOk X.prog X.w H' h') (hg : AllBare g')
  (hch : ∀ b ∈ ch, (b ∈ X.ex ∨ X.s_0.heap.objs.size ≤ b) ∧ b ≠ X.env.locals ∧ (∀ x c, X.env.cells.lookup x = some c → c ≠ b) ∧ ∀ p ∈ X.pn ++ pins, p.1 ≠ b) :
  Inv X pins σ H' { s with heap := h', gens := g', drawn := d', toks := t' } := by
 obtain ⟨m, ⟨o, es, ep, ho, r⟩, _⟩ := id I.loc
 obtain ⟨sl, hL⟩ := u.any ho I.free fun z => (hch _ z).2.1 rfl
 exact I.step (ch := ch) hch (fun b o hL hb hc e n => u.keep b o e n (fun z => (List.mem_cons.mp (I.stkSub b z)).elim hL hb) hc) (fun b o _ _ hc e n => u.any e n hc) (fun b o hc e n => u.free b o e n hc) (fun b o hc e => u.there b o e hc) u.tups u.frzs u.tbls (fun m' hm => by
  obtain ⟨o', es', ep', ho', r'⟩ := hm
  rw [ho] at ho'; cases ho'
  exact ⟨_, es', ep', hL, r'⟩) hok hg
theorem Inv.turned {t' : Nat} {it : Addr} (I : Inv X pins σ H s) (k : ∀ b o, b ≠ it → s.heap.get? b = some o → h'.get? b = some o) (hn : H it = none) (hL : it ≠ X.env.locals)
  (h1 : it ∈ X.ex ∨ X.s_0.heap.objs.size ≤ it) (h2 : ∀ x c, X.env.cells.lookup x = some c → c ≠ it) (h3 : ∀ p ∈ X.pn ++ pins, p.1 ≠ it) : Inv X pins σ H { s with heap := h', toks := t' } := by
 have nit : ∀ b u, H b = some u → b ≠ it := fun b u e z => by rw [z, hn] at e; cases e
 refine I.step (g' := s.gens) (d' := s.drawn) (ch := [it]) (fun b hb => ?_) (fun b o _ _ hc e _ => k b o (fun z => hc (by simp [z])) e) (fun b o _ _ hc e _ => ⟨o.slots, k b o (fun z => hc (by simp [z])) e⟩) (fun _ _ _ _ n => n)
  (fun b o hc e => ⟨o, k b o (fun z => hc (by simp [z])) e⟩) (fun _ _ e => e) (fun _ _ _ e => e) (fun b ps e => ⟨#[], by rw [e]; simp⟩) (fun m hm => ?_) (fun b u e => ?_) I.bare
 ·have e : b = it := by simpa using hb
  subst e
  exact ⟨h1, hL, h2, h3⟩
 ·obtain ⟨o, es, ep, ho, r⟩ := hm
  exact ⟨o, es, ep, k _ o (Ne.symm hL) ho, r⟩
 ·refine (I.hok b u e).stay (fun c v hc q => k c v ?_ q) (fun _ q => q) fun _ _ q => q
  rcases hc with z | z
  ·rw [z]; exact nit b u e
  ·exact nit c _ z
theorem Inv.tok (I : Inv X pins σ H s) (t : Nat) : Inv X pins σ H { s with toks := t } := I.un (h' := s.heap) (t' := t) Un.refl I.hok
theorem Inv.kept {t' : Nat} (I : Inv X pins σ H s) (k : ∀ b u, s.heap.get? b = some u → h'.get? b = some u) : Inv X pins σ H { s with heap := h', toks := t' } := I.un (Un.kept k) (I.hok.kept k)
theorem Inv.laid {a : Addr} {o : HO} {t' : Nat} (I : Inv X pins σ H s) (k : ∀ b u, s.heap.get? b = some u → h'.get? b = some u) (hp : s.heap.objs.size ≤ a) (new : ObjOk X.prog X.w (upd H a o) h' a o) :
  Inv X pins σ (upd H a o) { s with heap := h', toks := t' } := I.un (Un.laid k hp (I.hok.fresh hp)) (I.hok.laid k hp new)
theorem Inv.write {x e : Addr} {o : HO} {t' : Nat} (I : Inv X pins σ H s) (mu : Mut (H x)) (he : e = x ∨ H e = some (.own x)) (k : ∀ b u, b ≠ e → s.heap.get? b = some u → h'.get? b = some u) (heo : ∃ u, h'.get? e = some u)
  (new : ObjOk X.prog X.w (upd H x o) h' x o) : Inv X pins σ (upd H x o) { s with heap := h', toks := t' } := I.un (Un.write mu he k heo) (I.hok.write mu he k heo new)
theorem Inv.weak {σ' : List (Option V)} (I : Inv X pins σ H s) (hl : σ'.length = σ.length) (w : ∀ (i : Nat) v, σ'[i]? = some (some v) → σ[i]? = some (some v)) : Inv X pins σ' H s :=
 ⟨I.ok, I.os, I.bare, I.base, let ⟨m, hn, hl'⟩ := I.loc; ⟨m, hn, fun i x v e1 e2 e3 => hl' i x v e1 (w i v e2) e3⟩, I.cell, I.free, I.freeC, I.pin, I.hok, hl.trans I.len⟩
theorem Inv.pins_of {pins' : List (Addr × Obj)} (I : Inv X pins σ H s) (h : ∀ p ∈ pins', s.heap.get? p.1 = some p.2 ∧ H p.1 = none ∧ p.1 ≠ X.env.locals ∧ p.1 ∉ X.fs ∧ ∀ v, p.2.data ≠ .cell v) : Inv X pins' σ H s :=
 ⟨I.ok, I.os, I.bare, I.base, I.loc, I.cell, I.free, I.freeC, fun p hp => (List.mem_append.mp hp).elim (fun z => I.pin p (List.mem_append_left _ z)) (h p), I.hok, I.len⟩
theorem nodup_ix {N : List Str} (hN : N.Nodup) {i j : Nat} {x : Str} (a : N[i]? = some x) (b : N[j]? = some x) : i = j := by
 obtain ⟨h1, e1⟩ := List.getElem?_eq_some_iff.mp a
 obtain ⟨h2, e2⟩ := List.getElem?_eq_some_iff.mp b
 exact (List.getElem_inj hN).mp (e1.trans e2.symm)
theorem store_ok2 {M : Model} {A : Around} {E : Value → Shared → Prop} {i : Nat} {x : Str} {v : V} {u : Value} {Q : Unit → Shared → Prop} (I : Inv X pins σ H s) (hN : X.N.Nodup) (hi : X.N[i]? = some x) (hx : Loc X.env.scope x) (r : RelV v u)
  (h : ∀ s', Inv X pins (σ.set i (some v)) H s' → (∃ a, Heap.SameBut a s.heap s'.heap ∧ (a = X.env.locals ∨ X.env.cells.lookup x = some a)) → Q () s') (hf : X.fn x = true ∨ X.env.scope.names.lookup x = some .local := by first | exact .inl rfl | exact .inr rfl | assumption) : wpAny M A (storeName X.env x u) Q E s := by
 obtain ⟨m, hn, hl⟩ := id I.loc
 have hcls : (X.env.scope.kind == .class || (X.env.scope.kind == .module && X.env.locals != X.env.globals)) = false := by rw [I.ok.kind]; rfl
 have hiσ : i < σ.length := by rw [I.len]; exact (List.getElem?_eq_some_iff.mp hi).1
 have cne := I.cne
 have tracked : ∀ {a : Addr} {h' : Heap}, (∃ o, s.heap.get? a = some o ∧ H a = none) → Heap.SameBut a s.heap h' → HOk X.prog X.w H h' := fun {a h'} ha hs b ob e => by
  obtain ⟨_, _, hfree⟩ := ha
  refine (I.hok b ob e).stay (fun c w' hc q => (hs.2 c ?_).trans q) (fun _ q => q) fun _ _ q => q
  rintro rfl
  rcases hc with rfl | hc
  ·rw [hfree] at e; cases e
  ·rw [hfree] at hc; cases hc
 rcases hx with hk | hk
 ·refine wpAny_storeName_local hk hn (fun h' hn' hs => ?_) hcls
  obtain ⟨oL, _, _, hoL, _⟩ := id hn
  refine h _ ⟨I.ok, I.os, I.bare, ⟨fun b o e n hb hx => ?_, fun b o e n hb hx => ?_, I.base.free, fun b o e hx => ?_, I.base.tups, I.base.frzs, I.base.tbls⟩, ⟨_, hn', fun j y v' e1 e2 e3 => ?_⟩, fun y c e => ?_, I.free, I.freeC, fun p hp => ?_, tracked ⟨oL, hoL, I.free⟩ hs, by simpa using I.len⟩ ⟨_, hs, .inl rfl⟩
  ·exact (hs.2 b (Nat.ne_of_lt (Nat.lt_of_lt_of_le (Heap.lt_size e) I.ok.above))).trans (I.base.keep b o e n hb hx)
  ·obtain ⟨sl, e1⟩ := I.base.slot b o e n hb hx
   exact ⟨sl, (hs.2 b (Nat.ne_of_lt (Nat.lt_of_lt_of_le (Heap.lt_size e) I.ok.above))).trans e1⟩
  ·obtain ⟨o', e1⟩ := I.base.there b o e hx
   exact ⟨o', (hs.2 b (Nat.ne_of_lt (Nat.lt_of_lt_of_le (Heap.lt_size e) I.ok.above))).trans e1⟩
  ·by_cases hj : j = i
   ·subst hj
    rw [hi] at e1; cases e1
    rw [List.getElem?_set_self hiσ] at e2
    cases e2
    exact ⟨u, r, .inl ⟨hk, by simp⟩⟩
   ·rw [List.getElem?_set_ne (Ne.symm hj)] at e2
    obtain ⟨u', r', q⟩ := hl j y v' e1 e2 e3
    refine ⟨u', r', ?_⟩
    rcases q with ⟨k, e⟩ | ⟨k, c, e, z⟩
    ·refine .inl ⟨k, ?_⟩
     have : y ≠ x := fun e => hj (nodup_ix hN e1 (e ▸ hi))
     simp [this, e]
    ·exact .inr ⟨k, c, e, z.sameBut hs (cne y c e)⟩
  ·obtain ⟨w', z⟩ := I.cell y c e
   exact ⟨w', z.sameBut hs (cne y c e)⟩
  ·obtain ⟨e, n, ne, nf, d⟩ := I.pin p hp
   exact ⟨(hs.2 p.1 ne).trans e, n, ne, nf, d⟩
 ·have hfn : X.fn x = true := by
   rcases hf with z | z
   ·exact z
   ·rw [z] at hk; cases hk
  obtain ⟨c, hc⟩ := I.ok.has x (.inl hk)
  obtain ⟨w', z⟩ := I.cell x c hc
  refine wpAny_storeName_cell I.ok.kind hk hc z (fun h' hc' hs => ?_)
  obtain ⟨oc, hoc, hocd⟩ := id z
  refine h { s with heap := h' } ⟨I.ok, I.os, I.bare, ⟨fun b o e n hb hx => ?_, fun b o e n hb hx => ?_, I.base.free, fun b o e hx => ?_, I.base.tups, I.base.frzs, I.base.tbls⟩, ⟨m, hn.sameBut hs (Ne.symm (cne x c hc)), fun j y v' e1 e2 e3 => ?_⟩, fun y c' e => ?_, I.free, I.freeC, fun p hp => ?_, tracked ⟨oc, hoc, I.freeC x c hc⟩ hs, by simpa using I.len⟩ ⟨c, hs, .inr hc⟩
  ·exact (hs.2 b (Nat.ne_of_lt (Nat.lt_of_lt_of_le (Heap.lt_size e) (I.ok.cab x c hfn hc)))).trans (I.base.keep b o e n hb hx)
  ·obtain ⟨sl, e1⟩ := I.base.slot b o e n hb hx
   exact ⟨sl, (hs.2 b (Nat.ne_of_lt (Nat.lt_of_lt_of_le (Heap.lt_size e) (I.ok.cab x c hfn hc)))).trans e1⟩
  ·obtain ⟨o', e1⟩ := I.base.there b o e hx
   exact ⟨o', (hs.2 b (Nat.ne_of_lt (Nat.lt_of_lt_of_le (Heap.lt_size e) (I.ok.cab x c hfn hc)))).trans e1⟩
  ·by_cases hj : j = i
   ·subst hj
    rw [hi] at e1; cases e1
    rw [List.getElem?_set_self hiσ] at e2
    cases e2
    exact ⟨u, r, .inr ⟨.inl hk, c, hc, hc'⟩⟩
   ·rw [List.getElem?_set_ne (Ne.symm hj)] at e2
    obtain ⟨u', r', q⟩ := hl j y v' e1 e2 e3
    refine ⟨u', r', ?_⟩
    rcases q with q | ⟨k, c', e, z'⟩
    ·exact .inl q
    ·refine .inr ⟨k, c', e, z'.sameBut hs ?_⟩
     rintro rfl
     exact hj (nodup_ix hN e1 (I.ok.inj _ _ _ e hc ▸ hi))
  ·by_cases hcc : c' = c
   ·subst hcc; exact ⟨_, hc'⟩
   ·obtain ⟨w2, z2⟩ := I.cell y c' e
    exact ⟨w2, z2.sameBut hs hcc⟩
  ·obtain ⟨e, n, ne, nf, d⟩ := I.pin p hp
   refine ⟨(hs.2 p.1 ?_).trans e, n, ne, nf, d⟩
   intro q
   rw [q, hoc] at e
   have q' : oc = p.2 := Option.some.inj e
   exact d w' (by rw [← q']; exact hocd)
theorem store_ok {M : Model} {A : Around} {E : Value → Shared → Prop} {i : Nat} {x : Str} {v : V} {u : Value} {Q : Unit → Shared → Prop} (I : Inv X pins σ H s) (hN : X.N.Nodup) (hi : X.N[i]? = some x) (hx : Loc X.env.scope x) (r : RelV v u)
  (h : ∀ s', Inv X pins (σ.set i (some v)) H s' → Q () s') (hf : X.fn x = true ∨ X.env.scope.names.lookup x = some .local := by first | exact .inl rfl | exact .inr rfl | assumption) : wpAny M A (storeName X.env x u) Q E s :=
 store_ok2 I hN hi hx r (fun s' I' _ => h s' I') hf
theorem Inv.call' {s' : Shared} {ch : List Addr} (I : Inv X pins σ H s) (ho : s'.os = s.os) (u : Un (frs X.stack) ch H H' s.heap s'.heap) (hok : HOk X.prog X.w H' s'.heap) (hg : AllBare s'.gens)
  (hch : ∀ b ∈ ch, (b ∈ X.ex ∨ X.s_0.heap.objs.size ≤ b) ∧ b ≠ X.env.locals ∧ (∀ x c, X.env.cells.lookup x = some c → c ≠ b) ∧ ∀ p ∈ X.pn ++ pins, p.1 ≠ b) : Inv X pins σ H' s' := by
 obtain ⟨h', g', d', t', o'⟩ := s'
 have e : o' = s.os := ho
 subst e
 exact I.call (g' := g') (t' := t') (d' := d') u hok hg hch
end
abbrev XK := Value → Option Addr → Hp → Prop
abbrev St := List (Option V)
abbrev VK := V → Hp → Prop
abbrev TE := St → Hp → VK → Prop
abbrev TT := St → Hp → (Bool → Hp → Prop) → Prop
abbrev TA := St → Hp → (List V → Hp → Prop) → Prop
structure Ends where
 nx : St → Hp → Prop
 rt : VK
 bk : St → Hp → Prop := fun _ _ => False
 ct : St → Hp → Prop := fun _ _ => False
abbrev TS := Ends → St → Hp → Prop
def EP (X : Cx) (pins : List (Addr × Obj)) (σ : St) (Q : VK) (u : Value) (s' : Shared) : Prop := ∃ v H', Inv X pins σ H' s' ∧ RelV v u ∧ Q v H'
def TP (X : Cx) (pins : List (Addr × Obj)) (σ : St) (Q : Bool → Hp → Prop) (b : Bool) (s' : Shared) : Prop := ∃ H', Inv X pins σ H' s' ∧ Q b H'
def AP (X : Cx) (pins : List (Addr × Obj)) (σ : St) (Q : List V → Hp → Prop) (us : List Value) (s' : Shared) : Prop := ∃ vs H', Inv X pins σ H' s' ∧ Vals vs us ∧ Q vs H'
def SP (X : Cx) (pins : List (Addr × Obj)) (D : Ends) (f : Flow) (s' : Shared) : Prop :=
 match f with
 | .next => ∃ σ' H', Inv X pins σ' H' s' ∧ D.nx σ' H'
 | .brk => ∃ σ' H', Inv X pins σ' H' s' ∧ D.bk σ' H'
 | .cont => ∃ σ' H', Inv X pins σ' H' s' ∧ D.ct σ' H'
 | .ret u => ∃ v σ' H', Inv X pins σ' H' s' ∧ RelV v u ∧ D.rt v H'
def PE (X : Cx) (e : Expr) (t : TE) : Prop :=
 ∀ (pins : List (Addr × Obj)) (s : Shared) (σ : St) (H : Hp) (Q : VK), Inv X pins σ H s → t σ H Q → wpAny (model X.prog X.w) X.A (eval e X.env) (EP X pins σ Q) X.xe s
def PT (X : Cx) (e : Expr) (t : TT) : Prop :=
 ∀ (pins : List (Addr × Obj)) (s : Shared) (σ : St) (H : Hp) (Q : Bool → Hp → Prop), Inv X pins σ H s → t σ H Q → wpAny (model X.prog X.w) X.A (isTrue e X.env (eval e X.env)) (TP X pins σ Q) X.xe s
def PW (X : Cx) (e : Expr) (t : TT) : Prop :=
 ∀ (whole : Sem Value) (pins : List (Addr × Obj)) (s : Shared) (σ : St) (H : Hp) (Q : Bool → Hp → Prop), Inv X pins σ H s → t σ H Q → wpAny (model X.prog X.w) X.A (isTrue e X.env whole) (TP X pins σ Q) X.xe s
theorem PW.pt {X : Cx} {e : Expr} {t : TT} (h : PW X e t) : PT X e t := h _
def PA (X : Cx) (es : List Expr) (t : TA) : Prop :=
 ∀ (pos : Pos) (pins : List (Addr × Obj)) (s : Shared) (σ : St) (H : Hp) (Q : List V → Hp → Prop), Inv X pins σ H s → t σ H Q → wpAny (model X.prog X.w) X.A (spliced (backTo pos (starEach es X.env))) (AP X pins σ Q) X.xe s
def PS (X : Cx) (st : Stmt) (t : TS) : Prop :=
 ∀ (pins : List (Addr × Obj)) (s : Shared) (σ : St) (H : Hp) (D : Ends), Inv X pins σ H s → t D σ H → wpAny (model X.prog X.w) X.A (exec st X.env) (SP X pins D) X.xe s
def PSs (X : Cx) (st : List Stmt) (t : TS) : Prop :=
 ∀ (pins : List (Addr × Obj)) (s : Shared) (σ : St) (H : Hp) (D : Ends), Inv X pins σ H s → t D σ H → wpAny (model X.prog X.w) X.A (execs st X.env) (SP X pins D) X.xe s
theorem thn {α : Type} {t : Sem α} {Q Q' : α → Shared → Prop} {M : Model} {A : Around} {E : Value → Shared → Prop} {s : Shared} (h : wpAny M A t Q E s) (hQ : ∀ a s, Q a s → Q' a s) : wpAny M A t Q' E s := wpAny_mono h hQ fun _ _ x => x
end L2
namespace L2
open PySem PySem.Spec PyProof.Rows
section
variable {X : Cx}
theorem bin {a b : Expr} {ta tb : TE} (ha : PE X a ta) (hb : PE X b tb) {pins : List (Addr × Obj)} {s : Shared} {σ : St} {H : Hp} {R : V → V → Hp → Prop} (I : Inv X pins σ H s) (h : ta σ H fun x H1 => tb σ H1 fun y H2 => R x y H2)
  {α : Type} {Q : α → Shared → Prop} {f : Value → Value → Sem α}
  (hf : ∀ v u s2 x y H2, Inv X pins σ H2 s2 → RelV x v → RelV y u → R x y H2 → wpAny (model X.prog X.w) X.A (f v u) Q X.xe s2) :
  wpAny (model X.prog X.w) X.A (eval a X.env) (fun v s₁ => wpAny (model X.prog X.w) X.A (eval b X.env) (fun u s₂ => wpAny (model X.prog X.w) X.A (f v u) Q X.xe s₂) X.xe s₁) X.xe s := by
 refine thn (ha pins s σ H _ I h) fun v s1 ⟨x, H1, I1, r1, q1⟩ => ?_
 refine thn (hb pins s1 σ H1 _ I1 q1) fun u s2 ⟨y, H2, I2, r2, q2⟩ => ?_
 exact hf v u s2 x y H2 I2 r1 r2 q2
def tVar (i : Nat) : TE := fun σ H Q => ∃ v, σ[i]? = some (some v) ∧ Q v H
def tC (v : V) : TE := fun _ H Q => Q v H
theorem pe_var {i : Nat} {x : Str} {pos : Pos} (hN : X.N[i]? = some x) (hv : Vis X.env.scope x) (hd : (x == ("__debug__" : Str)) = false := by decide) (hcd : (x == ("__classdict__" : Str)) = false := by decide) : PE X (.Name x pos) (tVar i) := by
 intro pins s σ H Q I h
 obtain ⟨v, e, h⟩ := h
 obtain ⟨m, hn, hl⟩ := I.loc
 obtain ⟨u, r, l⟩ := hl i x v hN e hv
 have fin : EP X pins σ Q u s := ⟨v, H, I, r, h⟩
 rcases l with ⟨hk, hm⟩ | ⟨hk, c, hc, hcell⟩
 ·exact wpAny_Name (wpAny_loadName_local I.ok.kind hk hn hm fin) hd
 ·rcases hk with hk | hk
  ·exact wpAny_Name (wpAny_loadName_cell I.ok.kind hk hc hcell fin) hd
  ·exact wpAny_Name (wpAny_loadName_free I.ok.kind hk hc hcell fin hcd) hd
theorem pe_int {i j pos} : PE X (.Constant (.int i) j pos) (tC (.int i)) := fun _ _ _ H _ I h => wpAny_Constant_int ⟨.int i, H, I.tok _, ⟨_, rfl⟩, h⟩
theorem pe_bl {b j pos} : PE X (.Constant (.bool b) j pos) (tC (.bl b)) := fun _ _ _ H _ I h => Constant_bool ⟨.bl b, H, I, rfl, h⟩
theorem pe_non {j pos} : PE X (.Constant .none j pos) (tC .non) := fun _ _ _ H _ I h => Constant_none ⟨.non, H, I, rfl, h⟩
def Gl (X : Cx) (x : Str) : Prop := X.env.kindOf x = some .globalImplicit
theorem ld_glob {E : Value → Shared → Prop} {pins : List (Addr × Obj)} {s : Shared} {σ : St} {H : Hp} {x : Str} {u : Value} {pos : Pos} {Q : Value → Shared → Prop} (I : Inv X pins σ H s) (hg : Gl X x) (hm : X.mg x = some u) (h : Q u s)
  (hd : (x == ("__debug__" : Str)) = false := by decide) : wpAny (model X.prog X.w) X.A (eval (.Name x pos) X.env) Q E s :=
 Calls.Name_function_global I.ok.kind hg (Calls.loadGlobal_global (by rw [I.ok.glob]; exact I.mod.glob.keeps I.bk) hm h) hd
theorem ld_blt {E : Value → Shared → Prop} {pins : List (Addr × Obj)} {s : Shared} {σ : St} {H : Hp} {x : Str} {u : Value} {pos : Pos} {Q : Value → Shared → Prop} (I : Inv X pins σ H s) (hg : Gl X x) (hm : X.mg x = none) (hv : bootBuiltins x = some u) (h : Q u s)
  (hn : x ≠ "__name__" := by decide) (hd : (x == ("__debug__" : Str)) = false := by decide) : wpAny (model X.prog X.w) X.A (eval (.Name x pos) X.env) Q E s := by
 obtain ⟨mb, h1, h2⟩ := I.mod.blt
 exact Calls.Name_function_global I.ok.kind hg (Calls.loadGlobal_builtin (by rw [I.ok.glob]; exact I.mod.glob.keeps I.bk) hm (by rw [I.ok.blt]; exact h1.keeps I.bk) ((h2 x hn).trans hv) h) hd
theorem pe_glob {x : Str} {v : V} {u : Value} {pos : Pos} (hg : Gl X x) (hm : X.mg x = some u) (r : RelV v u) (hd : (x == ("__debug__" : Str)) = false := by decide) : PE X (.Name x pos) (tC v) :=
 fun _ _ _ H _ I h => ld_glob I hg hm ⟨v, H, I, r, h⟩ hd
variable {a b : Expr} {ta tb : TE} {pos : Pos}
def PC (X : Cx) (op : CmpOp) (a b : Expr) (t : TE) : Prop :=
 ∀ (pins : List (Addr × Obj)) (s : Shared) (σ : St) (H : Hp) (Q : VK), Inv X pins σ H s → t σ H Q →
  wpAny (model X.prog X.w) X.A (eval a X.env) (fun v s₁ => wpAny (model X.prog X.w) X.A (eval b X.env) (fun u s₂ => wpAny (model X.prog X.w) X.A (compareOp op v u) (EP X pins σ Q) X.xe s₂) X.xe s₁) X.xe s
theorem nobehind (b : Expr) {op : CmpOp} (h : op ≠ .In) (h2 : op ≠ .NotIn) : behindInMarks op b = false := by
 have e1 : (op == CmpOp.In) = false := by cases op <;> first | rfl | exact absurd rfl h
 have e2 : (op == CmpOp.NotIn) = false := by cases op <;> first | rfl | exact absurd rfl h2
 cases b <;> simp [behindInMarks, e1, e2]
def tIsN (ta : TE) : TE := fun σ H Q => ta σ H fun x H1 => Q (.bl (decide (x = .non))) H1
theorem RelV.none_iff {x : V} {v : Value} (r : RelV x v) : (v == Value.none) = decide (x = .non) := by
 cases x with
 | non => cases r; rfl
 | bl _ => cases r; rfl
 | int _ => obtain ⟨t, rfl⟩ := r; rfl
 | str _ => obtain ⟨t, rfl⟩ := r; rfl
 | byt _ => obtain ⟨t, rfl⟩ := r; rfl
 | flt _ => obtain ⟨t, rfl⟩ := r; rfl
 | ref _ => cases r; rfl
 | ty _ => cases r; rfl
theorem pc_isN {j pos'} (ha : PE X a ta) : PC X .Is a (.Constant .none j pos') (tIsN ta) := by
 intro pins s σ H Q I h
 refine thn (ha pins s σ H _ I h) fun v s1 ⟨x, H1, I1, r1, q1⟩ => ?_
 exact Constant_none (is_none_gen ⟨.bl _, H1, I1, by rw [r1.none_iff]; rfl, q1⟩)
def tB (t : TE) : TT := fun σ H Q => t σ H fun x H1 => ∃ c, x = .bl c ∧ Q c H1
theorem pt_cmp {op : CmpOp} {t : TE} (h : PC X op a b t) (h1 : behindInMarks op b = false := by first | exact nobehind _ (by decide) (by decide) | rfl) : PT X (.Compare a [op] [b] pos) (tB t) := by
 intro pins s σ H Q I hw
 refine wpAny_isTrue_Compare1 (thn (h pins s σ H _ I hw) fun v s1 h1 => thn h1 fun u s2 h2 => thn h2 fun c s3 ⟨x, H1, I1, r1, q1⟩ => ?_) h1
 obtain ⟨d, rfl, q⟩ := q1
 cases r1
 exact wpAny_truthy_bool ⟨H1, I1, q⟩
theorem pt_val {e : Expr} {t : TE} (h : PE X e t) (he : ∀ whole, isTrue e X.env whole = (do let v ← whole; standAt e.pos; holding [v] (truthy v)) := by intro _; rfl) : PT X e (tB t) := by
 intro pins s σ H Q I hw
 refine isTrue_plain (thn (h pins s σ H _ I hw) fun v s1 ⟨x, H1, I1, r1, q1⟩ => ?_) (he _)
 obtain ⟨d, rfl, q⟩ := q1
 cases r1
 exact wpAny_truthy_bool ⟨H1, I1, q⟩
variable {tA tB' : TT} {rest : List Expr}
def tAnd (t u : TT) : TT := fun σ H Q => t σ H fun c H1 => if c = true then u σ H1 Q else Q false H1
def tOr (t u : TT) : TT := fun σ H Q => t σ H fun c H1 => if c = true then Q true H1 else u σ H1 Q
def tNot (t : TT) : TT := fun σ H Q => t σ H fun c H1 => Q (!c) H1
theorem pw_and1 (ha : PT X a tA) : PW X (.BoolOp .And [a] pos) tA := by
 intro wh pins s σ H Q I h
 refine isTrue_and (thn (ha pins s σ H Q I h) fun c s1 e => ?_)
 cases c with
 | true => exact isTrue_and_nil e
 | false => exact e
theorem pw_or1 (ha : PT X a tA) : PW X (.BoolOp .Or [a] pos) tA := by
 intro wh pins s σ H Q I h
 refine isTrue_or (thn (ha pins s σ H Q I h) fun c s1 e => ?_)
 cases c with
 | false => exact isTrue_or_nil e
 | true => exact e
theorem pw_and (ha : PT X a tA) (hb : PW X (.BoolOp .And (b :: rest) pos) tB') : PW X (.BoolOp .And (a :: b :: rest) pos) (tAnd tA tB') := by
 intro wh pins s σ H Q I h
 refine isTrue_and (thn (ha pins s σ H _ I h) fun c s1 ⟨H1, I1, q1⟩ => ?_)
 cases c with
 | true => exact hb wh pins s1 σ H1 Q I1 q1
 | false => exact ⟨H1, I1, q1⟩
theorem pw_or (ha : PT X a tA) (hb : PW X (.BoolOp .Or (b :: rest) pos) tB') : PW X (.BoolOp .Or (a :: b :: rest) pos) (tOr tA tB') := by
 intro wh pins s σ H Q I h
 refine isTrue_or (thn (ha pins s σ H _ I h) fun c s1 ⟨H1, I1, q1⟩ => ?_)
 cases c with
 | true => exact ⟨H1, I1, q1⟩
 | false => exact hb wh pins s1 σ H1 Q I1 q1
theorem pt_not (ha : PT X a tA) : PT X (.UnaryOp .Not a pos) (tNot tA) := by
 intro pins s σ H Q I h
 exact isTrue_not (ha pins s σ H (fun c H1 => Q (!c) H1) I h)
def tAndV (ta tb : TE) : TE := fun σ H Q => ta σ H fun x H1 => ∃ c, x = .bl c ∧ if c = true then tb σ H1 Q else Q (.bl false) H1
def tOrV (ta tb : TE) : TE := fun σ H Q => ta σ H fun x H1 => ∃ c, x = .bl c ∧ if c = true then Q (.bl true) H1 else tb σ H1 Q
theorem pe_one {op} {t : TE} (h : PE X a t) : PE X (.BoolOp op [a] pos) t := fun pins s σ H Q I hw => BoolOp_one (h pins s σ H Q I hw)
theorem pe_and (ha : PE X a ta) (hb : PE X (.BoolOp .And (b :: rest) pos) tb) : PE X (.BoolOp .And (a :: b :: rest) pos) (tAndV ta tb) := by
 intro pins s σ H Q I h
 refine BoolOp_and (thn (ha pins s σ H _ I h) fun v s1 ⟨x, H1, I1, r1, q1⟩ => ?_)
 obtain ⟨c, rfl, q1⟩ := q1
 cases r1
 refine wpAny_truthy_bool ?_
 cases c with
 | true => exact hb pins s1 σ H1 Q I1 q1
 | false => exact ⟨.bl false, H1, I1, rfl, q1⟩
theorem pe_or (ha : PE X a ta) (hb : PE X (.BoolOp .Or (b :: rest) pos) tb) : PE X (.BoolOp .Or (a :: b :: rest) pos) (tOrV ta tb) := by
 intro pins s σ H Q I h
 refine BoolOp_or (thn (ha pins s σ H _ I h) fun v s1 ⟨x, H1, I1, r1, q1⟩ => ?_)
 obtain ⟨c, rfl, q1⟩ := q1
 cases r1
 refine wpAny_truthy_bool ?_
 cases c with
 | false => exact hb pins s1 σ H1 Q I1 q1
 | true => exact ⟨.bl true, H1, I1, rfl, q1⟩
def tIf (t : TT) (ta tb : TE) : TE := fun σ H Q => t σ H fun c H1 => if c = true then ta σ H1 Q else tb σ H1 Q
theorem pe_ifExp {c : Expr} (hc : PT X c tA) (ha : PE X a ta) (hb : PE X b tb) : PE X (.IfExp c a b pos) (tIf tA ta tb) := by
 intro pins s σ H Q I h
 refine wpAny_IfExp (thn (hc pins s σ H _ I h) fun d s1 ⟨H1, I1, q1⟩ => ?_)
 cases d with
 | true => exact ha pins s1 σ H1 Q I1 q1
 | false => exact hb pins s1 σ H1 Q I1 q1
end
end L2
namespace L2
open PySem PySem.Spec PyProof.Rows
def SqL (K : PySem.W.Frag) (H : Hp) (a : Addr) (xs : List V) : Prop :=
 Rd H a (.lst xs) ∨
  ∃ (o : Obj) (its : Array Value) (n : Nat), K.lookup a = some o ∧ o.cls = .type "list" ∧ o.dict = none ∧ o.data = .seq its n ∧ its.size ≤ sizeLine ∧ Vals xs its.toList
def SqT (K : PySem.W.Frag) (H : Hp) (a : Addr) (xs : List V) : Prop :=
 Rd H a (.tup xs) ∨
  ∃ (o : Obj) (its : Array Value) (n : Nat), K.lookup a = some o ∧ o.cls = .type "tuple" ∧ o.data = .seq its n ∧ its.size ≤ sizeLine ∧ Vals xs its.toList
def absV : Value → Option V
 | .none => some .non
 | .bool b => some (.bl b)
 | .int i _ => some (.int i)
 | .str x _ => some (.str x)
 | .bytes b _ => some (.byt b)
 | .float b _ => some (.flt b)
 | .ref a => some (.ref a)
 | .type n => some (.ty n)
 | _ => none
theorem RelV.abs {x : V} {u : Value} (r : RelV x u) : absV u = some x := by
 cases x with
 | non => cases r; rfl
 | bl _ => cases r; rfl
 | int _ => obtain ⟨t, rfl⟩ := r; rfl
 | str _ => obtain ⟨t, rfl⟩ := r; rfl
 | byt _ => obtain ⟨t, rfl⟩ := r; rfl
 | flt _ => obtain ⟨t, rfl⟩ := r; rfl
 | ref _ => cases r; rfl
 | ty _ => cases r; rfl
theorem RelV.inj {x y : V} {u : Value} (r : RelV x u) (q : RelV y u) : x = y := Option.some.inj (r.abs.symm.trans q.abs)
theorem Vals.inj : ∀ {xs ys : List V} {us : List Value}, Vals xs us → Vals ys us → xs = ys
 | _, _, _, .nil, .nil => rfl
 | _, _, _, .cons r t, .cons r' t' => by rw [r.inj r', Vals.inj t t']
section
variable {X : Cx} {pins : List (Addr × Obj)} {σ : St} {H : Hp} {s : Shared} {a : Addr} {xs ys : List V}
theorem SqL.of {K : PySem.W.Frag} (h : H a = some (.lst xs)) : SqL K H a xs := .inl (.inl h)
theorem SqT.of {K : PySem.W.Frag} (h : H a = some (.tup xs)) : SqT K H a xs := .inl (.inl h)
theorem Inv.list (I : Inv X pins σ H s) (h : SqL X.K H a xs) : ∃ its : List Value, Vals xs its ∧ PlainL s.heap a its.toArray ∧ xs.length ≤ sizeLine := by
 rcases h with h | ⟨o, its, n, hk, hc, hd, hs, hz, r⟩
 ·obtain ⟨z, its, n, r, e⟩ := h.ok I.hok
  exact ⟨its, r, ⟨_, n, e, rfl, rfl, rfl⟩, z⟩
 ·refine ⟨its.toList, r, ⟨o, n, I.kIn a o hk, hc, hd, by simpa using hs⟩, ?_⟩
  have e := r.length
  simp only [Array.length_toList] at e
  omega
theorem Inv.tuple (I : Inv X pins σ H s) (h : SqT X.K H a xs) : ∃ its : List Value, Vals xs its ∧ IsTup s.heap a its.toArray ∧ xs.length ≤ sizeLine := by
 rcases h with h | ⟨o, its, n, hk, hc, hs, hz, r⟩
 ·obtain ⟨z, its, r, p⟩ := h.ok I.hok
  exact ⟨its, r, p, z⟩
 ·refine ⟨its.toList, r, ⟨o, I.kIn a o hk, hc, n, by simpa using hs⟩, ?_⟩
  have e := r.length
  simp only [Array.length_toList] at e
  omega
theorem Inv.list_inj (I : Inv X pins σ H s) (h : SqL X.K H a xs) (h' : SqL X.K H a ys) : xs = ys := by
 obtain ⟨its, r, ⟨o, n, e, _, _, d⟩, _⟩ := I.list h
 obtain ⟨its', r', ⟨o', n', e', _, _, d'⟩, _⟩ := I.list h'
 rw [e] at e'; cases e'
 rw [d] at d'
 injection d' with d1 _
 have : its = its' := by simpa using congrArg Array.toList d1
 subst this
 exact r.inj r'
theorem Inv.tuple_inj (I : Inv X pins σ H s) (h : SqT X.K H a xs) (h' : SqT X.K H a ys) : xs = ys := by
 obtain ⟨its, r, ⟨o, e, _, n, d⟩, _⟩ := I.tuple h
 obtain ⟨its', r', ⟨o', e', _, n', d'⟩, _⟩ := I.tuple h'
 rw [e] at e'; cases e'
 rw [d] at d'
 injection d' with d1 _
 have : its = its' := by simpa using congrArg Array.toList d1
 subst this
 exact r.inj r'
end
abbrev Cx.wish (X : Cx) (E : Value → Shared → Prop) : Cx := { X with xe := E }
abbrev Cx.nox (X : Cx) : Cx := X.wish fun _ _ => False
theorem Cx.Ok.wish {X : Cx} (ok : X.Ok) (E : Value → Shared → Prop) : (X.wish E).Ok :=
 ⟨ok.mod, ok.kind, ok.glob, ok.blt, ok.above, ok.inj, ok.has, ok.cab, ok.hd, ok.frames, ok.stk, ok.exf, ok.bs, ok.bsz, ok.noex, ok.exfs, ok.funs, ok.frf⟩
theorem Cx.Ok.unwish {X : Cx} {E : Value → Shared → Prop} (ok : (X.wish E).Ok) : X.Ok :=
 ⟨ok.mod, ok.kind, ok.glob, ok.blt, ok.above, ok.inj, ok.has, ok.cab, ok.hd, ok.frames, ok.stk, ok.exf, ok.bs, ok.bsz, ok.noex, ok.exfs, ok.funs, ok.frf⟩
section
variable {X : Cx} {pins : List (Addr × Obj)} {σ : St} {H : Hp} {s : Shared} {E : Value → Shared → Prop}
theorem Inv.wish (I : Inv X pins σ H s) (E : Value → Shared → Prop) : Inv (X.wish E) pins σ H s := ⟨I.ok.wish E, I.os, I.bare, I.base, I.loc, I.cell, I.free, I.freeC, I.pin, I.hok, I.len⟩
theorem Inv.unwish (I : Inv (X.wish E) pins σ H s) : Inv X pins σ H s := ⟨I.ok.unwish, I.os, I.bare, I.base, I.loc, I.cell, I.free, I.freeC, I.pin, I.hok, I.len⟩
theorem SP.unwish {D : Ends} {f : Flow} {s' : Shared} (h : SP (X.wish E) pins D f s') : SP X pins D f s' := by
 cases f with
 | next => obtain ⟨σ', H', I, q⟩ := h; exact ⟨σ', H', I.unwish, q⟩
 | brk => obtain ⟨σ', H', I, q⟩ := h; exact ⟨σ', H', I.unwish, q⟩
 | cont => obtain ⟨σ', H', I, q⟩ := h; exact ⟨σ', H', I.unwish, q⟩
 | ret u => obtain ⟨v, σ', H', I, r, q⟩ := h; exact ⟨v, σ', H', I.unwish, r, q⟩
theorem PSs.nox {st : List Stmt} {t : TS} (h : PSs X.nox st t) : PSs X st t := fun pins s σ H D I hw =>
 wpAny_mono (h pins s σ H D (I.wish _) hw) (fun _ _ q => q.unwish) fun _ _ z => False.elim z
end
section
variable {X : Cx} {st : Stmt} {rest : List Stmt} {t u : TS} {e : Expr} {te : TE} {pos : Pos}
def tNext : TS := fun D σ H => D.nx σ H
def tSeq (t u : TS) : TS := fun D σ H => t { D with nx := u D } σ H
theorem pss_nil : PSs X [] tNext := fun _ _ σ H _ I h => wpAny_execs_nil ⟨σ, H, I, h⟩
theorem pss_cons (h1 : PS X st t) (h2 : PSs X rest u) : PSs X (st :: rest) (tSeq t u) := by
 intro pins s σ H D I h
 refine wpAny_execs_cons (thn (h1 pins s σ H { D with nx := u D } I h) fun f s1 q => ?_)
 cases f with
 | next =>
  obtain ⟨σ', H', I', q⟩ := q
  exact h2 pins s1 σ' H' D I' q
 | ret v => exact q
 | brk => exact q
 | cont => exact q
theorem pss_one (h1 : PS X st t) : PSs X [st] t := by
 intro pins s σ H D I h
 refine wpAny_execs_cons (thn (h1 pins s σ H D I h) fun f s1 q => ?_)
 cases f with
 | next => exact wpAny_execs_nil q
 | ret v => exact q
 | brk => exact q
 | cont => exact q
theorem Inv.quiet {pins : List (Addr × Obj)} {σ : St} {H : Hp} {s : Shared} (I : Inv X pins σ H s) : interactive X.env = false := by simp [interactive, I.ok.kind]
def tDrop (te : TE) : TS := fun D σ H => te σ H fun _ H1 => D.nx σ H1
theorem ps_expr (he : PE X e te) (hs : swapsWith e none pos.line X.env = pure false := by rfl) : PS X (.Expr e pos) (tDrop te) := by
 intro pins s σ H D I h
 exact wpAny_Expr_any (thn (he pins s σ H _ I h) fun v s1 ⟨x, H1, I1, r1, q1⟩ => ⟨σ, H1, I1, q1⟩) I.quiet hs
def tRet (te : TE) : TS := fun D σ H => te σ H D.rt
theorem ps_ret (he : PE X e te) : PS X (.Return (some e) pos) (tRet te) := by
 intro pins s σ H D I h
 exact wpAny_Return_some (thn (he pins s σ H _ I h) fun v s1 ⟨x, H1, I1, r1, q1⟩ => ⟨x, σ, H1, I1, r1, q1⟩)
def tIfS (c : TT) (t u : TS) : TS := fun D σ H => c σ H fun b H1 => if b = true then t D σ H1 else u D σ H1
theorem ps_if {c : Expr} {a b : List Stmt} {tc : TT} (hc : PT X c tc) (ha : PSs X a t) (hb : PSs X b u) : PS X (.If c a b pos) (tIfS tc t u) := by
 intro pins s σ H D I h
 refine wpAny_If (thn (hc pins s σ H _ I h) fun d s1 ⟨H1, I1, q1⟩ => ?_)
 cases d with
 | true => exact ha pins s1 σ H1 D I1 q1
 | false => exact hb pins s1 σ H1 D I1 q1
end
abbrev TG := V → St → Hp → (St → Hp → Prop) → Prop
abbrev TGs := List V → St → Hp → (St → Hp → Prop) → Prop
def PG (X : Cx) (target : Expr) (t : TG) : Prop :=
 ∀ (pins : List (Addr × Obj)) (s : Shared) (σ : St) (H : Hp) (v : V) (u : Value) (Q : St → Hp → Prop), Inv X pins σ H s → RelV v u → t v σ H Q →
  wpAny (model X.prog X.w) X.A (assign target X.env u) (fun _ s' => ∃ σ' H', Inv X pins σ' H' s' ∧ Q σ' H') X.xe s
def PGs (X : Cx) (ts : List Expr) (t : TGs) : Prop :=
 ∀ (pins : List (Addr × Obj)) (s : Shared) (σ : St) (H : Hp) (vs : List V) (us : List Value) (Q : St → Hp → Prop), Inv X pins σ H s → Vals vs us → t vs σ H Q →
  wpAny (model X.prog X.w) X.A (assignInOrder ((assignEach ts X.env).map (·.2)) us) (fun _ s' => ∃ σ' H', Inv X pins σ' H' s' ∧ Q σ' H') X.xe s
abbrev TSet := V → V → V → Hp → (Hp → Prop) → Prop
def PSet (X : Cx) (t : TSet) : Prop :=
 ∀ (pins : List (Addr × Obj)) (s : Shared) (σ : St) (H : Hp) (o i v : V) (ov iv u : Value) (Q : Hp → Prop), Inv X pins σ H s → RelV o ov → RelV i iv → RelV v u → t o i v H Q →
  wpAny (model X.prog X.w) X.A (setItem ov iv u) (fun _ s' => ∃ H', Inv X pins σ H' s' ∧ Q H') X.xe s
abbrev TIp := V → V → Hp → VK → Prop
def PIp (X : Cx) (op : Operator) (t : TIp) : Prop :=
 ∀ (pins : List (Addr × Obj)) (s : Shared) (σ : St) (H : Hp) (x y : V) (v u : Value) (Q : VK), Inv X pins σ H s → RelV x v → RelV y u → t x y H Q →
  wpAny (model X.prog X.w) X.A (inplaceOp op v u) (EP X pins σ Q) X.xe s
section
variable {X : Cx} {pos : Pos}
def gName (i : Nat) : TG := fun v σ H Q => Q (σ.set i (some v)) H
theorem pg_name {i : Nat} {x : Str} (hN : X.N.Nodup) (hi : X.N[i]? = some x) (hx : Loc X.env.scope x) (hf : X.fn x = true ∨ X.env.scope.names.lookup x = some .local := by first | exact .inl rfl | exact .inr rfl | assumption) : PG X (.Name x pos) (gName i) := by
 intro pins s σ H v u Q I r h
 exact wpAny_assign_Name (store_ok I hN hi hx r (fun s' I' => ⟨_, H, I', h⟩) hf)
def gNil : TGs := fun vs σ H Q => vs = [] ∧ Q σ H
def gCons (t : TG) (u : TGs) : TGs := fun vs σ H Q => ∃ v r, vs = v :: r ∧ t v σ H fun σ' H' => u r σ' H' Q
theorem pgs_nil : PGs X [] gNil := by
 intro pins s σ H vs us Q I r h
 obtain ⟨e, h⟩ := h
 subst e
 cases r
 exact assignInOrder_nil ⟨σ, H, I, h⟩
theorem pgs_cons {e : Expr} {es : List Expr} {t : TG} {u : TGs} (h1 : PG X e t) (h2 : PGs X es u)
  (hs : (assignEach (e :: es) X.env).map (·.2) = assign e X.env :: (assignEach es X.env).map (·.2) := by rfl) : PGs X (e :: es) (gCons t u) := by
 intro pins s σ H vs us Q I r h
 obtain ⟨v, vr, e1, h⟩ := h
 subst e1
 cases r with
 | cons r rr =>
  rw [hs]
  refine assignInOrder_cons (thn (h1 pins s σ H _ _ _ I r h) fun _ s1 ⟨σ1, H1, I1, q1⟩ => ?_)
  exact h2 pins s1 σ1 H1 _ _ Q I1 rr q1
def gTup (K : PySem.W.Frag) (n : Nat) (t : TGs) : TG := fun v σ H Q => ∃ a xs, v = .ref a ∧ SqT K H a xs ∧ xs.length = n ∧ t xs σ H Q
theorem pg_tup {es : List Expr} {k : Nat} {t : TGs} {n : Nat} (hc : X.calm = true) (h : PGs X es t)
  (hn : (assignEach es X.env).length = n := by rfl) (hst : (assignEach es X.env).findIdx? (·.1) = none := by rfl) : PG X (.Tuple es k pos) (gTup X.K n t) := by
 intro pins s σ H v u Q I r hw
 obtain ⟨a, xs, e1, hq, hl, hw⟩ := hw
 subst e1
 cases r
 obtain ⟨its, rv, ht, hz⟩ := I.tuple hq
 refine assign_Tuple_tuple (I.ok.hd hc) ht (by simp [hn, ← hl, rv.length]) hst fun h' hx => ?_
 have I1 : Inv X pins σ H { s with heap := h' } := I.kept (t' := s.toks) fun b o e => hx b o (Nat.ne_of_lt (Heap.lt_size e)) e
 exact h pins _ σ H xs _ Q I1 (by simpa using rv) hw
def gSub (to ti : TE) (t : TSet) : TG := fun v σ H Q => to σ H fun o H1 => ti σ H1 fun i H2 => t o i v H2 fun H3 => Q σ H3
theorem pg_sub {o i : Expr} {to ti : TE} {t : TSet} (ho : PE X o to) (hi : PE X i ti) (hs : PSet X t)
  (ha : ∀ v, assign (.Subscript o i pos) X.env v = (do
   let ov ← holding [v] (eval o X.env)
   let iv ← holding [v, ov] (eval i X.env)
   standAt pos
   holding [v, ov, iv] (setItem ov iv v)
   release [v, ov, iv] []) := by intro _; rfl) : PG X (.Subscript o i pos) (gSub to ti t) := by
 intro pins s σ H v u Q I r h
 rw [ha]
 refine wpAny_bind (wpAny_holding (thn (ho pins s σ H _ I h) fun ov s1 ⟨x, H1, I1, r1, q1⟩ => ?_))
 refine wpAny_bind (wpAny_holding (thn (hi pins s1 σ H1 _ I1 q1) fun iv s2 ⟨y, H2, I2, r2, q2⟩ => ?_))
 refine wpAny_bind (wpAny_standAt (wpAny_bind (wpAny_holding (thn (hs pins s2 σ H2 x y v ov iv u _ I2 r1 r2 r q2) fun _ s3 ⟨H3, I3, q3⟩ => ?_))))
 exact wpAny_release ⟨σ, H3, I3, q3⟩
def tAsg (te : TE) (g : TG) : TS := fun D σ H => te σ H fun x H1 => g x σ H1 D.nx
theorem ps_asg {tg e : Expr} {te : TE} {g : TG} (he : PE X e te) (hg : PG X tg g) (hs : swapsWithSole [tg] e pos.line X.env = pure false := by rfl) (hw : swappedStores [tg] e X.env = pure none := by rfl)
  (h1 : (assignEach [tg] X.env).map (·.2) = [assign tg X.env] := by rfl) : PS X (.Assign [tg] e pos) (tAsg te g) := by
 intro pins s σ H D I h
 refine wpAny_Assign_stores (thn (he pins s σ H _ I h) fun v s1 ⟨x, H1, I1, r1, q1⟩ => ?_) hs hw
 rw [h1]
 exact thn (hg pins s1 σ H1 x v _ I1 r1 q1) fun _ s2 q => q
theorem ps_set {i : Nat} {x : Str} {e : Expr} {te : TE} {pos' : Pos} (hN : X.N.Nodup) (hi : X.N[i]? = some x) (hx : Loc X.env.scope x) (he : PE X e te) (hs : swapsWith e (some (.Name x pos')) pos.line X.env = pure false := by rfl) (hf : X.fn x = true ∨ X.env.scope.names.lookup x = some .local := by first | exact .inl rfl | exact .inr rfl | assumption) :
  PS X (.Assign [.Name x pos'] e pos) (tAsg te (gName i)) := by
 intro pins s σ H D I h
 refine wpAny_Assign_Name (thn (he pins s σ H _ I h) fun v s1 ⟨y, H1, I1, r1, q1⟩ => ?_) hs
 exact store_ok I1 hN hi hx r1 (fun s2 I2 => ⟨_, H1, I2, q1⟩) hf
def tAug (i : Nat) (te : TE) (ti : TIp) : TS := fun D σ H => ∃ x, σ[i]? = some (some x) ∧ te σ H fun y H1 => ti x y H1 fun z H2 => D.nx (σ.set i (some z)) H2
theorem ps_aug {i : Nat} {x : Str} {e : Expr} {te : TE} {op : Operator} {ti : TIp} {pos' : Pos} (hN : X.N.Nodup) (hi : X.N[i]? = some x) (hx : Loc X.env.scope x) (he : PE X e te) (ho : PIp X op ti) (hf : X.fn x = true ∨ X.env.scope.names.lookup x = some .local := by first | exact .inl rfl | exact .inr rfl | assumption) :
  PS X (.AugAssign (.Name x pos') op e pos) (tAug i te ti) := by
 intro pins s σ H D I h
 obtain ⟨v, e1, h⟩ := h
 obtain ⟨m, hn, hl⟩ := I.loc
 have vis : Vis X.env.scope x := by rcases hx with k | k; exact .inl k; exact .inr (.inl k)
 obtain ⟨u, r, l⟩ := hl i x v hi e1 vis
 refine wpAny_AugAssign_Name ?_
 have go : wpAny (model X.prog X.w) X.A (eval e X.env) (fun w s₂ => wpAny (model X.prog X.w) X.A (inplaceOp op u w) (fun r s₃ => wpAny (model X.prog X.w) X.A (storeName X.env x r) (fun _ => SP X pins D .next) X.xe s₃) X.xe s₂) X.xe s := by
  refine thn (he pins s σ H _ I h) fun w s1 ⟨y, H1, I1, r1, q1⟩ => ?_
  refine thn (ho pins s1 σ H1 v y u w _ I1 r r1 q1) fun z s2 ⟨zv, H2, I2, r2, q2⟩ => ?_
  exact store_ok I2 hN hi hx r2 (fun s3 I3 => ⟨_, H2, I3, q2⟩) hf
 rcases l with ⟨hk, hm⟩ | ⟨hk, c, hc, hcell⟩
 ·exact wpAny_loadName_local I.ok.kind hk hn hm go
 ·rcases hk with hk | hk
  ·exact wpAny_loadName_cell I.ok.kind hk hc hcell go
  ·rcases hx with k | k
   ·have : X.env.scope.names.lookup x = some .free := hk
    rw [k] at this; cases this
   ·have : X.env.scope.names.lookup x = some .free := hk
    rw [k] at this; cases this
def ipI (f : Int → Int → Int) : TIp := fun x y H Q => ∃ i j, x = .int i ∧ y = .int j ∧ Q (.int (f i j)) H
theorem ip_add : PIp X .Add (ipI fun i j => i + j) := by
 intro pins s σ H x y v u Q I r1 r2 h
 obtain ⟨i, j, e1, e2, q⟩ := h
 subst e1; subst e2
 obtain ⟨t, rfl⟩ := r1
 obtain ⟨t', rfl⟩ := r2
 exact iadd_int ⟨.int _, H, I.tok _, ⟨_, rfl⟩, q⟩
end
section
variable {X : Cx} {pos : Pos}
def tWhile (c : TT) (tb : TS) : TS := fun D σ H => ∃ W : Nat → St → Hp → Prop, (∃ m, W m σ H) ∧ ∀ m σ H, W m σ H →
 c σ H fun b H1 => if b = true then ∃ N : St → Hp → Prop, (∀ σ' H', N σ' H' → ∃ m', m' < m ∧ W m' σ' H') ∧ tb { D with nx := N, ct := N, bk := D.nx } σ H1 else D.nx σ H1
theorem ps_while {c : Expr} {body : List Stmt} {tc : TT} {tb : TS} (hp : PassesOwn (model X.prog X.w) X.A X.env X.xe) (hc : PT X c tc) (hb : PSs X body tb) : PS X (.While c body [] pos) (tWhile tc tb) := by
 intro pins s σ H D I h
 obtain ⟨W, ⟨m0, w0⟩, turn⟩ := h
 refine wpAny_While (codeAny_whileLoop (fun n s' => ∃ σ' H', Inv X pins σ' H' s' ∧ W n σ' H') ?_ m0 ⟨σ, H, I, w0⟩)
 rintro n s1 ⟨σ1, H1, I1, w1⟩
 refine wpAny_passesOwn hp (thn (hc pins s1 σ1 H1 _ I1 (turn n σ1 H1 w1)) fun b s2 ⟨H2, I2, q2⟩ => ?_)
 cases b with
 | true =>
  obtain ⟨N, hN, q2⟩ := q2
  rw [if_pos rfl]
  refine wpAny_passesOwn hp (thn (hb pins s2 σ1 H2 _ I2 q2) fun f s3 q3 => ?_)
  cases f with
  | next =>
   obtain ⟨σ3, H3, I3, n3⟩ := q3
   obtain ⟨m', hm, w3⟩ := hN σ3 H3 n3
   exact ⟨m', hm, σ3, H3, I3, w3⟩
  | cont =>
   obtain ⟨σ3, H3, I3, n3⟩ := q3
   obtain ⟨m', hm, w3⟩ := hN σ3 H3 n3
   exact ⟨m', hm, σ3, H3, I3, w3⟩
  | brk => exact q3
  | ret v => exact q3
 | false =>
  rw [if_neg Bool.false_ne_true]
  exact wpAny_execs_nil ⟨σ1, H2, I2, q2⟩
end
structure It where
 go : Nat → Hp → Prop
 yld : Nat → Hp → V → Hp → Prop
 stop : Nat → Hp → Prop
def FpOk (X : Cx) (pins : List (Addr × Obj)) (H : Hp) (b : Addr) : Prop :=
 H b = none ∧ b ≠ X.env.locals ∧ b ∉ X.fs ∧ (b ∈ X.ex ∨ X.s_0.heap.objs.size ≤ b) ∧ (∀ x c, X.env.cells.lookup x = some c → c ≠ b) ∧ ∀ p ∈ X.pn ++ pins, p.1 ≠ b
theorem Inv.fpOk {X : Cx} {pins : List (Addr × Obj)} {σ : St} {H H' : Hp} {s : Shared} {b : Addr} (I : Inv X pins σ H s) (hb : s.heap.objs.size ≤ b) (hn : H' b = none) : FpOk X pins H' b := by
 refine ⟨hn, Nat.ne_of_gt (Nat.lt_of_lt_of_le I.lt hb), I.nofs hb, .inr (Nat.le_trans I.sz hb), fun x c e z => ?_, fun p hp z => ?_⟩
 ·obtain ⟨v, q⟩ := I.cell x c e
  exact absurd (Nat.lt_of_lt_of_le q.lt (by rw [z]; exact hb)) (Nat.lt_irrefl _)
 ·exact absurd (Nat.lt_of_lt_of_le (Heap.lt_size (I.pin p hp).1) (by rw [z]; exact hb)) (Nat.lt_irrefl _)
structure Turn (P : Program) (w : World) (K : PySem.W.Frag) (tg : Expr) (J : It) (fp : List Addr) (it : Addr) (tn : Nat → Heap → Prop) : Prop where
 mem : it ∈ fp
 obj : ∀ i h, tn i h → ∀ b ∈ fp, ∃ o, h.get? b = some o ∧ ∀ v, o.data ≠ .cell v
 keep : ∀ i h h', tn i h → (∀ b ∈ fp, ∀ o, h.get? b = some o → h'.get? b = some o) → tn i h'
 item : ∀ (X : Cx), X.prog = P → X.w = w → X.K = K → X.calm = true → ∀ (i : Nat) (pins : List (Addr × Obj)) (s : Shared) (σ : St) (H : Hp) (E : Value → Shared → Prop), Inv X pins σ H s → (∀ b ∈ fp, FpOk X pins H b) → tn i s.heap → J.go i H →
  wpAny (model P w) X.A (pyNext (.ref it)) (fun r s1 => ∃ u, r = some u ∧
   wpAny (model P w) X.A (letOwnedTupleGo tg (.ref it) u) (fun _ s2 => ∃ x H', Inv X pins σ H' s2 ∧ RelV x u ∧ J.yld i H x H' ∧ tn (i + 1) s2.heap ∧ ∀ b ∈ fp, H' b = none) E s1) E s
 done : ∀ (X : Cx), X.prog = P → X.w = w → X.K = K → X.calm = true → ∀ (i : Nat) (pins : List (Addr × Obj)) (s : Shared) (σ : St) (H : Hp) (E : Value → Shared → Prop), Inv X pins σ H s → (∀ b ∈ fp, FpOk X pins H b) → tn i s.heap → J.stop i H →
  wpAny (model P w) X.A (pyNext (.ref it)) (fun r s1 => r = none ∧ Inv X pins σ H s1) E s
 self : ∀ (A : Around) (i : Nat) (s : Shared) (Q : Value → Shared → Prop) (E : Value → Shared → Prop), tn i s.heap → Q (.ref it) s → wpAny (model P w) A (pyIter (.ref it)) Q E s
abbrev TI := St → Hp → (It → Hp → Prop) → Prop
def PIE (X : Cx) (pins : List (Addr × Obj)) (σ : St) (tg : Expr) (R : It → Hp → Prop) (itv : Value) (s2 : Shared) : Prop :=
 ∃ (it : Addr) (fp : List Addr) (tn : Nat → Heap → Prop) (J : It) (H' : Hp), itv = .ref it ∧ Inv X pins σ H' s2 ∧ Turn X.prog X.w X.K tg J fp it tn ∧ tn 0 s2.heap ∧ (∀ b ∈ fp, FpOk X pins H' b) ∧ R J H'
def PI (X : Cx) (tg iter : Expr) (wi : TI) : Prop :=
 ∀ (pins : List (Addr × Obj)) (s : Shared) (σ : St) (H : Hp) (R : It → Hp → Prop), Inv X pins σ H s → wi σ H R →
  wpAny (model X.prog X.w) X.A (eval iter X.env) (fun v s1 => wpAny (model X.prog X.w) X.A (pyIter v) (PIE X pins σ tg R) X.xe s1) X.xe s
theorem go_of {M : Model} {A : Around} {E : Value → Shared → Prop} {s : Shared} {tg : Expr} {it : Addr} {u : Value} {o : Obj} {n : String} {vs : Array Value} {Q : Unit → Shared → Prop} (ho : s.heap.get? it = some o) (hc : o.cls = .type n) (hd : o.data = .fields vs)
  (hn : ["enumerate", "zip", "dict_itemiterator", "dict_reverseitemiterator", "odict_iterator", "itertools.zip_longest", "itertools.pairwise"].contains n = false) (hQ : Q () s) : wpAny M A (letOwnedTupleGo tg (.ref it) u) Q E s := by
 unfold letOwnedTupleGo
 cases tg <;> first
  | exact wpAny_pure hQ
  | (cases u <;> first
    | exact wpAny_pure hQ
    | (refine wpAny_bind (wpAny_load ho ?_)
       rw [hc, hd]
       show wpAny M A (if (["enumerate", "zip", "dict_itemiterator", "dict_reverseitemiterator", "odict_iterator", "itertools.zip_longest", "itertools.pairwise"].contains n && vs[0]? == some (rawInt _)) = true then _ else _) Q E s
       rw [if_neg (by intro h; rw [hn, Bool.false_and] at h; cases h)]
       exact wpAny_pure hQ))
def Itl (K : PySem.W.Frag) (a : Addr) : It :=
 ⟨fun i H => ∃ xs x, SqL K H a xs ∧ xs[i]? = some x, fun i H x H' => H' = H ∧ ∀ xs, SqL K H a xs → xs[i]? = some x, fun i H => ∃ xs, SqL K H a xs ∧ xs.length ≤ i⟩
def Itr (lo : Int) (n : Nat) : It := ⟨fun i _ => i < n, fun i H x H' => H' = H ∧ x = .int (lo + i), fun i _ => n ≤ i⟩
theorem turn_list {P : Program} {w : World} {K : PySem.W.Frag} {tg : Expr} (a it : Addr) : Turn P w K tg (Itl K a) [it] it (fun i h => h.IsListIter it a i) where
 mem := by simp
 obj := fun i h st b hb => by
  have e : b = it := by simpa using hb
  subst e
  obtain ⟨o, e, c, d⟩ := st
  exact ⟨o, e, fun v z => by rw [d] at z; cases z⟩
 keep := fun i h h' st k => st.at fun o e => k it (by simp) o e
 item := by
  intro X hP hw hK hc i pins s σ H E I hf st hg
  subst hP hw hK
  obtain ⟨xs, x, hq, hx⟩ := hg
  obtain ⟨its, rv, p, hz⟩ := I.list hq
  obtain ⟨u, hu, ru⟩ := rv.get hx
  obtain ⟨f0, f1, f2, f3, f4, f5⟩ := hf it (by simp)
  refine wpAny_pyNext_list_item st p.isList (x := u) (by simpa using hu) fun h' st' sb => ?_
  have I1 : Inv X pins σ H { s with heap := h' } := I.turned (t' := s.toks) (fun b o hb e => (sb.2 b hb).trans e) f0 f1 f3 f4 f5
  obtain ⟨o, e, c, d⟩ := id st'
  exact ⟨u, rfl, go_of (s := { s with heap := h' }) e c d (by decide) ⟨x, H, I1, ru, ⟨rfl, fun ys hy => by rw [I.list_inj hy hq]; exact hx⟩, st', fun b hb => (hf b hb).1⟩⟩
 done := by
  intro X hP hw hK hc i pins s σ H E I hf st hg
  subst hP hw hK
  obtain ⟨xs, hq, hx⟩ := hg
  obtain ⟨its, rv, p, hz⟩ := I.list hq
  obtain ⟨f0, f1, f2, f3, f4, f5⟩ := hf it (by simp)
  have hl := rv.length
  exact wpAny_pyNext_list_end (I.ok.hd hc) st p.isList (by simp; omega) fun h' eb => ⟨rfl, I.turned (t' := s.toks) (fun b o hb e => eb b o hb e) f0 f1 f3 f4 f5⟩
 self := fun _ _ _ _ _ st h => wpAny_pyIter_listiter st h
theorem turn_range {P : Program} {w : World} {K : PySem.W.Frag} {tg : Expr} (it : Addr) (lo : Int) (n : Nat) : Turn P w K tg (Itr lo n) [it] it (fun i h => IsRangeIter h it (lo + (i : Nat) * 1) ((n : Int) - (i : Nat)) 1) where
 mem := by simp
 obj := fun i h st b hb => by
  have e : b = it := by simpa using hb
  subst e
  exact ⟨_, st, fun v z => by
   have z' : Data.fields _ = Data.cell v := z
   cases z'⟩
 keep := fun i h h' st k => k it (by simp) _ st
 item := by
  intro X hP hw hK hc i pins s σ H E I hf st hg
  subst hP hw hK
  obtain ⟨f0, f1, f2, f3, f4, f5⟩ := hf it (by simp)
  have W := Walks.range (prog := X.prog) (w := X.w) (I.ok.hd hc) it lo 1 n
  refine W.item i s _ _ hg st fun v h' tk hv st' kk => ?_
  obtain ⟨t, rfl⟩ := hv
  have I1 : Inv X pins σ H { s with heap := h', toks := tk } := I.turned (fun b o hb e => kk b o (by simpa using hb) e) f0 f1 f3 f4 f5
  refine ⟨_, rfl, go_of (s := { s with heap := h', toks := tk }) (n := "range_iterator") st' rfl rfl (by decide) ⟨.int (lo + i), H, I1, ⟨t, ?_⟩, ⟨rfl, rfl⟩, st', fun b hb => (hf b hb).1⟩⟩
  rw [Int.mul_one]
 done := by
  intro X hP hw hK hc i pins s σ H E I hf st hg
  subst hP hw hK
  obtain ⟨f0, f1, f2, f3, f4, f5⟩ := hf it (by simp)
  exact wpAny_pyNext_range_end (I.ok.hd hc) st (by have : n ≤ i := hg; omega) fun h' eb => ⟨rfl, I.turned (t' := s.toks) (fun b o hb e => eb b o hb e) f0 f1 f3 f4 f5⟩
 self := fun _ _ _ _ _ st h => wpAny_pyIter_rangeiter st h
end L2
namespace L2
open PySem PySem.Spec PyProof.Rows
section
variable {X : Cx} {tg : Expr}
def iList (K : PySem.W.Frag) (tl : TE) : TI := fun σ H R => tl σ H fun x H1 => ∃ a, x = .ref a ∧ (∃ xs, SqL K H1 a xs) ∧ R (Itl K a) H1
theorem pi_list {l : Expr} {tl : TE} (hl : PE X l tl) : PI X tg l (iList X.K tl) := by
 intro pins s σ H R I h
 refine thn (hl pins s σ H _ I h) fun v s1 ⟨x, H1, I1, r1, q1⟩ => ?_
 obtain ⟨a, e, ⟨xs, hq⟩, q⟩ := q1
 subst e
 cases r1
 obtain ⟨its, rv, p, hz⟩ := I1.list hq
 refine wpAny_pyIter_list p.isList ?_
 refine ⟨s1.heap.objs.size, [s1.heap.objs.size], _, _, H1, rfl, I1.kept (t' := s1.toks) fun b o e => Heap.get?_push_of_some _ e, turn_list a _, ⟨_, Heap.get?_push_size _ rfl, rfl, rfl⟩, fun b hb => ?_, q⟩
 have e : b = s1.heap.objs.size := by simpa using hb
 subst e
 exact I1.fpOk (Nat.le_refl _) (I1.hok.fresh (Nat.le_refl _))
theorem range_it {pins : List (Addr × Obj)} {σ : St} {H : Hp} {s : Shared} {R : It → Hp → Prop} {E : Value → Shared → Prop} {lo hi : Int} {t u v : Tok} {tk : Nat} (I : Inv X pins σ H s) (h1 : -(2 ^ 62) ≤ lo) (h2 : lo < 2 ^ 62) (h3 : -(2 ^ 62) ≤ hi) (h4 : hi < 2 ^ 62)
  (q : R (Itr lo (hi - lo).toNat) H) : wpAny (model X.prog X.w) X.A (pyIter (.ref s.heap.objs.size)) (PIE X pins σ tg R) E { s with heap := s.heap.push { cls := .type "range", data := .fields #[.int lo t, .int hi u, .int 1 v] }, toks := tk } := by
 refine wpAny_pyIter_range (IsRange.new ..) (small_one h1 h2 h3 h4) ?_
 have I1 : Inv X pins σ H { s with heap := s.heap.push { cls := .type "range", data := .fields #[.int lo t, .int hi u, .int 1 v] }, toks := tk } := I.kept fun b o e => Heap.get?_push_of_some _ e
 refine ⟨(s.heap.push { cls := .type "range", data := .fields #[.int lo t, .int hi u, .int 1 v] }).objs.size, [(s.heap.push { cls := .type "range", data := .fields #[.int lo t, .int hi u, .int 1 v] }).objs.size], _, _, H, rfl,
  I1.kept (t' := tk) fun b o e => Heap.get?_push_of_some _ e, turn_range _ lo (hi - lo).toNat, ?_, fun b hb => ?_, q⟩
 ·have e1 : lo + ((0 : Nat) : Int) * 1 = lo := by simp
  have e2 : (((hi - lo).toNat : Nat) : Int) - ((0 : Nat) : Int) = Builtin.Range.rangeSize lo hi 1 := by rw [rangeSize_one]; split <;> omega
  show IsRangeIter _ _ (lo + ((0 : Nat) : Int) * 1) ((((hi - lo).toNat : Nat) : Int) - ((0 : Nat) : Int)) 1
  rw [e1, e2]
  exact Heap.get?_push_size _ rfl
 ·have e : b = (s.heap.push { cls := .type "range", data := .fields #[.int lo t, .int hi u, .int 1 v] }).objs.size := by simpa using hb
  subst e
  exact I1.fpOk (Nat.le_refl _) (I1.hok.fresh (Nat.le_refl _))
def iRng1 (ta : TA) : TI := fun σ H R => ta σ H fun vs H1 => ∃ j : Int, vs = [.int j] ∧ -(2 ^ 62) ≤ j ∧ j < 2 ^ 62 ∧ R (Itr 0 j.toNat) H1
theorem pi_range1 {a : Expr} {ta : TA} {p pos : Pos} (hg : Gl X "range") (hm : X.mg "range" = none) (ha : PA X [a] ta) (hs : starEach [a] X.env = [(false, eval a X.env)] := by rfl) : PI X tg (.Call (.Name "range" p) [a] [] pos) (iRng1 ta) := by
 intro pins s σ H R I h
 refine Call_ (ld_blt I hg hm boot_range (PyProof.Rows.callWith_type1 (thn (ha pos pins s σ H _ I h) fun us s1 ⟨vs, H1, I1, r1, q1⟩ => ?_) hs rfl))
 obtain ⟨j, e, q1, q2, q⟩ := q1
 subst e
 cases r1 with
 | cons r rr =>
  cases rr
  obtain ⟨t, rfl⟩ := r
  exact call_range_1 (range_it I1 (by omega) (by omega) q1 q2 (by simpa using q))
def tFor (wi : TI) (g : TG) (tb : TS) : TS := fun D σ H => wi σ H fun J H1 => ∃ W : Nat → Nat → St → Hp → Prop, (∃ m, W 0 m σ H1) ∧ ∀ i m σ H, W i m σ H →
 (J.stop i H ∧ D.nx σ H) ∨ (J.go i H ∧ ∃ N : St → Hp → Prop, (∀ σ' H', N σ' H' → ∃ m', m' < m ∧ W (i + 1) m' σ' H') ∧ ∀ x H', J.yld i H x H' → g x σ H' fun σ2 H2 => tb { D with nx := N, ct := N, bk := D.nx } σ2 H2)
def pinsAt (fp : List Addr) (h : Heap) : List (Addr × Obj) := fp.filterMap fun b => (h.get? b).map fun o => (b, o)
theorem mem_pinsAt {fp : List Addr} {h : Heap} {b : Addr} {o : Obj} (hb : b ∈ fp) (e : h.get? b = some o) : (b, o) ∈ pinsAt fp h := List.mem_filterMap.mpr ⟨b, hb, by rw [e]; rfl⟩
theorem of_pinsAt {fp : List Addr} {h : Heap} {p : Addr × Obj} (hp : p ∈ pinsAt fp h) : p.1 ∈ fp ∧ h.get? p.1 = some p.2 := by
 obtain ⟨b, hb, e⟩ := List.mem_filterMap.mp hp
 cases q : h.get? b with
 | none => rw [q] at e; cases e
 | some o =>
  rw [q] at e
  have e' : (b, o) = p := Option.some.inj e
  subst e'
  exact ⟨hb, q⟩
theorem Inv.pinned {pins : List (Addr × Obj)} {σ : St} {H : Hp} {s : Shared} {fp : List Addr} (I : Inv X pins σ H s) (hf : ∀ b ∈ fp, FpOk X pins H b) (ho : ∀ b ∈ fp, ∃ o, s.heap.get? b = some o ∧ ∀ v, o.data ≠ .cell v) : Inv X (pins ++ pinsAt fp s.heap) σ H s :=
 I.pins_of fun p hp => (List.mem_append.mp hp).elim (fun z => I.pin p (List.mem_append_right _ z)) fun z => by
  obtain ⟨hb, e⟩ := of_pinsAt z
  obtain ⟨f0, f1, f2, _⟩ := hf p.1 hb
  obtain ⟨o, e', d⟩ := ho p.1 hb
  rw [e] at e'; cases e'
  exact ⟨e, f0, f1, f2, d⟩
theorem Inv.unpinned {pins pl : List (Addr × Obj)} {σ : St} {H : Hp} {s : Shared} (I : Inv X (pins ++ pl) σ H s) : Inv X pins σ H s := I.pins_of fun p hp => I.pin p (List.mem_append_right _ (List.mem_append_left _ hp))
theorem ps_for {iter : Expr} {body : List Stmt} {wi : TI} {g : TG} {tb : TS} {pos : Pos} (hp : PassesOwn (model X.prog X.w) X.A X.env X.xe) (hc : X.calm = true) (hi : PI X tg iter wi) (hg : PG X tg g) (hb : PSs X body tb)
  (hs : ∀ x, foldedSetIterable iter X.env x = pure x := by intro _; rfl) : PS X (.For tg iter body [] pos) (tFor wi g tb) := by
 intro pins s σ H D I h
 refine wpAny_For (thn (hi pins s σ H _ I h) fun v s1 h1 => thn h1 fun itv s2 h2 => ?_) hs
 obtain ⟨it, fp, tn, J, H2, e, I2, T, st2, f2, W, ⟨m0, w0⟩, turn⟩ := h2
 subst e
 have stat : ∀ {H' : Hp}, (∀ b ∈ fp, H' b = none) → ∀ b ∈ fp, FpOk X pins H' b := fun hn b hb => ⟨hn b hb, (f2 b hb).2⟩
 refine codeAny_forLoop_any (fun n s' => ∃ i σ' H', Inv X pins σ' H' s' ∧ tn i s'.heap ∧ (∀ b ∈ fp, H' b = none) ∧ W i n σ' H') ?_ m0 ⟨0, σ, H2, I2, st2, fun b hb => (f2 b hb).1, w0⟩
 rintro n s3 ⟨i, σ3, H3, I3, st3, fr3, w3⟩
 rcases turn i n σ3 H3 w3 with ⟨stop, qn⟩ | ⟨go, N, hN, step⟩
 ·refine wpAny_passesOwn hp (thn (T.done X rfl rfl rfl hc i pins s3 σ3 H3 X.xe I3 (stat fr3) st3 stop) fun r s4 ⟨hr, I4⟩ => ?_)
  subst hr
  exact wpAny_execs_nil ⟨σ3, H3, I4, qn⟩
 ·refine wpAny_passesOwn hp (thn (T.item X rfl rfl rfl hc i pins s3 σ3 H3 X.xe I3 (stat fr3) st3 go) fun r s4 ⟨u, hr, h4⟩ => ?_)
  subst hr
  refine wpAny_passesOwn hp (thn h4 fun _ s5 ⟨x, H5, I5, r5, y5, st5, fr5⟩ => ?_)
  have I5' := I5.pinned (stat fr5) (T.obj _ _ st5)
  refine wpAny_passesOwn hp (thn (hg _ s5 σ3 H5 x u _ I5' r5 (step x H5 y5)) fun _ s6 ⟨σ6, H6, I6, q6⟩ => ?_)
  refine wpAny_passesOwn hp (thn (hb _ s6 σ6 H6 _ I6 q6) fun f s7 q7 => ?_)
  have again : ∀ {σ7 : St} {H7 : Hp}, Inv X (pins ++ pinsAt fp s5.heap) σ7 H7 s7 → N σ7 H7 → ∃ m, m < n ∧ ∃ i σ' H', Inv X pins σ' H' s7 ∧ tn i s7.heap ∧ (∀ b ∈ fp, H' b = none) ∧ W i m σ' H' := fun {σ7 H7} I7 n7 => by
   obtain ⟨m', hm, w7⟩ := hN σ7 H7 n7
   refine ⟨m', hm, i + 1, σ7, H7, I7.unpinned, T.keep _ _ _ st5 fun b hb o e => (I7.pin (b, o) (List.mem_append_right _ (List.mem_append_right _ (mem_pinsAt hb e)))).1, fun b hb => ?_, w7⟩
   obtain ⟨o, e, d⟩ := T.obj _ _ st5 b hb
   exact (I7.pin (b, o) (List.mem_append_right _ (List.mem_append_right _ (mem_pinsAt hb e)))).2.1
  cases f with
  | next => obtain ⟨σ7, H7, I7, n7⟩ := q7; exact again I7 n7
  | cont => obtain ⟨σ7, H7, I7, n7⟩ := q7; exact again I7 n7
  | brk => obtain ⟨σ7, H7, I7, q7⟩ := q7; exact ⟨σ7, H7, I7.unpinned, q7⟩
  | ret v => obtain ⟨x7, σ7, H7, I7, r7, q7⟩ := q7; exact ⟨x7, σ7, H7, I7.unpinned, r7, q7⟩
end
theorem for_list {K : PySem.W.Frag} {a : Addr} {xs : List V} {g : TG} {tb : TS} {D : Ends} {σ : St} {H : Hp} (Pv : Nat → St → Hp → Prop) (h0 : Pv 0 σ H) (hl : ∀ i σ H, i ≤ xs.length → Pv i σ H → SqL K H a xs)
  (hs : ∀ i x σ H, xs[i]? = some x → Pv i σ H → g x σ H fun σ2 H2 => tb { D with nx := Pv (i + 1), ct := Pv (i + 1), bk := D.nx } σ2 H2) (hd : ∀ σ H, Pv xs.length σ H → D.nx σ H) :
  ∃ W : Nat → Nat → St → Hp → Prop, (∃ m, W 0 m σ H) ∧ ∀ i m σ H, W i m σ H →
   ((Itl K a).stop i H ∧ D.nx σ H) ∨ ((Itl K a).go i H ∧ ∃ N : St → Hp → Prop, (∀ σ' H', N σ' H' → ∃ m', m' < m ∧ W (i + 1) m' σ' H') ∧ ∀ x H', (Itl K a).yld i H x H' → g x σ H' fun σ2 H2 => tb { D with nx := N, ct := N, bk := D.nx } σ2 H2) := by
 refine ⟨fun i m σ H => m = xs.length - i ∧ i ≤ xs.length ∧ Pv i σ H, ⟨xs.length, by simp, Nat.zero_le _, h0⟩, ?_⟩
 rintro i m σ H ⟨rfl, hi, p⟩
 have q := hl i σ H hi p
 by_cases hlt : i < xs.length
 ·refine .inr ⟨⟨xs, xs[i], q, by simp [hlt]⟩, Pv (i + 1), fun σ' H' p' => ⟨xs.length - (i + 1), by omega, rfl, hlt, p'⟩, fun x H' y => ?_⟩
  obtain ⟨e, y⟩ := y
  subst e
  exact hs i x σ _ (y xs q) p
 ·have e : i = xs.length := by omega
  subst e
  exact .inl ⟨⟨xs, q, Nat.le_refl _⟩, hd σ H p⟩
theorem for_range {lo : Int} {n : Nat} {g : TG} {tb : TS} {D : Ends} {σ : St} {H : Hp} (Pv : Nat → St → Hp → Prop) (h0 : Pv 0 σ H)
  (hs : ∀ i σ H, i < n → Pv i σ H → g (.int (lo + i)) σ H fun σ2 H2 => tb { D with nx := Pv (i + 1), ct := Pv (i + 1), bk := D.nx } σ2 H2) (hd : ∀ σ H, Pv n σ H → D.nx σ H) :
  ∃ W : Nat → Nat → St → Hp → Prop, (∃ m, W 0 m σ H) ∧ ∀ i m σ H, W i m σ H →
   ((Itr lo n).stop i H ∧ D.nx σ H) ∨ ((Itr lo n).go i H ∧ ∃ N : St → Hp → Prop, (∀ σ' H', N σ' H' → ∃ m', m' < m ∧ W (i + 1) m' σ' H') ∧ ∀ x H', (Itr lo n).yld i H x H' → g x σ H' fun σ2 H2 => tb { D with nx := N, ct := N, bk := D.nx } σ2 H2) := by
 refine ⟨fun i m σ H => m = n - i ∧ i ≤ n ∧ Pv i σ H, ⟨n, by simp, Nat.zero_le _, h0⟩, ?_⟩
 rintro i m σ H ⟨rfl, hi, p⟩
 by_cases hlt : i < n
 ·refine .inr ⟨hlt, Pv (i + 1), fun σ' H' p' => ⟨n - (i + 1), by omega, rfl, hlt, p'⟩, fun x H' y => ?_⟩
  obtain ⟨e, y⟩ := y
  subst e y
  exact hs i σ _ hlt p
 ·have e : i = n := by omega
  subst e
  exact .inl ⟨Nat.le_refl _, hd σ H p⟩
end L2
namespace L2
open PySem PySem.Spec PyProof.Rows
abbrev R2 := V → V → Hp → VK → Prop
def OpR (X : Cx) (f : Value → Value → Sem Value) (r : R2) : Prop :=
 ∀ (pins : List (Addr × Obj)) (s : Shared) (σ : St) (H : Hp) (x y : V) (v u : Value) (Q : VK), Inv X pins σ H s → RelV x v → RelV y u → r x y H Q →
  wpAny (model X.prog X.w) X.A (f v u) (EP X pins σ Q) X.xe s
def UnR (X : Cx) (f : Value → Sem Value) (r : V → Hp → VK → Prop) : Prop :=
 ∀ (pins : List (Addr × Obj)) (s : Shared) (σ : St) (H : Hp) (x : V) (v : Value) (Q : VK), Inv X pins σ H s → RelV x v → r x H Q →
  wpAny (model X.prog X.w) X.A (f v) (EP X pins σ Q) X.xe s
def CallR (X : Cx) (f : Value) (r : List V → Hp → VK → Prop) : Prop :=
 ∀ (pins : List (Addr × Obj)) (s : Shared) (σ : St) (H : Hp) (xs : List V) (us : List Value) (Q : VK), Inv X pins σ H s → Vals xs us → r xs H Q →
  wpAny (model X.prog X.w) X.A (call f us) (EP X pins σ Q) X.xe s
def TruR (X : Cx) (r : V → Hp → (Bool → Hp → Prop) → Prop) : Prop :=
 ∀ (pins : List (Addr × Obj)) (s : Shared) (σ : St) (H : Hp) (x : V) (v : Value) (Q : Bool → Hp → Prop), Inv X pins σ H s → RelV x v → r x H Q →
  wpAny (model X.prog X.w) X.A (truthy v) (TP X pins σ Q) X.xe s
def tOp (r : R2) (ta tb : TE) : TE := fun σ H Q => ta σ H fun x H1 => tb σ H1 fun y H2 => r x y H2 Q
def tUn (r : V → Hp → VK → Prop) (ta : TE) : TE := fun σ H Q => ta σ H fun x H1 => r x H1 Q
def rI (C : Int → Int → Prop) (g : Int → Int → V) : R2 := fun x y H Q => ∃ i j, x = .int i ∧ y = .int j ∧ C i j ∧ Q (g i j) H
def rI0 (g : Int → Int → V) : R2 := fun x y H Q => ∃ i j, x = .int i ∧ y = .int j ∧ Q (g i j) H
def rU (g : Int → V) : V → Hp → VK → Prop := fun x H Q => ∃ i, x = .int i ∧ Q (g i) H
section
variable {X : Cx} {a b c : Expr} {ta tb tc : TE} {pos : Pos}
theorem binT (ha : PE X a ta) (hb : PE X b tb) {pins : List (Addr × Obj)} {s : Shared} {σ : St} {H : Hp} {R : V → V → Hp → Prop} (I : Inv X pins σ H s)
  (h : ta σ H fun x H1 => tb σ H1 fun y H2 => R x y H2) {Q : Value → Shared → Prop} {f : Value → Value → Sem Value}
  (hf : ∀ v u s2 x y H2, Inv X pins σ H2 s2 → RelV x v → RelV y u → R x y H2 → wpAny (model X.prog X.w) X.A (f v u) Q X.xe s2) :
  wpAny (model X.prog X.w) X.A (eval a X.env) (fun v s₁ => wpAny (model X.prog X.w) X.A (eval b X.env) (fun u s₂ => wpAny (model X.prog X.w) X.A (f v u) Q X.xe s₂) X.xe s₁) X.xe s := by
 refine thn (ha pins s σ H _ I h) fun v s1 ⟨x, H1, I1, r1, q1⟩ => ?_
 refine thn (hb pins s1 σ H1 _ I1 q1) fun u s2 ⟨y, H2, I2, r2, q2⟩ => ?_
 exact hf v u s2 x y H2 I2 r1 r2 q2
theorem pe_op {op : Operator} {r : R2} (ho : OpR X (binaryOp op) r) (ha : PE X a ta) (hb : PE X b tb) : PE X (.BinOp a op b pos) (tOp r ta tb) := by
 intro pins s σ H Q I h
 exact wpAny_BinOp (binT ha hb I h fun v u s2 x y H2 I2 rx ry q => ho pins s2 σ H2 x y v u Q I2 rx ry q)
theorem pe_un {op : UnaryOp} {r : V → Hp → VK → Prop} (ho : UnR X (unaryOp op) r) (ha : PE X a ta) : PE X (.UnaryOp op a pos) (tUn r ta) := by
 intro pins s σ H Q I h
 exact UnaryOp_ (thn (ha pins s σ H _ I h) fun v s1 ⟨x, H1, I1, r1, q1⟩ => ho pins s1 σ H1 x v Q I1 r1 q1)
theorem opI {f : Value → Value → Sem Value} {C : Int → Int → Prop} {g : Int → Int → Int}
  (rule : ∀ (i j : Int) (t u : Tok) (s : Shared) (Q : Value → Shared → Prop) (E : Value → Shared → Prop), C i j → Q (.int (g i j) s.toks) { s with toks := s.toks + 1 } → wpAny (model X.prog X.w) X.A (f (.int i t) (.int j u)) Q E s) :
  OpR X f (rI C fun i j => .int (g i j)) := by
 intro pins s σ H x y v u Q I rx ry h
 obtain ⟨i, j, rfl, rfl, hc, q⟩ := h
 obtain ⟨t, rfl⟩ := rx
 obtain ⟨t', rfl⟩ := ry
 exact rule i j t t' s _ _ hc ⟨.int (g i j), H, I.tok _, ⟨_, rfl⟩, q⟩
theorem opI0 {f : Value → Value → Sem Value} {g : Int → Int → Int}
  (rule : ∀ (i j : Int) (t u : Tok) (s : Shared) (Q : Value → Shared → Prop) (E : Value → Shared → Prop), Q (.int (g i j) s.toks) { s with toks := s.toks + 1 } → wpAny (model X.prog X.w) X.A (f (.int i t) (.int j u)) Q E s) :
  OpR X f (rI0 fun i j => .int (g i j)) := by
 intro pins s σ H x y v u Q I rx ry h
 obtain ⟨i, j, rfl, rfl, q⟩ := h
 obtain ⟨t, rfl⟩ := rx
 obtain ⟨t', rfl⟩ := ry
 exact rule i j t t' s _ _ ⟨.int (g i j), H, I.tok _, ⟨_, rfl⟩, q⟩
theorem opB0 {f : Value → Value → Sem Value} {g : Int → Int → Bool}
  (rule : ∀ (i j : Int) (t u : Tok) (s : Shared) (Q : Value → Shared → Prop) (E : Value → Shared → Prop), Q (.bool (g i j)) s → wpAny (model X.prog X.w) X.A (f (.int i t) (.int j u)) Q E s) :
  OpR X f (rI0 fun i j => .bl (g i j)) := by
 intro pins s σ H x y v u Q I rx ry h
 obtain ⟨i, j, rfl, rfl, q⟩ := h
 obtain ⟨t, rfl⟩ := rx
 obtain ⟨t', rfl⟩ := ry
 exact rule i j t t' s _ _ ⟨.bl (g i j), H, I, rfl, q⟩
def CDiv (i j : Int) : Prop := 0 < j ∧ j < 1073741824
def CMul (i j : Int) : Prop := (-(2 ^ 64) < i ∧ i < 2 ^ 64) ∨ (-(2 ^ 64) < j ∧ j < 2 ^ 64)
theorem CMul.ok {i j : Int} (h : CMul i j) : IntMulOk i j := by
 rcases h with ⟨h1, h2⟩ | ⟨h1, h2⟩
 ·exact .of_left (intBits_le_64 h1 h2)
 ·exact .of_right (intBits_le_64 h1 h2)
theorem op_add : OpR X (binaryOp .Add) (rI0 fun i j => .int (i + j)) := opI0 fun _ _ _ _ _ _ _ q => add_int q
theorem op_sub : OpR X (binaryOp .Sub) (rI0 fun i j => .int (i - j)) := opI0 fun _ _ _ _ _ _ _ q => sub_int q
theorem op_mul : OpR X (binaryOp .Mult) (rI CMul fun i j => .int (i * j)) := opI fun _ _ _ _ _ _ _ hc q => mul_int q hc.ok
theorem op_fdiv : OpR X (binaryOp .FloorDiv) (rI CDiv fun i j => .int (i / j)) := opI fun i j _ _ _ _ _ hc q => by
 have h1 : (0 : Int) < j := hc.1
 have h2 : j < 1073741824 := hc.2
 exact floordiv_int (by omega) (by rw [Int.fdiv_eq_ediv_of_nonneg i (by omega)]; exact q) (.inl (PyProof.noPylong_small (by omega)))
theorem unI {f : Value → Sem Value} {g : Int → Int}
  (rule : ∀ (i : Int) (t : Tok) (s : Shared) (Q : Value → Shared → Prop) (E : Value → Shared → Prop), Q (.int (g i) s.toks) { s with toks := s.toks + 1 } → wpAny (model X.prog X.w) X.A (f (.int i t)) Q E s) :
  UnR X f (rU fun i => .int (g i)) := by
 intro pins s σ H x v Q I rx h
 obtain ⟨i, rfl, q⟩ := h
 obtain ⟨t, rfl⟩ := rx
 exact rule i t s _ _ ⟨.int (g i), H, I.tok _, ⟨_, rfl⟩, q⟩
theorem un_neg : UnR X (unaryOp .USub) (rU fun i => .int (-i)) := unI fun _ _ _ _ _ q => neg_int q
end
def scal : V → V → Bool
 | .non, .non => true | .non, .int _ => true | .int _, .non => true | .non, .bl _ => true | .bl _, .non => true | .non, .str _ => true | .str _, .non => true
 | .int _, .int _ => true | .bl _, .bl _ => true | .str _, .str _ => true | .byt _, .byt _ => true
 | .int _, .str _ => true | .str _, .int _ => true | .bl _, .str _ => true | .str _, .bl _ => true
 | _, _ => false
def rEq : R2 := fun x y H Q => scal x y = true ∧ Q (.bl (decide (x = y))) H
theorem dec_int {i j : Int} : decide (V.int i = V.int j) = (i == j) := by
 rw [Bool.eq_iff_iff]
 simp
theorem dec_bl {i j : Bool} : decide (V.bl i = V.bl j) = (i == j) := by
 rw [Bool.eq_iff_iff]
 simp
theorem dec_str {i j : Str} : decide (V.str i = V.str j) = (i == j) := by
 rw [Bool.eq_iff_iff]
 simp
theorem dec_byt {i j : Array UInt8} : decide (V.byt i = V.byt j) = (i.toList == j.toList) := by
 rw [Bool.eq_iff_iff]
 cases i
 cases j
 simp
section
variable {X : Cx} {a b c : Expr} {ta tb tc : TE} {pos : Pos}
theorem fin_bl {pins : List (Addr × Obj)} {σ : St} {H : Hp} {s : Shared} {Q : VK} {k k' : Bool} (I : Inv X pins σ H s) (q : Q (.bl k) H) (e : k = k') : EP X pins σ Q (.bool k') s := by
 subst e
 exact ⟨.bl k, H, I, rfl, q⟩
theorem op_eq : OpR X (compareOp .Eq) rEq := by
 intro pins s σ H x y v u Q I rx ry h
 obtain ⟨hs, q⟩ := h
 cases x with
 | non =>
  cases rx
  cases y with
  | non => cases ry; exact PySem.EqNone.eq_none_none (fin_bl I q (by simp))
  | bl j => cases ry; exact PySem.EqNone.eq_none_bool (fin_bl I q (by simp))
  | int j => obtain ⟨t', rfl⟩ := ry; exact PySem.EqNone.eq_none_int (fin_bl I q (by simp))
  | str j => obtain ⟨t', rfl⟩ := ry; exact PySem.EqNone.eq_none_str (fin_bl I q (by simp))
  | _ => exact absurd (show false = true from hs) Bool.false_ne_true
 | bl i =>
  cases rx
  cases y with
  | non => cases ry; exact PySem.EqNone.eq_bool_none (fin_bl I q (by simp))
  | bl j => cases ry; exact eq_bool (fin_bl I q dec_bl)
  | str j => obtain ⟨t', rfl⟩ := ry; exact PySem.EqMixed.eq_bool_str (fin_bl I q (by simp))
  | _ => exact absurd (show false = true from hs) Bool.false_ne_true
 | int i =>
  obtain ⟨t, rfl⟩ := rx
  cases y with
  | non => cases ry; exact PySem.EqNone.eq_int_none (fin_bl I q (by simp))
  | int j => obtain ⟨t', rfl⟩ := ry; exact eq_int (fin_bl I q dec_int)
  | str j => obtain ⟨t', rfl⟩ := ry; exact PySem.EqMixed.eq_int_str (fin_bl I q (by simp))
  | _ => exact absurd (show false = true from hs) Bool.false_ne_true
 | str i =>
  obtain ⟨t, rfl⟩ := rx
  cases y with
  | non => cases ry; exact PySem.EqNone.eq_str_none (fin_bl I q (by simp))
  | bl j => cases ry; exact PySem.EqMixed.eq_str_bool (fin_bl I q (by simp))
  | int j => obtain ⟨t', rfl⟩ := ry; exact PySem.EqMixed.eq_str_int (fin_bl I q (by simp))
  | str j => obtain ⟨t', rfl⟩ := ry; exact eq_str (fin_bl I q dec_str)
  | _ => exact absurd (show false = true from hs) Bool.false_ne_true
 | byt i =>
  obtain ⟨t, rfl⟩ := rx
  cases y with
  | byt j => obtain ⟨t', rfl⟩ := ry; exact PySem.W.eq_bytes (fin_bl I q dec_byt)
  | _ => exact absurd (show false = true from hs) Bool.false_ne_true
 | _ => cases y <;> exact absurd (show false = true from hs) Bool.false_ne_true
theorem op_lt : OpR X (compareOp .Lt) (rI0 fun i j => .bl (decide (i < j))) := opB0 fun _ _ _ _ _ _ _ q => lt_int q
theorem op_le : OpR X (compareOp .LtE) (rI0 fun i j => .bl (decide (i ≤ j))) := opB0 fun _ _ _ _ _ _ _ q => le_int q
theorem op_gt : OpR X (compareOp .Gt) (rI0 fun i j => .bl (decide (j < i))) := opB0 fun _ _ _ _ _ _ _ q => gt_int q
theorem op_ge : OpR X (compareOp .GtE) (rI0 fun i j => .bl (decide (j ≤ i))) := opB0 fun _ _ _ _ _ _ _ q => ge_int q
theorem nomark (b : Expr) {op : CmpOp} (h : op ≠ .In := by decide) (h2 : op ≠ .NotIn := by decide) : behindInMarks op b = false := by
 have e1 : (op == CmpOp.In) = false := by cases op <;> first | rfl | exact absurd rfl h
 have e2 : (op == CmpOp.NotIn) = false := by cases op <;> first | rfl | exact absurd rfl h2
 cases b <;> simp [behindInMarks, e1, e2]
theorem pe_cmpR {op : CmpOp} {r : R2} (ho : OpR X (compareOp op) r) (ha : PE X a ta) (hb : PE X b tb) (hm : behindInMarks op b = false) : PE X (.Compare a [op] [b] pos) (tOp r ta tb) := by
 intro pins s σ H Q I h
 exact wpAny_Compare1 (binT ha hb I h fun v u s2 x y H2 I2 rx ry q => ho pins s2 σ H2 x y v u Q I2 rx ry q) hm
def tTest (t : TE) : TT := fun σ H Q => t σ H fun x H' => ∃ k, x = .bl k ∧ Q k H'
theorem pt_cmpR {op : CmpOp} {r : R2} (ho : OpR X (compareOp op) r) (ha : PE X a ta) (hb : PE X b tb) (hm : behindInMarks op b = false) : PT X (.Compare a [op] [b] pos) (tTest (tOp r ta tb)) := by
 intro pins s σ H Q I h
 refine wpAny_isTrue_Compare1 (thn (ha pins s σ H _ I h) fun v s1 ⟨x, H1, I1, r1, q1⟩ => thn (hb pins s1 σ H1 _ I1 q1) fun u s2 ⟨y, H2, I2, r2, q2⟩ =>
  thn (ho pins s2 σ H2 x y v u _ I2 r1 r2 q2) fun c s3 ⟨z, H3, I3, r3, k, e, q3⟩ => ?_) hm
 subst e
 cases r3
 exact wpAny_truthy_bool ⟨H3, I3, q3⟩
def tChain (r r' : R2) (ta tb tc : TE) : TE := fun σ H Q => ta σ H fun x H1 => tb σ H1 fun y H2 => r x y H2 fun z H3 => ∃ k, z = .bl k ∧
 (if k = true then tc σ H3 fun w' H4 => r' y w' H4 Q else Q (.bl false) H3)
theorem pe_chain {op op' : CmpOp} {r r' : R2} (ho : OpR X (compareOp op) r) (ho' : OpR X (compareOp op') r') (ha : PE X a ta) (hb : PE X b tb) (hc : PE X c tc)
  (hm : lastMarks [op, op'] [b, c] = false := by with_unfolding_all rfl) : PE X (.Compare a [op, op'] [b, c] pos) (tChain r r' ta tb tc) := by
 intro pins s σ H Q I h
 refine Compare_chain (thn (ha pins s σ H _ I h) fun v s1 ⟨x, H1, I1, r1, q1⟩ => chain_link (thn (hb pins s1 σ H1 _ I1 q1) fun u s2 ⟨y, H2, I2, r2, q2⟩ =>
  thn (ho pins s2 σ H2 x y v u _ I2 r1 r2 q2) fun d s3 ⟨z, H3, I3, r3, k, e, q3⟩ => ?_)) hm
 subst e
 cases r3
 refine wpAny_truthy_bool ?_
 cases k with
 | false => exact ite_ff ⟨.bl false, H3, I3, rfl, q3⟩
 | true => exact ite_tt (chain_last (thn (hc pins s3 σ H3 _ I3 q3) fun w' s4 ⟨z', H4, I4, r4, q4⟩ => ho' pins s4 σ H4 y z' u w' Q I4 r2 r4 q4))
def TruV (K : PySem.W.Frag) (x : V) (H : Hp) (k : Bool) : Prop :=
 match x with
 | .non => k = false
 | .bl b => k = b
 | .int i => k = (i != 0)
 | .str y => y.length ≤ sizeLine ∧ k = ((y.length : Int) != 0)
 | .byt y => y.size ≤ sizeLine ∧ k = ((y.size : Int) != 0)
 | .ref p => (∃ xs, SqL K H p xs ∧ k = !xs.isEmpty) ∨ (∃ xs, SqT K H p xs ∧ k = !xs.isEmpty) ∨ ∃ kvs, H p = some (.dK kvs) ∧ k = !kvs.isEmpty
 | _ => False
theorem isEmpty_kv {κ : Type} {kvs : List (κ × V)} {vs : List (κ × Value)} (r : KV kvs vs) : (!vs.isEmpty) = !kvs.isEmpty := by
 cases r <;> rfl
theorem isEmpty_of {xs : List V} {its : List Value} (r : Vals xs its) : (!its.toArray.isEmpty) = !xs.isEmpty := by
 cases r <;> simp
theorem line63 : (sizeLine : Nat) < 2 ^ 63 := by rw [sizeLine_eq]; decide
theorem tru_ok : TruR X (fun x H Q => ∃ k, TruV X.K x H k ∧ Q k H) := by
 intro pins s σ H x v Q I rx h
 obtain ⟨k, e, q⟩ := h
 have hl := line63
 have hs : sizeLine = 16777216 := sizeLine_eq
 cases x with
 | non =>
  cases rx
  have e' : k = false := e
  subst e'
  exact truthy_none ⟨H, I, q⟩
 | bl b =>
  cases rx
  have e' : k = b := e
  subst e'
  exact wpAny_truthy_bool ⟨H, I, q⟩
 | int i =>
  obtain ⟨t, rfl⟩ := rx
  have e' : k = (i != 0) := e
  subst e'
  exact PySem.P.truthy_int ⟨H, I, q⟩
 | str y =>
  obtain ⟨t, rfl⟩ := rx
  obtain ⟨hy, e'⟩ : y.length ≤ sizeLine ∧ k = ((y.length : Int) != 0) := e
  subst e'
  exact PySem.P.truthy_str (by omega) ⟨H, I.tok _, q⟩
 | byt y =>
  obtain ⟨t, rfl⟩ := rx
  obtain ⟨hy, e'⟩ : y.size ≤ sizeLine ∧ k = ((y.size : Int) != 0) := e
  subst e'
  exact PySem.W.truthy_bytes (by omega) ⟨H, I.tok _, q⟩
 | ref p =>
  cases rx
  have e' : (∃ xs, SqL X.K H p xs ∧ k = !xs.isEmpty) ∨ (∃ xs, SqT X.K H p xs ∧ k = !xs.isEmpty) ∨ ∃ kvs, H p = some (.dK kvs) ∧ k = !kvs.isEmpty := e
  rcases e' with ⟨xs, hx, e'⟩ | ⟨xs, hx, e'⟩ | ⟨kvs, hx, e'⟩
  ·subst e'
   obtain ⟨its, r, pl, hz⟩ := I.list hx
   have hlen := r.length
   exact wpAny_truthy_list pl.isList (by simp only [List.size_toArray]; omega) ⟨H, I.tok _, by rw [isEmpty_of r]; exact q⟩
  ·subst e'
   obtain ⟨its, r, pl, hz⟩ := I.tuple hx
   have hlen := r.length
   exact truthy_tuple pl (by simp only [List.size_toArray]; omega) ⟨H, I.tok _, by rw [isEmpty_of r]; exact q⟩
  ·subst e'
   obtain ⟨hz, hS, vs, r, m⟩ : kvs.length ≤ sizeLine ∧ (p == sysModules) = false ∧ ∃ vs, KV kvs vs ∧ s.heap.DictOf (mixKind X.prog X.w) p vs := I.hok p _ hx
   have hlen : kvs.length = vs.length := Paired.length r
   exact wpAny_truthy_dict hS m (by omega) ⟨H, I.tok _, by rw [isEmpty_kv r]; exact q⟩
 | _ => exact (show False from e).elim
theorem pt_truth (ha : PE X a ta) (he : ∀ whole, isTrue a X.env whole = (do let v ← whole; standAt a.pos; holding [v] (truthy v))) :
  PT X a (fun σ H Q => ta σ H fun x H' => ∃ k, TruV X.K x H' k ∧ Q k H') := by
 intro pins s σ H Q I h
 exact isTrue_plain (thn (ha pins s σ H _ I h) fun v s1 ⟨x, H1, I1, r1, q1⟩ => tru_ok pins s1 σ H1 x v Q I1 r1 q1) (he _)
theorem vals1 {x : V} {us : List Value} (r : Vals [x] us) : ∃ u, us = [u] ∧ RelV x u := by
 cases r with
 | cons r1 r2 => cases r2; exact ⟨_, rfl, r1⟩
end
end L2
namespace L2
open PySem PySem.Spec PyProof.Rows
structure ObjM (h : Heap) (x dx C : Addr) (mA : Str → Option Value) : Prop where
 obj : h.get? x = some (PySem.W.instObj C dx)
 ns : h.Ns1 dx mA
 ne : dx ≠ x
theorem lookIn_ns {h : Heap} {dx : Addr} {mA : Str → Option Value} (n : h.Ns1 dx mA) : ∃ od, h.get? dx = some od ∧ ∀ name, PySem.W.lookIn name od = some (mA name) := by
 obtain ⟨o, es, ep, ho, hd, hk, _, hm⟩ := n
 refine ⟨o, ho, fun name => ?_⟩
 have e := hm name
 unfold nsFind findBy at e
 rw [← Array.find?_toList] at e
 unfold PySem.W.lookIn
 rw [hd]
 dsimp only
 split
 ·rename_i y q
  rw [q] at e
  exact congrArg some e
 ·rename_i q
  rw [q] at e
  have a : es.toList.any (·.refKey) = false := by
   rw [List.any_eq_false]
   intro y hy
   obtain ⟨z, t, hkey⟩ := hk y (Array.mem_toList_iff.mp hy)
   simp [DictEntry.refKey, hkey]
  have a' : ¬ es.toList.any (·.refKey) = true := by rw [a]; exact Bool.false_ne_true
  rw [if_neg a']
  exact congrArg some e
theorem ObjM.look {h : Heap} {x dx C : Addr} {mA : Str → Option Value} (I : ObjM h x dx C mA) : ∃ od, PySem.W.InstAt h x (PySem.W.instObj C dx) C (some od) ∧ ∀ name, PySem.W.lookIn name od = some (mA name) :=
 let ⟨od, ho, hl⟩ := lookIn_ns I.ns
 ⟨od, ⟨I.obj, rfl, rfl, ho⟩, hl⟩
section
variable {prog : Program} {w : World} {A : Around} {E : Value → Shared → Prop} {s : Shared} {K : PySem.W.Frag} {x dx C f : Addr} {mA : Str → Option Value} {name : Str} {v : Value}
theorem get_map {expr : Bool} {Q : Value → Shared → Prop} (X : K.In s.heap) (I : ObjM s.heap x dx C mA) (hg : PySem.W.plainGet K C name = true) (hh : PySem.W.hasDictIn K C = true)
  (ha : PySem.W.findIn K (.ref C) name = some none) (hv : mA name = some v) (hv' : PySem.W.handedIn v = true) (h : Q v { s with toks := s.toks + 1 }) :
  wpAny (model prog w) A (getAttr (.ref x) name expr) Q E s := by
 obtain ⟨od, J, hl⟩ := I.look
 exact PySem.W.get_value X J (PySem.W.plainGet_of hg).1 (PySem.W.findObj_own hh ha rfl (by rw [hl, hv])) hv' h
theorem get_meth {pl : Sem Bool} {Q : Value × List Value → Shared → Prop} (X : K.In s.heap) (I : ObjM s.heap x dx C mA) (hg : PySem.W.plainGet K C name = true)
  (hf : PySem.W.findIn K (.ref C) name = some (some (.ref f))) (ht : PySem.W.isFn K (.ref f) = true) (hv : mA name = none) (h : Q (.ref f, [.ref x]) s) :
  wpAny (model prog w) A (getMethod (.ref x) name pl) Q E s := by
 obtain ⟨od, J, hl⟩ := I.look
 exact PySem.W.method_fn X J (PySem.W.plainGet_of hg).1 (PySem.W.plainGet_of hg).2 hf (beq_iff_eq.mp ht) (by show (PySem.W.lookIn name od).map (·.isSome) = some false; rw [hl, hv]; rfl) h
theorem set_map {ns : List Str} {Q : Unit → Shared → Prop} (X : K.In s.heap) (I : ObjM s.heap x dx C mA)
  (hs : PySem.W.findIn K (.ref C) "__setattr__" = some (some (.builtin "object.__setattr__"))) (hp : PySem.W.plainOver K C = true) (ht : PySem.W.takerIn K C name = some none) (hh : PySem.W.hasDictIn K C = true)
  (hw : PySem.Within mA ns) (hsz : ns.length ≤ sizeLine)
  (h : ∀ h', ObjM h' x dx C (fun y => if y = name then some v else mA y) → Heap.SameBut dx s.heap h' → Q () { s with heap := h', toks := s.toks + 2 }) :
  wpAny (model prog w) A (setAttr (.ref x) name v) Q E s := by
 obtain ⟨od, J, hl⟩ := I.look
 refine PySem.W.set_plain X J hs (PySem.W.osa_open (s := { s with toks := s.toks + 1 }) (r := none) X J hp ht fun b => ?_)
 obtain ⟨cd, hc, hd'⟩ := PySem.W.any_some hh
 have hx : s.heap.get? x = some ⟨.ref C, some dx, .plain, #[]⟩ := I.obj
 refine wpAny_bind (wpAny_pure (wpAny_bind (wpAny_bind (wpAny_loadPart hx (wpAny_bind (PySem.W.Looks.here (s := { s with toks := s.toks + 1 }) (PySem.W.looks_clsIn X hc) ?_))))))
 rw [hd']
 refine wpAny_pure (a := some dx) (wpAny_bind (wpAny_pure (wpAny_bind ?_)))
 refine wpAny_nsSet1 (s := { s with toks := s.toks + 1 }) I.ns fun h' hn2 hs2 => ?_
 obtain ⟨oD, esD, epD, hoD, hdD, hcD⟩ := hn2.count (PySem.Within.cons name v hw)
 refine wpAny_bind (wpAny_lookBehind hoD (by rw [hdD]; exact pastItsLine_dict (Nat.le_trans hcD (by rw [List.length_cons]; omega))) ?_)
 exact wpAny_pure (h _ ⟨(hs2.2 _ (Ne.symm I.ne)).trans I.obj, hn2, I.ne⟩ hs2)
theorem make_map {R : Result → Shared → Prop} {vs : List Value} {kw : List (Str × Value)} (X : K.In s.heap) (hm : PySem.W.makesIn K C = true)
  (hi : PySem.W.findIn K (.ref C) "__init__" = some (some (.ref f))) (hf : PySem.W.typeIn K (.ref f) = some (.type "function"))
  (h : codeAny (model prog w) (A.under (.builtin "type.__call__" ⟨.ref C :: vs, kw⟩)) (.call (.ref f) ⟨.ref (s.heap.objs.size + 1) :: vs, kw⟩) (PySem.W.InitBack (s.heap.objs.size + 1) R)
   { s with heap := (s.heap.push PySem.W.emptyDict).push (PySem.W.instObj C s.heap.objs.size) }) :
  codeAny (model prog w) A (.call (.ref C) ⟨vs, kw⟩) R s := by
 obtain ⟨hh, g, d, t, os⟩ := s
 exact PySem.W.make_core (PySem.W.makes_of X hm) (PySem.W.looks_findIn X hi) (fun self => PySem.W.bind_fn X self hf) (.inl rfl) h
end
def putF (f : Str) (v : V) : List (Str × V) → List (Str × V)
 | [] => [(f, v)]
 | (g, x) :: r => if g = f then (g, v) :: r else (g, x) :: putF f v r
theorem lookup_putF (f g : Str) (v : V) : ∀ fs : List (Str × V), (putF f v fs).lookup g = if g = f then some v else fs.lookup g
 | [] => by
  show List.lookup g [(f, v)] = _
  by_cases h : g = f
  ·have hb : (g == f) = true := beq_iff_eq.mpr h
   simp only [List.lookup, hb, if_pos h]
  ·have hb : (g == f) = false := beq_eq_false_iff_ne.mpr h
   simp only [List.lookup, hb, if_neg h]
 | (k, x) :: r => by
  have ih := lookup_putF f g v r
  rw [show putF f v ((k, x) :: r) = (if k = f then (k, v) :: r else (k, x) :: putF f v r) from rfl]
  by_cases hk : k = f
  ·rw [if_pos hk]
   by_cases h : g = k
   ·have hb : (g == k) = true := beq_iff_eq.mpr h
    simp only [List.lookup, hb, if_pos (h.trans hk)]
   ·have hb : (g == k) = false := beq_eq_false_iff_ne.mpr h
    simp only [List.lookup, hb, if_neg (fun e : g = f => h (e.trans hk.symm))]
  ·rw [if_neg hk]
   by_cases h : g = k
   ·have hb : (g == k) = true := beq_iff_eq.mpr h
    simp only [List.lookup, hb, if_neg (fun e : g = f => hk (h.symm.trans e))]
   ·have hb : (g == k) = false := beq_eq_false_iff_ne.mpr h
    simp only [List.lookup, hb]
    exact ih
theorem keys_putF (f : Str) (v : V) : ∀ fs : List (Str × V), f ∈ (putF f v fs).map (·.1) ∧ ∀ g, g ∈ fs.map (·.1) → g ∈ (putF f v fs).map (·.1)
 | [] => ⟨by simp [putF], fun g h => by simp at h⟩
 | (k, x) :: r => by
  obtain ⟨i1, i2⟩ := keys_putF f v r
  rw [show putF f v ((k, x) :: r) = (if k = f then (k, v) :: r else (k, x) :: putF f v r) from rfl]
  by_cases hk : k = f
  ·rw [if_pos hk]
   subst hk
   exact ⟨by simp, fun g h => by simpa using h⟩
  ·rw [if_neg hk]
   refine ⟨?_, fun g h => ?_⟩
   ·rw [List.map_cons]
    exact List.mem_cons_of_mem _ i1
   ·rw [List.map_cons] at h ⊢
    rcases List.mem_cons.mp h with e | e
    ·exact List.mem_cons.mpr (.inl e)
    ·exact List.mem_cons_of_mem _ (i2 g e)
theorem length_putF (f : Str) (v : V) : ∀ fs : List (Str × V), (putF f v fs).length ≤ fs.length + 1
 | [] => by simp [putF]
 | (k, x) :: r => by
  have ih := length_putF f v r
  rw [show putF f v ((k, x) :: r) = (if k = f then (k, v) :: r else (k, x) :: putF f v r) from rfl]
  by_cases hk : k = f
  ·rw [if_pos hk, List.length_cons, List.length_cons]; omega
  ·rw [if_neg hk, List.length_cons, List.length_cons]; omega
theorem RelO.some_of {v : V} {o : Option Value} (r : RelO (some v) o) : ∃ u, o = some u ∧ RelV v u := by
 cases o with
 | none => exact (show False from r).elim
 | some u => exact ⟨u, rfl, r⟩
theorem RelO.none_of {o : Option Value} (r : RelO none o) : o = none := by
 cases o with
 | none => rfl
 | some u => exact (show False from r).elim
theorem handed_of {v : V} {u : Value} (r : RelV v u) : PySem.W.handedIn u = true := by
 cases v with
 | non => cases (show u = Value.none from r); rfl
 | bl b => cases (show u = Value.bool b from r); rfl
 | int i => obtain ⟨t, e⟩ := (show ∃ t, u = Value.int i t from r); cases e; rfl
 | str x => obtain ⟨t, e⟩ := (show ∃ t, u = Value.str x t from r); cases e; rfl
 | byt b => obtain ⟨t, e⟩ := (show ∃ t, u = Value.bytes b t from r); cases e; rfl
 | flt b => obtain ⟨t, e⟩ := (show ∃ t, u = Value.float b t from r); cases e; rfl
 | ref a => cases (show u = Value.ref a from r); rfl
 | ty n => cases (show u = Value.type n from r); rfl
section
variable {P : Program} {w : World} {H H' : Hp} {h h' : Heap} {a C dx : Addr} {fs fs' : List (Str × V)}
theorem ins_get (hok : HOk P w H h) (e : H a = some (.ins C dx fs)) : ∃ mA, ObjM h a dx C mA ∧ (∀ f, RelO (fs.lookup f) (mA f)) ∧ PySem.Within mA (fs.map (·.1)) ∧ fs.length ≤ 1000 ∧ H dx = some (.own a) := by
 obtain ⟨d, z, ne, ob, mA, n, r, q⟩ := (show ObjOk P w H h a (.ins C dx fs) from hok a _ e)
 exact ⟨mA, ⟨ob, n, ne⟩, r, q, z, d⟩
end
structure Cls (K : PySem.W.Frag) (C : Addr) : Prop where
 pg : PySem.W.plainGet K C Str.empty = true
 hd : PySem.W.hasDictIn K C = true
 po : PySem.W.plainOver K C = true
 sa : PySem.W.findIn K (.ref C) "__setattr__" = some (some (.builtin "object.__setattr__"))
theorem Cls.get {K : PySem.W.Frag} {C : Addr} (c : Cls K C) (f : Str) : PySem.W.plainGet K C f = true := c.pg
def NoAttr (K : PySem.W.Frag) (C : Addr) (f : Str) : Prop := PySem.W.findIn K (.ref C) f = some none
theorem NoAttr.taker {K : PySem.W.Frag} {C : Addr} {f : Str} (n : NoAttr K C f) : PySem.W.takerIn K C f = some none := by
 unfold PySem.W.takerIn
 rw [show PySem.W.findIn K (.ref C) f = some none from n]
 rfl
structure Meth (K : PySem.W.Frag) (C : Addr) (m : Str) (f : Addr) : Prop where
 at_ : PySem.W.findIn K (.ref C) m = some (some (.ref f))
 fn : PySem.W.isFn K (.ref f) = true
 kp : PySem.W.keepIn K (.ref f) = true
section
variable {X : Cx} {pins : List (Addr × Obj)} {σ : St} {H : Hp} {s : Shared} {a C dx : Addr} {fs : List (Str × V)} {f : Str} {v : V} {A : Around} {E : Value → Shared → Prop}
theorem getattr_ok {b : Bool} {Q : Value → Shared → Prop} (I : Inv X pins σ H s) (e : H a = some (.ins C dx fs)) (c : Cls X.K C) (n : NoAttr X.K C f) (l : fs.lookup f = some v)
  (h : ∀ u s', Inv X pins σ H s' → RelV v u → Q u s') : wpAny (model X.prog X.w) A (getAttr (.ref a) f b) Q E s := by
 obtain ⟨mA, O, r, _, _, _⟩ := ins_get I.hok e
 obtain ⟨u, hu, ru⟩ := RelO.some_of (v := v) (o := mA f) (by rw [← l]; exact r f)
 exact get_map I.kIn O (c.get f) c.hd n hu (handed_of ru) (h u _ (I.tok _) ru)
theorem getmeth_ok {m : Str} {g : Addr} {pl : Sem Bool} {Q : Value × List Value → Shared → Prop} (I : Inv X pins σ H s) (e : H a = some (.ins C dx fs)) (c : Cls X.K C) (k : Meth X.K C m g) (l : fs.lookup m = none)
  (h : Q (.ref g, [.ref a]) s) : wpAny (model X.prog X.w) A (getMethod (.ref a) m pl) Q E s := by
 obtain ⟨mA, O, r, _, _, _⟩ := ins_get I.hok e
 have hn : mA m = none := RelO.none_of (by rw [← l]; exact r m)
 exact get_meth I.kIn O (c.get m) k.at_ k.fn hn h
theorem setattr_ok {y : V} {u : Value} {Q : Unit → Shared → Prop} (I : Inv X pins σ H s) (e : H a = some (.ins C dx fs)) (c : Cls X.K C) (n : NoAttr X.K C f) (hl : fs.length < 1000) (ry : RelV y u)
  (h : ∀ s', Inv X pins σ (upd H a (.ins C dx (putF f y fs))) s' → Q () s') : wpAny (model X.prog X.w) A (setAttr (.ref a) f u) Q E s := by
 obtain ⟨mA, O, r, wi, _, ho⟩ := ins_get I.hok e
 have hz : (fs.map (·.1)).length ≤ sizeLine := by rw [List.length_map, sizeLine_eq]; omega
 refine set_map I.kIn O c.sa c.po n.taker c.hd wi hz fun h' O' sb => h _ ?_
 have hd : ∃ o, h'.get? dx = some o := let ⟨o, _, _, e', _⟩ := O'.ns; ⟨o, e'⟩
 refine I.write (x := a) (e := dx) (by rw [e]; exact True.intro) (.inr ho) (fun b q hb z => (sb.2 b hb).trans z) hd ?_
 refine ⟨by rw [upd_ne O.ne]; exact ho, ?_, O.ne, O'.obj, _, O'.ns, fun g => ?_, fun g hg => ?_⟩
 ·have := length_putF f y fs; omega
 ·show RelO ((putF f y fs).lookup g) (if g = f then some u else mA g)
  rw [lookup_putF]
  by_cases q : g = f
  ·rw [if_pos q, if_pos q]; exact ry
  ·rw [if_neg q, if_neg q]; exact r g
 ·by_cases q : g = f
  ·rw [q]; exact (keys_putF f y fs).1
  ·refine (keys_putF f y fs).2 g (wi g fun z => hg ?_)
   show (if g = f then some u else mA g) = none
   rw [if_neg q]; exact z
theorem Inv.made (I : Inv X pins σ H s) : Inv X pins σ (upd (upd H s.heap.objs.size (.own (s.heap.objs.size + 1))) (s.heap.objs.size + 1) (.ins C s.heap.objs.size []))
  { s with heap := (s.heap.push PySem.W.emptyDict).push (PySem.W.instObj C s.heap.objs.size) } := by
 have e1 : (s.heap.push PySem.W.emptyDict).get? s.heap.objs.size = some PySem.W.emptyDict := Heap.get?_push_size s.heap rfl
 have e2 : ((s.heap.push PySem.W.emptyDict).push (PySem.W.instObj C s.heap.objs.size)).get? (s.heap.objs.size + 1) = some (PySem.W.instObj C s.heap.objs.size) := by
  have := Heap.get?_push_size (s.heap.push PySem.W.emptyDict) (o := PySem.W.instObj C s.heap.objs.size) rfl
  rwa [Heap.size_push] at this
 have e3 : (s.heap.push PySem.W.emptyDict).Ns s.heap.objs.size (fun _ => none) := ⟨PySem.W.emptyDict, #[], _, e1, rfl, (fun e he => absurd he (by simp)), fun _ => rfl⟩
 have I1 := I.laid (a := s.heap.objs.size) (o := .own (s.heap.objs.size + 1)) (h' := s.heap.push PySem.W.emptyDict) (t' := s.toks) (fun b u q => Heap.get?_push_of_some _ q) (Nat.le_refl _) ⟨_, e1⟩
 refine I1.laid (a := s.heap.objs.size + 1) (o := .ins C s.heap.objs.size []) (t' := s.toks) (fun b u q => Heap.get?_push_of_some _ q) (Nat.le_of_eq (Heap.size_push _ _)) ?_
 have ne : s.heap.objs.size ≠ s.heap.objs.size + 1 := Nat.ne_of_lt (Nat.lt_succ_self _)
 refine ⟨by rw [upd_ne ne, upd_same], Nat.zero_le _, ne, e2, fun _ => none, (Heap.Ns1.of_empty e3).at fun o q => Heap.get?_push_of_some _ q, fun _ => True.intro, fun y hy => absurd rfl hy⟩
theorem attr_of {prog : Program} {w : World} {env : Env} {e : Expr} {f : Str} {pos : Pos} {s : Shared} {Q : Value → Shared → Prop} (hb : attributeBase e f env (eval e env) = eval e env)
  (h : wpAny (model prog w) A (eval e env) (fun o s₁ => wpAny (model prog w) A (getAttr o f true) Q E s₁) E s) : wpAny (model prog w) A (eval (.Attribute e f pos) env) Q E s :=
 Attribute_any_ h (by rw [arm_eval_Attribute, hb])
end
def tFld (K : PySem.W.Frag) (ta : TE) (f : Str) : TE := fun σ H Q => ta σ H fun x H1 => ∃ a C dx fs v, x = .ref a ∧ H1 a = some (.ins C dx fs) ∧ Cls K C ∧ NoAttr K C f ∧ fs.lookup f = some v ∧ Q v H1
def sFld (K : PySem.W.Frag) (ta tv : TE) (f : Str) : TS := fun D σ H => tv σ H fun y H1 => ta σ H1 fun x H2 => ∃ a C dx fs, x = .ref a ∧ H2 a = some (.ins C dx fs) ∧ Cls K C ∧ NoAttr K C f ∧ fs.length < 1000 ∧
 D.nx σ (upd H2 a (.ins C dx (putF f y fs)))
def InOp (X : Cx) (op : Operator) (rd : V → V → Hp → VK → Prop) : Prop :=
 ∀ (pins : List (Addr × Obj)) (s : Shared) (σ : St) (H : Hp) (x y : V) (u v : Value) (Q : VK), Inv X pins σ H s → RelV x u → RelV y v → rd x y H Q → wpAny (model X.prog X.w) X.A (inplaceOp op u v) (EP X pins σ Q) X.xe s
def sFldAug (K : PySem.W.Frag) (ta tv : TE) (rd : V → V → Hp → VK → Prop) (f : Str) : TS := fun D σ H => ta σ H fun x H1 => ∃ a C dx fs v, x = .ref a ∧ H1 a = some (.ins C dx fs) ∧ Cls K C ∧ NoAttr K C f ∧ fs.lookup f = some v ∧
 tv σ H1 fun y H2 => rd v y H2 fun z H3 => ∃ dx' fs', H3 a = some (.ins C dx' fs') ∧ fs'.length < 1000 ∧ D.nx σ (upd H3 a (.ins C dx' (putF f z fs')))
section
variable {X : Cx} {o e value : Expr} {f : Str} {pos pos' tpos : Pos} {ta tv : TE}
theorem pe_fld (he : PE X e ta) (hb : attributeBase e f X.env (eval e X.env) = eval e X.env) : PE X (.Attribute e f pos) (tFld X.K ta f) := by
 intro pins s σ H Q I h
 refine attr_of hb (thn (he pins s σ H _ I h) fun u s1 ⟨x, H1, I1, rx, a, C, dx, fs, v, ex, ea, c, n, l, q⟩ => ?_)
 subst ex
 obtain rfl : u = Value.ref a := rx
 exact getattr_ok I1 ea c n l fun u' s2 I2 ru => ⟨v, H1, I2, ru, q⟩
theorem ps_fld (ha : PE X o ta) (hv : PE X value tv) (hs : swapsWith value (some (.Attribute o f pos')) pos.line X.env = pure false) : PS X (.Assign [.Attribute o f pos'] value pos) (sFld X.K ta tv f) := by
 intro pins s σ H D I h
 refine plainObj_wpAny_Assign_Attribute (thn (hv pins s σ H _ I h) fun u s1 ⟨y, H1, I1, ry, q⟩ => thn (ha pins s1 σ H1 _ I1 q) fun ov s2 ⟨x, H2, I2, rx, a, C, dx, fs, ex, ea, c, n, l, q2⟩ => ?_) hs
 subst ex
 obtain rfl : ov = Value.ref a := rx
 exact setattr_ok I2 ea c n l ry fun s3 I3 => ⟨σ, _, I3, q2⟩
theorem ps_fldaug {op : Operator} {rd : V → V → Hp → VK → Prop} (ha : PE X o ta) (hv : PE X value tv) (hop : InOp X op rd) : PS X (.AugAssign (.Attribute o f tpos) op value pos) (sFldAug X.K ta tv rd f) := by
 intro pins s σ H D I h
 refine wpAny_AugAssign_AttributeAny (thn (ha pins s σ H _ I h) fun ov s1 ⟨x, H1, I1, rx, a, C, dx, fs, v, ex, ea, c, n, l, q⟩ => ?_)
 subst ex
 obtain rfl : ov = Value.ref a := rx
 refine getattr_ok I1 ea c n l fun u s2 I2 ru => thn (hv pins s2 σ H1 _ I2 q) fun w3 s3 ⟨y, H2, I3, ry, q3⟩ => thn (hop pins s3 σ H2 v y u w3 _ I3 ru ry q3) fun w4 s4 ⟨z, H3, I4, rz, dx', fs', ea', l', q4⟩ => ?_
 exact setattr_ok I4 ea' c n l' rz fun s5 I5 => ⟨σ, _, I5, q4⟩
def rAdd : V → V → Hp → VK → Prop := fun x y H Q => ∃ i j, x = .int i ∧ y = .int j ∧ Q (.int (i + j)) H
theorem in_add : InOp X .Add rAdd := by
 rintro pins s σ H x y u v Q I rx ry ⟨i, j, rfl, rfl, q⟩
 obtain ⟨t, rfl⟩ := (show ∃ t, u = Value.int i t from rx)
 obtain ⟨t', rfl⟩ := (show ∃ t', v = Value.int j t' from ry)
 exact PyProof.Rows.iadd_int ⟨.int (i + j), H, I.tok _, ⟨_, rfl⟩, q⟩
theorem methcall_of {pl : Sem Bool} {m : Str} {apos : Pos} {args : List Expr} {pins : List (Addr × Obj)} {s : Shared} {σ : St} {H : Hp} {Q : Value → Shared → Prop} {te : TE} (he : PE X e te) (I : Inv X pins σ H s)
  (h : te σ H fun x H1 => ∃ a C dx fs g, x = .ref a ∧ H1 a = some (.ins C dx fs) ∧ Cls X.K C ∧ Meth X.K C m g ∧ fs.lookup m = none ∧
   ∀ s1, Inv X pins σ H1 s1 → wpAny (model X.prog X.w) X.A (callWith pos (.ref g) [.ref a] (backTo pos (starEach args X.env)) (backToKw pos (keywordEach [] X.env))) Q X.xe s1)
  (ht : eval (.Call (.Attribute e m apos) args [] pos) X.env = (do
   let ov ← eval e X.env
   standAt apos.atName
   let (f, first) ← holding [ov] (getMethod ov m pl)
   callWith pos f first (backTo pos (starEach args X.env)) (backToKw pos (keywordEach [] X.env)))) :
  wpAny (model X.prog X.w) X.A (eval (.Call (.Attribute e m apos) args [] pos) X.env) Q X.xe s := by
 refine PySem.W.methodCall_KW (pl := pl) (thn (he pins s σ H _ I h) fun u s1 ⟨x, H1, I1, rx, a, C, dx, fs, g, ex, ea, c, k, l, q⟩ => ?_) ht
 subst ex
 obtain rfl : u = Value.ref a := rx
 exact getmeth_ok I1 ea c k l (q s1 I1)
end
section
variable {X : Cx} {pins : List (Addr × Obj)} {σ : St} {H : Hp} {s : Shared} {A : Around} {E : Value → Shared → Prop} {Q : Value → Shared → Prop} {c : Value} {b : Bool}
end
end L2
namespace L2
open PySem PySem.Spec PyProof.Rows
structure Room (k : Nat) (A : Around) : Prop where
 hd : A.handled = none
 dp : A.depth + 3 * k + 5 < recursionLimit
 un : A.units + 16 * k + 200 < cLine
theorem Room.mono {j k : Nat} {A : Around} (r : Room k A) (h : j ≤ k) : Room j A := ⟨r.hd, by have := r.dp; omega, by have := r.un; omega⟩
theorem Room.deeper {k : Nat} {A : Around} (r : Room (k + 1) A) (env : Env) : Room k (A.deeper env) :=
 ⟨r.hd, by have := r.dp; show A.depth + 1 + 3 * k + 5 < _; omega, by have := r.un; show A.units + 3 + 16 * k + 200 < _; omega⟩
theorem make_depth {A : Around} {C : Addr} {us : List Value} {kw : List (Str × Value)} : (A.under (.builtin "type.__call__" ⟨.ref C :: us, kw⟩)).depth = A.depth + 1 := by
 first | rfl | simp [Around.under, Code.weight, Code.isCreation, Code.isGuard, Code.isCaller, Code.frames, Code.isFrame, guardIds]
theorem make_units {A : Around} {C : Addr} {us : List Value} {kw : List (Str × Value)} : (A.under (.builtin "type.__call__" ⟨.ref C :: us, kw⟩)).units = A.units + 1 := by
 first | rfl | simp [Around.under, Code.cUnits, Code.frames, Code.isFrame]
theorem Room.make {k : Nat} {A : Around} (r : Room (k + 1) A) (C : Addr) (us : List Value) (kw : List (Str × Value)) : Room k (A.under (.builtin "type.__call__" ⟨.ref C :: us, kw⟩)) :=
 ⟨r.hd, by have := r.dp; rw [make_depth]; omega, by have := r.un; rw [make_units]; omega⟩
theorem Room.depth {k : Nat} {A : Around} (r : Room k A) : A.depth < recursionLimit := by have := r.dp; omega
def tNil : TA := fun _ H Q => Q [] H
def tCons (ta : TE) (tr : TA) : TA := fun σ H Q => ta σ H fun x H1 => tr σ H1 fun xs H2 => Q (x :: xs) H2
section
variable {X : Cx} {e : Expr} {es : List Expr} {te : TE} {t : TA} {pos : Pos}
theorem pa_nil : PA X [] tNil := fun _ _ _ _ H Q I h => Calls.spliced_nil ⟨[], H, I, .nil, h⟩
theorem pa_cons (ha : PE X e te) (hr : PA X es t) (hs : starEach (e :: es) X.env = (false, eval e X.env) :: starEach es X.env := by rfl) : PA X (e :: es) (tCons te t) := by
 intro pos pins s σ H Q I h
 rw [hs]
 show wpAny _ _ (spliced ((false, eval e X.env) :: backTo pos (starEach es X.env))) _ _ s
 refine Calls.spliced_cons (thn (ha pins s σ H _ I h) fun u s1 ⟨x, H1, I1, r1, q1⟩ => ?_)
 exact thn (hr pos pins s1 σ H1 _ I1 q1) fun us s2 ⟨xs, H2, I2, r2, q2⟩ => ⟨x :: xs, H2, I2, .cons r1 r2, q2⟩
def tTup (t : TA) : TE := fun σ H Q => t σ H fun xs H1 => xs.length ≤ sizeLine ∧ ∀ p, H1 p = none → Q (.ref p) (upd H1 p (.tup xs))
def tLst (t : TA) : TE := fun σ H Q => t σ H fun xs H1 => xs.length ≤ sizeLine ∧ ∀ p, H1 p = none → Q (.ref p) (upd H1 p (.lst xs))
theorem pe_tup {x1} (h : PA X es t) : PE X (.Tuple es x1 pos) (tTup t) := by
 intro pins s σ H Q I hq
 refine wpAny_Tuple_spliced (thn (h pos pins s σ H _ I hq) fun us s1 ⟨xs, H1, I1, r, z, q⟩ => ⟨by rw [← r.length]; exact z, ?_⟩)
 have hf : H1 s1.heap.objs.size = none := I1.hok.fresh (Nat.le_refl _)
 refine ⟨.ref s1.heap.objs.size, upd H1 s1.heap.objs.size (.tup xs), I1.laid (t' := s1.toks) (fun b u e => Heap.get?_push_of_some _ e) (Nat.le_refl _) ?_, rfl, q _ hf⟩
 exact ⟨z, us, r, ⟨_, Heap.get?_push_size _ rfl, rfl, _, rfl⟩⟩
theorem pe_lst (h : PA X es t) : PE X (.List es pos) (tLst t) := by
 intro pins s σ H Q I hq
 refine wpAny_List_spliced (thn (h pos pins s σ H _ I hq) fun us s1 ⟨xs, H1, I1, r, z, q⟩ => ⟨by rw [← r.length]; exact z, ?_⟩)
 have hf : H1 s1.heap.objs.size = none := I1.hok.fresh (Nat.le_refl _)
 refine ⟨.ref s1.heap.objs.size, upd H1 s1.heap.objs.size (.lst xs), I1.laid (t' := s1.toks) (fun b u e => Heap.get?_push_of_some _ e) (Nat.le_refl _) ?_, rfl, q _ hf⟩
 exact ⟨z, us, 0, r, Heap.get?_push_size _ rfl⟩
end
abbrev Sp := List V → Hp → VK → XK → Prop
abbrev CXT := List Env → Hp → Shared → XK → Value → Shared → Prop
structure Env0 (P : Program) (w : World) (K : PySem.W.Frag) (mg : Str → Option Value) (base : Heap) (A : Around) (outer : List Env) (s : Shared) (H : Hp) : Prop where
 frames : A.frames = some outer
 mod : Mod K mg base
 bs : ∀ b o, base.get? b = some o → s.heap.get? b = some o ∧ H b = none
 bsz : base.objs.size ≤ s.heap.objs.size
 funs : s.heap.FunFrames base outer
 frf : ∀ b ∈ frs outer, H b = none
 hok : HOk P w H s.heap
 bare : AllBare s.gens
def CE (outer : List Env) (P : Program) (w : World) (H : Hp) (s : Shared) (Q : VK) (u : Value) (s' : Shared) : Prop :=
 ∃ v H', s'.os = s.os ∧ AllBare s'.gens ∧ Un (frs outer) [] H H' s.heap s'.heap ∧ HOk P w H' s'.heap ∧ RelV v u ∧ Q v H'
def CR (CX : CXT) (outer : List Env) (P : Program) (w : World) (H : Hp) (s : Shared) (Q : VK) (E : XK) (r : Result) (s' : Shared) : Prop :=
 match r with
 | .ok (.ret u) => CE outer P w H s Q u s'
 | .ok _ => False
 | .error e => CX outer H s E e s'
structure FnOk (P : Program) (w : World) (K : PySem.W.Frag) (mg : Str → Option Value) (base : Heap) (CX : CXT) (k : Nat) (f : Addr) (fd : FuncData) (ps : List Str) (sp : Sp) : Prop where
 len : ∀ vs H Q E, sp vs H Q E → vs.length = ps.length
 run : ∀ (A : Around) (outer : List Env) (s : Shared) (H : Hp) (args : Args) (us : List Value) (vs : List V) (Q : VK) (E : XK), Room k A → Env0 P w K mg base A outer s H → BindsTo s fd args (ps.zip us) → Vals vs us → sp vs H Q E →
  codeAny (model P w) A (.call (.ref f) args) (CR CX outer P w H s Q E) s
theorem FnOk.mono {P : Program} {w : World} {K : PySem.W.Frag} {mg : Str → Option Value} {base : Heap} {CX : CXT} {j k : Nat} {f : Addr} {fd : FuncData} {ps : List Str} {sp : Sp} (F : FnOk P w K mg base CX j f fd ps sp) (h : j ≤ k) :
  FnOk P w K mg base CX k f fd ps sp := ⟨F.len, fun A outer s H args us vs Q E hr => F.run A outer s H args us vs Q E (hr.mono h)⟩
theorem Env0.make {P : Program} {w : World} {K : PySem.W.Frag} {mg : Str → Option Value} {base : Heap} {A : Around} {outer : List Env} {s : Shared} {H : Hp} (e : Env0 P w K mg base A outer s H) (C : Addr) (us : List Value) (kw : List (Str × Value)) :
  Env0 P w K mg base (A.under (.builtin "type.__call__" ⟨.ref C :: us, kw⟩)) outer s H := ⟨by first | exact e.frames | (simpa [Around.under, Code.envs, Code.isFrame, pushEnvs] using e.frames), e.mod, e.bs, e.bsz, e.funs, e.frf, e.hok, e.bare⟩
section
variable {X : Cx} {pins : List (Addr × Obj)} {σ : St} {H : Hp} {s s' : Shared}
theorem Inv.env0 (I : Inv X pins σ H s) : Env0 X.prog X.w X.K X.mg X.base X.A X.stack s H :=
 ⟨I.ok.frames, I.ok.mod, I.bs, Nat.le_trans I.ok.bsz I.sz, I.stack, I.stkFree, I.hok, I.bare⟩
theorem Inv.after {Q : VK} {u : Value} (I : Inv X pins σ H s) (h : CE X.stack X.prog X.w H s Q u s') : EP X pins σ Q u s' := by
 obtain ⟨v, H', os, bare, un, hok, r, q⟩ := h
 obtain ⟨hh, g, d, t, os'⟩ := s'
 obtain rfl : os' = s.os := os
 exact ⟨v, H', I.call (h' := hh) (g' := g) (d' := d) (t' := t) (ch := []) un hok bare (fun b z => absurd z (by simp)), r, q⟩
end
def tCall (sp : Sp) (dvs : List V) (E : XK) (t : TA) : TE := fun σ H Q => t σ H fun vs H1 => sp (vs ++ dvs) H1 Q E
def tMeth (C : Addr) (m : Str) (sp : Sp) (dvs : List V) (E : XK) (ta : TE) (t : TA) : TE := fun σ H Q => ta σ H fun x H1 => ∃ a dx fs, x = .ref a ∧ H1 a = some (.ins C dx fs) ∧ fs.lookup m = none ∧
 t σ H1 fun vs H2 => sp (x :: (vs ++ dvs)) H2 Q E
def tMake (C : Addr) (sp : Sp) (dvs : List V) (E : XK) (t : TA) : TE := fun σ H Q => t σ H fun vs H1 => ∀ x dx, H1 x = none → H1 dx = none → dx ≠ x →
 sp (.ref x :: (vs ++ dvs)) (upd (upd H1 dx (.own x)) x (.ins C dx [])) (fun v H2 => v = .non ∧ Q (.ref x) H2) E
def Binds (K : PySem.W.Frag) (fd : FuncData) (ps : List Str) (ds : List Value) : Prop :=
 ∀ (s : Shared) (us : List Value), K.In s.heap → (us ++ ds).length = ps.length → BindsTo s fd ⟨us, []⟩ (ps.zip (us ++ ds))
theorem Binds.all {K : PySem.W.Frag} {fd : FuncData} {ps : List Str} (h : ∀ us : List Value, us.length = ps.length → bindArgs fd ⟨us, []⟩ = pure (ps.zip us)) : Binds K fd ps [] := fun s us _ hl => by
 rw [List.append_nil] at hl ⊢
 exact .of_eq (h us hl)
def Passes (CX : CXT) (X : Cx) (E : XK) : Prop := ∀ (pins : List (Addr × Obj)) (σ : St) (H : Hp) (s : Shared) (e : Value) (s' : Shared), Inv X pins σ H s → CX X.stack H s E e s' → X.xe e s'
section
variable {X : Cx} {CX : CXT} {k : Nat} {f C : Addr} {fd : FuncData} {ps : List Str} {sp : Sp} {dvs : List V} {ds : List Value} {E : XK} {x m : Str} {p pos apos : Pos} {e o : Expr} {es : List Expr} {ta : TE} {t : TA}
theorem run_fn {pins : List (Addr × Obj)} {σ : St} {H : Hp} {s : Shared} {Q : VK} {us : List Value} {vs : List V} (F : FnOk X.prog X.w X.K X.mg X.base CX k f fd ps sp) (hr : Room k X.A) (hb : Binds X.K fd ps ds) (hd : Vals dvs ds) (hx : Passes CX X E)
  (I : Inv X pins σ H s) (r : Vals vs us) (h : sp (vs ++ dvs) H Q E) : wpAny (model X.prog X.w) X.A (call (.ref f) us) (EP X pins σ Q) X.xe s := by
 have r2 : Vals (vs ++ dvs) (us ++ ds) := r.append hd
 have hl : (us ++ ds).length = ps.length := by rw [← r2.length]; exact F.len _ _ _ _ h
 refine wpAny_call (codeAny_mono (F.run X.A X.stack s H ⟨us, []⟩ (us ++ ds) (vs ++ dvs) Q E hr I.env0 (hb s us I.kIn hl) r2 h) fun r s' hq => ?_)
 cases r with
 | error e => exact hx pins σ H s e s' I hq
 | ok fl =>
  cases fl with
  | ret u => exact I.after hq
  | next => exact False.elim hq
  | brk => exact False.elim hq
  | cont => exact False.elim hq
theorem pe_call (F : FnOk X.prog X.w X.K X.mg X.base CX k f fd ps sp) (hr : Room k X.A) (hg : Gl X x) (hm : X.mg x = some (.ref f)) (hk : PySem.W.keepIn X.K (.ref f) = true) (hb : Binds X.K fd ps ds) (hd : Vals dvs ds) (hx : Passes CX X E)
  (ha : PA X (e :: es) t) (hdb : (x == ("__debug__" : Str)) = false := by decide) (he : starEach (e :: es) X.env = (false, eval e X.env) :: starEach es X.env := by rfl) (hpl : (backTo pos (starEach es X.env)).any (·.1) = false := by rfl) :
  PE X (.Call (.Name x p) (e :: es) [] pos) (tCall sp dvs E t) := by
 intro pins s σ H Q I h
 refine wpAny_Call_Name_kw (ld_glob I hg hm ?_ hdb)
 refine PySem.W.callWith_K (h₀ := X.base) I.ok.mod.kin hk (thn (ha pos pins s σ H _ I h) fun us s1 ⟨vs, H1, I1, r, q⟩ => ⟨I1.kIn, ?_⟩) he hpl
 exact run_fn F hr hb hd hx I1 r q
theorem pe_meth {pl : Sem Bool} (he : PE X o ta) (c : Cls X.K C) (hm : Meth X.K C m f) (F : FnOk X.prog X.w X.K X.mg X.base CX k f fd ps sp) (hr : Room k X.A) (hb : Binds X.K fd ps ds) (hd : Vals dvs ds) (hx : Passes CX X E) (ha : PA X (e :: es) t)
  (hst : starEach (e :: es) X.env = (false, eval e X.env) :: starEach es X.env := by rfl) (hpl : (backTo pos (starEach es X.env)).any (·.1) = false := by rfl)
  (ht : eval (.Call (.Attribute o m apos) (e :: es) [] pos) X.env = (do
   let ov ← eval o X.env
   standAt apos.atName
   let (f, first) ← holding [ov] (getMethod ov m pl)
   callWith pos f first (backTo pos (starEach (e :: es) X.env)) (backToKw pos (keywordEach [] X.env))) := by rfl) :
  PE X (.Call (.Attribute o m apos) (e :: es) [] pos) (tMeth C m sp dvs E ta t) := by
 intro pins s σ H Q I h
 refine PySem.W.methodCall_KW (pl := pl) (thn (he pins s σ H _ I h) fun u s1 ⟨x, H1, I1, rx, a, dx, fs, ex, ea, l, q⟩ => ?_) ht
 subst ex
 obtain rfl : u = Value.ref a := rx
 refine getmeth_ok I1 ea c hm l ?_
 refine PySem.W.callWith_K (first := [.ref a]) (h₀ := X.base) I.ok.mod.kin hm.kp (thn (ha pos pins s1 σ H1 _ I1 q) fun us s2 ⟨vs, H2, I2, r, q2⟩ => ⟨I2.kIn, ?_⟩) hst hpl
 exact run_fn (us := .ref a :: us) (vs := .ref a :: vs) F hr hb hd hx I2 (.cons rfl r) q2
theorem pe_meth0 {pl : Sem Bool} (he : PE X o ta) (c : Cls X.K C) (hm : Meth X.K C m f) (F : FnOk X.prog X.w X.K X.mg X.base CX k f fd ps sp) (hr : Room k X.A) (hb : Binds X.K fd ps ds) (hd : Vals dvs ds) (hx : Passes CX X E)
  (ht : eval (.Call (.Attribute o m apos) [] [] pos) X.env = (do
   let ov ← eval o X.env
   standAt apos.atName
   let (f, first) ← holding [ov] (getMethod ov m pl)
   callWith pos f first (backTo pos (starEach [] X.env)) (backToKw pos (keywordEach [] X.env))) := by rfl) :
  PE X (.Call (.Attribute o m apos) [] [] pos) (tMeth C m sp dvs E ta tNil) := by
 intro pins s σ H Q I h
 refine PySem.W.methodCall_KW (pl := pl) (thn (he pins s σ H _ I h) fun u s1 ⟨x, H1, I1, rx, a, dx, fs, ex, ea, l, q⟩ => ?_) ht
 subst ex
 obtain rfl : u = Value.ref a := rx
 refine getmeth_ok I1 ea c hm l ?_
 exact PySem.W.callWith_K0 (first := [.ref a]) I1.kIn hm.kp (run_fn (us := [.ref a]) (vs := [.ref a]) F hr hb hd hx I1 (.cons rfl .nil) q)
structure Mk (K : PySem.W.Frag) (C f : Addr) : Prop where
 makes : PySem.W.makesIn K C = true
 init : PySem.W.findIn K (.ref C) "__init__" = some (some (.ref f))
 fn : PySem.W.isFn K (.ref f) = true
 kp : PySem.W.keepIn K (.ref C) = true
theorem run_make {pins : List (Addr × Obj)} {σ : St} {H : Hp} {s : Shared} {Q : VK} {us : List Value} {vs : List V} (M : Mk X.K C f) (F : FnOk X.prog X.w X.K X.mg X.base CX k f fd ps sp) (hr : Room (k + 1) X.A) (hb : Binds X.K fd ps ds) (hd : Vals dvs ds)
  (hx : Passes CX X E) (I : Inv X pins σ H s) (r : Vals vs us)
  (h : ∀ x dx, H x = none → H dx = none → dx ≠ x → sp (.ref x :: (vs ++ dvs)) (upd (upd H dx (.own x)) x (.ins C dx [])) (fun v H2 => v = .non ∧ Q (.ref x) H2) E) :
  wpAny (model X.prog X.w) X.A (call (.ref C) us) (EP X pins σ Q) X.xe s := by
 have hq := h (s.heap.objs.size + 1) s.heap.objs.size (I.hok.fresh (Nat.le_succ _)) (I.hok.fresh (Nat.le_refl _)) (Nat.ne_of_lt (Nat.lt_succ_self _))
 have I2 := Inv.made (C := C) I
 have r2 : Vals (V.ref (s.heap.objs.size + 1) :: (vs ++ dvs)) (Value.ref (s.heap.objs.size + 1) :: (us ++ ds)) := .cons rfl (r.append hd)
 have hl : (Value.ref (s.heap.objs.size + 1) :: us ++ ds).length = ps.length := by
  have e := r2.length
  rw [F.len _ _ _ _ hq] at e
  exact e.symm
 refine wpAny_call (make_map (f := f) I.kIn M.makes M.init (beq_iff_eq.mp M.fn) (codeAny_mono (F.run _ X.stack _ _ ⟨Value.ref (s.heap.objs.size + 1) :: us, []⟩ (Value.ref (s.heap.objs.size + 1) :: (us ++ ds)) _ _ E (hr.make C us [])
  (I2.env0.make C us []) (hb _ (Value.ref (s.heap.objs.size + 1) :: us) I2.kIn hl) r2 hq) fun r s' hq' => ?_))
 cases r with
 | error e => exact hx pins σ _ _ e s' I2 hq'
 | ok fl =>
  cases fl with
  | ret u =>
   obtain ⟨v, H', I3, rv, ev, q3⟩ := I2.after hq'
   subst ev
   exact ⟨rv, ⟨V.ref (s.heap.objs.size + 1), H', I3, rfl, q3⟩⟩
  | next => exact False.elim hq'
  | brk => exact False.elim hq'
  | cont => exact False.elim hq'
theorem pe_make (M : Mk X.K C f) (F : FnOk X.prog X.w X.K X.mg X.base CX k f fd ps sp) (hr : Room (k + 1) X.A) (hg : Gl X x) (hm : X.mg x = some (.ref C)) (hb : Binds X.K fd ps ds) (hd : Vals dvs ds) (hx : Passes CX X E)
  (ha : PA X (e :: es) t) (hdb : (x == ("__debug__" : Str)) = false := by decide) (he : starEach (e :: es) X.env = (false, eval e X.env) :: starEach es X.env := by rfl) (hpl : (backTo pos (starEach es X.env)).any (·.1) = false := by rfl) :
  PE X (.Call (.Name x p) (e :: es) [] pos) (tMake C sp dvs E t) := by
 intro pins s σ H Q I h
 refine wpAny_Call_Name_kw (ld_glob I hg hm ?_ hdb)
 refine PySem.W.callWith_K (h₀ := X.base) I.ok.mod.kin M.kp (thn (ha pos pins s σ H _ I h) fun us s1 ⟨vs, H1, I1, r, q⟩ => ⟨I1.kIn, ?_⟩) he hpl
 exact run_make M F hr hb hd hx I1 r q
theorem pe_make0 (M : Mk X.K C f) (F : FnOk X.prog X.w X.K X.mg X.base CX k f fd ps sp) (hr : Room (k + 1) X.A) (hg : Gl X x) (hm : X.mg x = some (.ref C)) (hb : Binds X.K fd ps ds) (hd : Vals dvs ds) (hx : Passes CX X E)
  (hdb : (x == ("__debug__" : Str)) = false := by decide) : PE X (.Call (.Name x p) [] [] pos) (tMake C sp dvs E tNil) := by
 intro pins s σ H Q I h
 refine wpAny_Call_Name_kw (ld_glob I hg hm ?_ hdb)
 exact PySem.W.callWith_K0 I.kIn M.kp (run_make (us := []) M F hr hb hd hx I .nil h)
end
section
variable {X : Cx} {CX : CXT} {k : Nat} {f C : Addr} {fd : FuncData} {ps ks : List Str} {sp : Sp} {E : XK} {x m : Str} {p pos apos kpos : Pos} {e o : Expr} {es : List Expr} {kws : List Keyword} {te ta : TE} {t tk : TA} {nm : Option Str}
variable {g : List Value → List Value → List Value} {gV : List V → List V → List V}
end
structure FnScope (N P : List Str) (sc : Scope) : Prop where
 kind : sc.kind = .function
 co : sc.isCoroutine = false
 gen : sc.isGenerator = false
 nd : N.Nodup
 pre : N.take P.length = P
 par : ∀ x ∈ P, sc.names.lookup x = some .local ∨ sc.names.lookup x = some .cell
 nofree : ∀ y ∈ sc.names, y.2 ≠ .free
theorem bindL_out {kindOf : Str → Option NameKind} {x : Str} : ∀ {binds : List (Str × Value)} {m : Str → Option Value}, (∀ v, (x, v) ∉ binds) → bindL kindOf binds m x = m x
 | [], _, _ => rfl
 | (n, v) :: r, m, h => by
  unfold bindL
  rw [bindL_out fun w hw => h w (List.mem_cons_of_mem _ hw)]
  split
  ·have : x ≠ n := by rintro rfl; exact h v List.mem_cons_self
   simp [this]
  ·rfl
theorem bindC_out {kindOf : Str → Option NameKind} {x : Str} : ∀ {binds : List (Str × Value)} {m : Str → Option Value}, (∀ v, (x, v) ∉ binds) → bindC kindOf binds m x = m x
 | [], _, _ => rfl
 | (n, v) :: r, m, h => by
  unfold bindC
  rw [bindC_out fun w hw => h w (List.mem_cons_of_mem _ hw)]
  split
  ·rfl
  ·have : x ≠ n := by rintro rfl; exact h v List.mem_cons_self
   simp [this]
theorem bindL_get {kindOf : Str → Option NameKind} {x : Str} {v : Value} : ∀ {P : List Str} {vs : List Value} {i : Nat} {m : Str → Option Value}, P.Nodup → P[i]? = some x → vs[i]? = some v → kindOf x = some .local →
  bindL kindOf (P.zip vs) m x = some v
 | [], _, _, _, _, h, _, _ => by simp at h
 | _ :: _, [], _, _, _, _, h, _ => by simp at h
 | p :: P, w :: vs, 0, m, nd, h1, h2, hk => by
  simp at h1 h2; subst h1; subst h2
  show bindL kindOf ((p, w) :: P.zip vs) m p = _
  unfold bindL
  rw [bindL_out fun v hv => (List.nodup_cons.mp nd).1 (List.of_mem_zip hv).1, if_pos hk]
  simp
 | p :: P, w :: vs, i + 1, m, nd, h1, h2, hk => by
  show bindL kindOf ((p, w) :: P.zip vs) m x = _
  unfold bindL
  exact bindL_get (i := i) (List.nodup_cons.mp nd).2 (by simpa using h1) (by simpa using h2) hk
theorem bindC_get {kindOf : Str → Option NameKind} {x : Str} {v : Value} : ∀ {P : List Str} {vs : List Value} {i : Nat} {m : Str → Option Value}, P.Nodup → P[i]? = some x → vs[i]? = some v → kindOf x ≠ some .local →
  bindC kindOf (P.zip vs) m x = some v
 | [], _, _, _, _, h, _, _ => by simp at h
 | _ :: _, [], _, _, _, _, h, _ => by simp at h
 | p :: P, w :: vs, 0, m, nd, h1, h2, hk => by
  simp at h1 h2; subst h1; subst h2
  show bindC kindOf ((p, w) :: P.zip vs) m p = _
  unfold bindC
  rw [bindC_out fun v hv => (List.nodup_cons.mp nd).1 (List.of_mem_zip hv).1, if_neg hk]
  simp
 | p :: P, w :: vs, i + 1, m, nd, h1, h2, hk => by
  show bindC kindOf ((p, w) :: P.zip vs) m x = _
  unfold bindC
  exact bindC_get (i := i) (List.nodup_cons.mp nd).2 (by simpa using h1) (by simpa using h2) hk
def start (N : List Str) (vs : List V) : St := vs.map some ++ List.replicate (N.length - vs.length) none
def cxOf (CX : CXT) (P : Program) (w : World) (K : PySem.W.Frag) (mg : Str → Option Value) (base : Heap) (N : List Str) (qual : Str) (scope : Scope) (f : Addr) (cd : Value) (A : Around) (outer : List Env) (s : Shared) (H : Hp) (E : XK) : Cx where
 prog := P
 w := w
 K := K
 mg := mg
 base := base
 A := A.deeper (envOfC qual scope s.heap.objs.size f cd)
 N := N
 s_0 := s
 H_0 := H
 env := envOfC qual scope s.heap.objs.size f cd
 outer := outer
 stack := envOfC qual scope s.heap.objs.size f cd :: outer
 ex := []
 calm := true
 fn := fun _ => true
 pn := []
 xe := fun e s' => wpAny (model P w) (A.deeper (envOfC qual scope s.heap.objs.size f cd)) (leaving (envOfC qual scope s.heap.objs.size f cd) e) (fun _ s'' => CX outer H s E e s'') (fun e' s'' => CX outer H s E e' s'') s'
theorem cell_has {sc : Scope} {n : Nat} {x : Str} (h : sc.names.lookup x = some .cell) : ∃ c, (cellsFrom n sc.names []).lookup x = some c := by
 have q := PySem.W.cellsFrom_some sc.names n [] (.inl h)
 exact Option.isSome_iff_exists.mp q
theorem inv_start {CX : CXT} {P : Program} {w : World} {K : PySem.W.Frag} {mg : Str → Option Value} {base : Heap} {N ps : List Str} {qual : Str} {scope : Scope} {f : Addr} {cd : Value} {A : Around} {outer : List Env} {s s1 : Shared} {H : Hp} {E : XK} {us : List Value} {vs : List V}
  (S : FnScope N ps scope) (hd : A.handled = none) (e0 : Env0 P w K mg base A outer s H) (hl : vs.length = ps.length) (r : Vals vs us)
  (x : InCallC s s.heap.objs.size (bindL (envOfC qual scope s.heap.objs.size f cd).kindOf (ps.zip us) fun _ => none) (cellsFrom (s.heap.objs.size + 1) scope.names []) (bindC (envOfC qual scope s.heap.objs.size f cd).kindOf (ps.zip us) fun _ => none) s1) :
  Inv (cxOf CX P w K mg base N qual scope f cd A outer s H E) [] (start N vs) H s1 := by
 have hpl : ps.length ≤ N.length := by have := congrArg List.length S.pre; rw [List.length_take] at this; omega
 obtain ⟨h1, tk, rfl, hk⟩ := x.done
 have noA : ∀ b : Addr, b ∉ (cxOf CX P w K mg base N qual scope f cd A outer s H E).ex := fun b z => absurd (show b ∈ ([] : List Addr) from z) (by simp)
 refine ⟨⟨e0.mod, S.kind, rfl, rfl, Nat.le_refl _, fun y z c h1 h2 => ?_, fun y hy => ?_, fun y c _ h => ?_, fun _ => hd, Around.frames_deeper e0.frames, .inr ⟨rfl, rfl⟩, fun b z => absurd z (noA b), e0.bs, e0.bsz, fun b _ _ => noA b, fun b z => absurd z (noA b), e0.funs, e0.frf⟩,
  rfl, e0.bare, Un.kept hk, ⟨_, x.toInCall.ns, fun i y v h1 h2 h3 => ?_⟩, fun y c h => ⟨_, x.cell y c h⟩, e0.hok.fresh (Nat.le_refl _), fun y c h => ?_, fun p hp => absurd (show p ∈ ([] : List (Addr × Obj)) from hp) (by simp), e0.hok.kept hk, ?_⟩
 ·exact name_of_addr x.apart (PySem.mem_of_lookup h1) (PySem.mem_of_lookup h2)
 ·have hy : scope.names.lookup y = some .cell ∨ scope.names.lookup y = some .free := hy
  rcases hy with hy | hy
  ·exact cell_has hy
  ·exact absurd rfl (S.nofree _ (PySem.mem_of_lookup hy))
 ·exact Nat.le_of_lt (x.above y c (PySem.mem_of_lookup h))
 ·have hi : i < vs.length := by
   unfold start at h2
   by_cases hi : i < vs.length
   ·exact hi
   ·rw [List.getElem?_append_right (by simpa using hi)] at h2
    rw [List.getElem?_replicate] at h2
    split at h2 <;> cases h2
  have ha : vs[i]? = some v := by
   unfold start at h2
   rw [List.getElem?_append_left (by simpa using hi), List.getElem?_map] at h2
   cases e : vs[i]? with
   | none => rw [e] at h2; cases h2
   | some a => rw [e] at h2; cases h2; rfl
  obtain ⟨u, hu, rv⟩ := r.get ha
  have hp : ps[i]? = some y := by
   rw [← S.pre, List.getElem?_take_of_lt (by omega)]; exact h1
  have ndP : ps.Nodup := by rw [← S.pre]; exact S.nd.sublist (List.take_sublist _ _)
  refine ⟨u, rv, ?_⟩
  rcases S.par y (List.mem_of_getElem? hp) with k | k
  ·exact .inl ⟨k, bindL_get ndP hp hu k⟩
  ·obtain ⟨c, e⟩ := cell_has (n := s.heap.objs.size + 1) k
   refine .inr ⟨.inl k, c, e, ?_⟩
   have q := x.cell y c e
   rw [bindC_get ndP hp hu (by show scope.names.lookup y ≠ _; rw [k]; decide)] at q
   exact q
 ·exact e0.hok.fresh (Nat.le_of_lt (x.above y c (PySem.mem_of_lookup h)))
 ·unfold start
  show _ = N.length
  rw [List.length_append, List.length_map, List.length_replicate]
  omega
theorem fn_of {CX : CXT} {P : Program} {w : World} {K : PySem.W.Frag} {mg : Str → Option Value} {base : Heap} {k : Nat} {f : Addr} {name qual : Str} {params : Arguments} {body : List Stmt} {scope : Scope} {dV kV doc pm cdv ct oc : Value} {an od : Option Addr}
  {osl : Array (Option Value)} {N ps : List Str} {sp : Sp} (lk : K.lookup f = some ⟨oc, od, .func (PySem.W.fnOf name qual params body scope dV kV doc pm an cdv ct), osl⟩) (hcd : PySem.W.codeIn K cdv qual = true) (S : FnScope N ps scope)
  (len : ∀ vs H Q E, sp vs H Q E → vs.length = ps.length)
  (hbody : ∀ (A : Around) (outer : List Env) (s : Shared) (H : Hp) (vs : List V) (Q : VK) (E : XK), Room k (A.deeper (envOfC qual scope s.heap.objs.size f cdv)) → sp vs H Q E →
   ∃ t, PSs (cxOf CX P w K mg base N qual scope f cdv A outer s H E) body t ∧ t { nx := fun _ H' => Q .non H', rt := Q } (start N vs) H) :
  FnOk P w K mg base CX (k + 1) f (PySem.W.fnOf name qual params body scope dV kV doc pm an cdv ct) ps sp := by
 refine ⟨len, fun A outer s H args us vs Q E hr e0 hb r hsp => ?_⟩
 have hl := len _ _ _ _ hsp
 have KX : K.In s.heap := e0.mod.kin.keeps fun b o e => (e0.bs b o e).1
 have lim : s.heap.NoLimit := e0.mod.nolimit.keeps fun b o e => (e0.bs b o e).1
 have hkind : ∀ y ∈ ps.zip us, scope.names.lookup y.1 = some .local ∨ (scope.names.lookup y.1 = some .cell ∧ ((cellsFrom (s.heap.objs.size + 1) scope.names []).lookup y.1).isSome = true) := fun ⟨n, v⟩ hy => by
  rcases S.par n (List.of_mem_zip hy).1 with q | q
  ·exact .inl q
  ·exact .inr ⟨q, PySem.W.cellsFrom_some _ _ _ (.inl q)⟩
 refine codeAny_call_function hr.depth (KX _ _ lk) rfl S.co S.gen rfl (PySem.W.codeRec_of KX hcd) (hb _ _ _ _ ?_)
 refine wpAny_newFunctionEnv_cells S.kind hkind fun env he s1 x => ?_
 subst he
 refine ⟨lim.keeps x.toInCall.keep, codeAny_func ?_⟩
 obtain ⟨t, ht, hq⟩ := hbody A outer s H vs Q E (hr.deeper _) hsp
 have I : Inv (cxOf CX P w K mg base N qual scope f cdv A outer s H E) [] (start N vs) H s1 := inv_start S hr.hd e0 hl r x
 refine wpAny_mono (ht [] s1 (start N vs) H _ I hq) (fun fl s' hs => ?_) fun e s' hs => hs
 have fin : ∀ {σ' : St} {H' : Hp} {v : V} {u : Value}, Inv (cxOf CX P w K mg base N qual scope f cdv A outer s H E) [] σ' H' s' → RelV v u → Q v H' → CE outer P w H s Q u s' :=
  fun {σ' H' v u} J rv q => ⟨v, H', J.os, J.bare, J.base, J.hok, rv, q⟩
 cases fl with
 | ret u =>
  obtain ⟨v, σ', H', J, rv, q⟩ := hs
  exact fin J rv q
 | next =>
  obtain ⟨σ', H', J, q⟩ := hs
  exact fin (v := V.non) (u := Value.none) J rfl q
 | brk =>
  obtain ⟨_, _, _, q⟩ := hs
  exact False.elim q
 | cont =>
  obtain ⟨_, _, _, q⟩ := hs
  exact False.elim q
end L2
namespace L2
open PySem PySem.Spec PyProof.Rows
section
variable {X : Cx} {x : Str} {p pos : Pos} {e : Expr} {es : List Expr} {t : TA} {id T : String} {r : List V → Hp → VK → Prop}
def tCB (r : List V → Hp → VK → Prop) (t : TA) : TE := fun σ H Q => t σ H fun vs H1 => r vs H1 Q
theorem pe_callB (hc : CallR X (.builtin id) r) (hg : Gl X x) (hm : X.mg x = none) (hv : bootBuiltins x = some (.builtin id)) (ha : PA X (e :: es) t) (hn : x ≠ "__name__" := by decide) (hdb : (x == ("__debug__" : Str)) = false := by decide)
  (he : starEach (e :: es) X.env = (false, eval e X.env) :: starEach es X.env := by rfl) (hpl : (backTo pos (starEach es X.env)).any (·.1) = false := by rfl) : PE X (.Call (.Name x p) (e :: es) [] pos) (tCB r t) := by
 intro pins s σ H Q I h
 refine wpAny_Call_Name_kw (ld_blt I hg hm hv ?_ hn hdb)
 exact PyProof.Rows.callWith_builtin1 (thn (ha pos pins s σ H _ I h) fun us s1 ⟨vs, H1, I1, r1, q1⟩ => hc pins s1 σ H1 vs us Q I1 r1 q1) he hpl
theorem pe_callTy (hc : CallR X (.type T) r) (hg : Gl X x) (hm : X.mg x = none) (hv : bootBuiltins x = some (.type T)) (ha : PA X (e :: es) t) (hn : x ≠ "__name__" := by decide) (hdb : (x == ("__debug__" : Str)) = false := by decide)
  (he : starEach (e :: es) X.env = (false, eval e X.env) :: starEach es X.env := by rfl) (hpl : (backTo pos (starEach es X.env)).any (·.1) = false := by rfl) : PE X (.Call (.Name x p) (e :: es) [] pos) (tCB r t) := by
 intro pins s σ H Q I h
 refine wpAny_Call_Name_kw (ld_blt I hg hm hv ?_ hn hdb)
 exact PyProof.Rows.callWith_type1 (thn (ha pos pins s σ H _ I h) fun us s1 ⟨vs, H1, I1, r1, q1⟩ => hc pins s1 σ H1 vs us Q I1 r1 q1) he hpl
end
end L2
namespace HT
open PySem PyProof.Rows
section
open PySem.SeqAt
open PySem.AutoSeq1 (wpAny_loadPart')
open PySem.MeetsSeq PySem.MeetsSeq2 PySem.MeetsSeq3
end
section
variable {prog : Program} {w : World} {A : Around} {E : Value → Shared → Prop} {s : Shared}
def sIx (n d : Nat) : Option Int → Nat
 | none => d
 | some v => if v < 0 then (v + (n : Int)).toNat else min v.toNat n
theorem sIx_nat (n d k : Nat) : sIx n d (some (k : Int)) = min k n := by
 show (if (k : Int) < 0 then ((k : Int) + (n : Int)).toNat else min (k : Int).toNat n) = min k n
 rw [if_neg (by omega), Int.toNat_natCast]
end
end HT
namespace L2
open PySem PySem.Spec PyProof.Rows
abbrev TO := St → Hp → (Option Int → Hp → Prop) → Prop
def PO (X : Cx) (e : Option Expr) (t : TO) : Prop :=
 ∀ (pins : List (Addr × Obj)) (s : Shared) (σ : St) (H : Hp) (Q : Option Int → Hp → Prop), Inv X pins σ H s → t σ H Q →
  wpAny (model X.prog X.w) X.A (evalPart e X.env) (fun u s' => ∃ o H', Inv X pins σ H' s' ∧ IsPart u o ∧ Q o H') X.xe s
def tNoPart : TO := fun _ H Q => Q none H
def tPart (t : TE) : TO := fun σ H Q => t σ H fun x H1 => ∃ i, x = .int i ∧ Q (some i) H1
section
variable {X : Cx} {e : Expr} {te : TE} {lo hi : Option Expr} {tl th : TO} {pos p2 : Pos}
theorem po_none : PO X none tNoPart := by
 intro pins s σ H Q I h
 rw [evalPart_none]
 exact wpAny_pure ⟨none, H, I, .none, h⟩
theorem po_some (h : PE X e te) : PO X (some e) (tPart te) := by
 intro pins s σ H Q I hw
 rw [evalPart_some]
 refine thn (h pins s σ H _ I hw) fun u s1 ⟨x, H1, I1, r1, q1⟩ => ?_
 obtain ⟨i, rfl, q⟩ := q1
 obtain ⟨t, rfl⟩ := r1
 exact ⟨some i, H1, I1, .int i t, q⟩
def SlR (X : Cx) (r : V → Option Int → Option Int → Hp → VK → Prop) : Prop :=
 ∀ (pins : List (Addr × Obj)) (s : Shared) (σ : St) (H : Hp) (x : V) (v vl vu : Value) (lo hi : Option Int) (sl : Addr) (Q : VK), Inv X pins σ H s → RelV x v → s.heap.IsSliceOf sl vl vu .none → IsPart vl lo → IsPart vu hi → r x lo hi H Q →
  ∃ T id, typeLookup (.type T) "__getitem__" = pure (some (.builtin id)) ∧ s.TypeIs v T ∧ wpAny (model X.prog X.w) X.A (getItem v (.ref sl)) (EP X pins σ Q) X.xe s
def tSl (r : V → Option Int → Option Int → Hp → VK → Prop) (te : TE) (tl th : TO) : TE := fun σ H Q => te σ H fun x H1 => tl σ H1 fun l H2 => th σ H2 fun u H3 => r x l u H3 Q
theorem pe_slice {r : V → Option Int → Option Int → Hp → VK → Prop} (hr : SlR X r) (he : PE X e te) (hl : PO X lo tl) (hu : PO X hi th) : PE X (.Subscript e (.Slice lo hi none p2) pos) (tSl r te tl th) := by
 intro pins s σ H Q I h
 refine Subscript_ (thn (he pins s σ H _ I h) fun v s1 ⟨x, H1, I1, r1, q1⟩ => ?_)
 refine wpAny_Slice (thn (hl pins s1 σ H1 _ I1 q1) fun vl s2 ⟨l, H2, I2, pl, q2⟩ => thn (hu pins s2 σ H2 _ I2 q2) fun vu s3 ⟨u, H3, I3, pu, q3⟩ => ?_)
 rw [evalPart_none]
 refine wpAny_pure ?_
 have I4 : Inv X pins σ H3 { s3 with heap := s3.heap.push { cls := .type "slice", data := .fields #[vl, vu, .none] } } := I3.kept (t' := s3.toks) fun b ob q => Heap.get?_push_of_some _ q
 obtain ⟨T, id, hT, ht, hg⟩ := hr pins { s3 with heap := s3.heap.push { cls := .type "slice", data := .fields #[vl, vu, .none] } } σ H3 x v vl vu l u s3.heap.objs.size Q I4 r1 (Heap.IsSliceOf.new ..) pl pu q3
 show wpAny (model X.prog X.w) X.A (subscriptTail e (.Slice lo hi none p2) v (.ref s3.heap.objs.size)) (EP X pins σ Q) X.xe { s3 with heap := s3.heap.push { cls := .type "slice", data := .fields #[vl, vu, .none] } }
 exact tail_any (ops := [.ref s3.heap.objs.size, v]) ht hT hg (by with_unfolding_all rfl)
def cutV (xs : List V) (lo hi : Option Int) : List V := (xs.drop (HT.sIx xs.length 0 lo)).take (HT.sIx xs.length xs.length hi - HT.sIx xs.length 0 lo)
theorem cutV_length (xs : List V) (lo hi : Option Int) : (cutV xs lo hi).length ≤ xs.length := by
 unfold cutV
 rw [List.length_take, List.length_drop]
 omega
end
end L2
namespace L2
open PySem PySem.Spec PyProof.Rows
def ixN (n : Nat) (i : Int) : Option Nat := if 0 ≤ i then (if i < n then some i.toNat else none) else if -(n : Int) ≤ i then some (i + n).toNat else none
def atI {α : Type} (xs : List α) (i : Int) : Option α := (ixN xs.length i).bind fun j => xs[j]?
theorem ixN_seq {n : Nat} {i : Int} {j : Nat} (h : ixN n i = some j) : seqIndex? i n = some j ∧ j < n ∧ -(n : Int) ≤ i ∧ i < n := by
 unfold ixN at h
 by_cases h0 : 0 ≤ i
 ·rw [if_pos h0] at h
  by_cases h1 : i < n
  ·rw [if_pos h1] at h
   have e : i.toNat = j := Option.some.inj h
   exact ⟨by rw [seqIndex_of h0 h1, e], by omega, by omega, h1⟩
  ·rw [if_neg h1] at h; cases h
 ·rw [if_neg h0] at h
  by_cases h1 : -(n : Int) ≤ i
  ·rw [if_pos h1] at h
   have e : (i + n).toNat = j := Option.some.inj h
   exact ⟨by rw [seqIndex_neg (by omega) h1, e], by omega, h1, by omega⟩
  ·rw [if_neg h1] at h; cases h
theorem atI_get {α : Type} {xs : List α} {i : Int} {v : α} (h : atI xs i = some v) : ∃ j, seqIndex? i xs.length = some j ∧ xs[j]? = some v ∧ j < xs.length ∧ -(xs.length : Int) ≤ i ∧ i < xs.length := by
 unfold atI at h
 cases e : ixN xs.length i with
 | none => rw [e] at h; cases h
 | some j =>
  rw [e] at h
  obtain ⟨h1, h2, h3, h4⟩ := ixN_seq e
  exact ⟨j, h1, h, h2, h3, h4⟩
theorem atI_nat {α : Type} {xs : List α} {j : Nat} {v : α} (h : xs[j]? = some v) : atI xs (j : Int) = some v := by
 have hj : j < xs.length := (List.getElem?_eq_some_iff.mp h).1
 have e : ixN xs.length (j : Int) = some j := by
  unfold ixN
  rw [if_pos (by omega), if_pos (by omega)]; simp
 unfold atI; rw [e]; exact h
def PlainIx (b : Expr) : Prop := ∀ o i, subscripted b false o i = operate [o, i] (getItem o i)
def IxR (X : Cx) (r : R2) : Prop :=
 ∀ (value slice : Expr) (pins : List (Addr × Obj)) (s : Shared) (σ : St) (H : Hp) (x y : V) (v u : Value) (Q : VK), Inv X pins σ H s → RelV x v → RelV y u → r x y H Q →
  subscripted slice false v u = operate [v, u] (getItem v u) → wpAny (model X.prog X.w) X.A (subscriptTail value slice v u) (EP X pins σ Q) X.xe s
def MtR (X : Cx) (id : String) (r : V → List V → Hp → VK → Prop) : Prop :=
 ∀ (pins : List (Addr × Obj)) (s : Shared) (σ : St) (H : Hp) (x : V) (xs : List V) (v : Value) (us : List Value) (Q : VK), Inv X pins σ H s → RelV x v → Vals xs us → r x xs H Q →
  wpAny (model X.prog X.w) X.A (call (.builtin id) (v :: us)) (EP X pins σ Q) X.xe s
section
variable {X : Cx} {a b : Expr} {ta tb : TE} {pos : Pos}
theorem pe_ix {r : R2} (hr : IxR X r) (ha : PE X a ta) (hb : PE X b tb) (hs : PlainIx b) : PE X (.Subscript a b pos) (tOp r ta tb) := by
 intro pins s σ H Q I h
 exact Subscript_ (binT ha hb I h fun v u s2 x y H2 I2 rx ry q => hr a b pins s2 σ H2 x y v u Q I2 rx ry q (hs _ _))
def rIxL (K : PySem.W.Frag) : R2 := fun x y H Q => ∃ p xs i v, x = .ref p ∧ y = .int i ∧ SqL K H p xs ∧ atI xs i = some v ∧ Q v H
def rIxT (K : PySem.W.Frag) : R2 := fun x y H Q => ∃ p xs i v, x = .ref p ∧ y = .int i ∧ SqT K H p xs ∧ atI xs i = some v ∧ Q v H
theorem ix_list : IxR X (rIxL X.K) := by
 intro value slice pins s σ H x y v u Q I rx ry h hs
 obtain ⟨p, xs, i, z, rfl, rfl, hq, he, q⟩ := h
 cases rx
 obtain ⟨t, rfl⟩ := ry
 obtain ⟨its, r, pl, hz⟩ := I.list hq
 obtain ⟨j, h1, h2, h3, h4, h5⟩ := atI_get he
 obtain ⟨w, ew, rw'⟩ := r.get h2
 have hl := r.length
 have hn := line63
 have fin : EP X pins σ Q w s := ⟨z, H, I, rw', q⟩
 by_cases h0 : 0 ≤ i
 ·have hj : i.toNat = j := by
   rw [seqIndex_of h0 h5] at h1
   exact Option.some.inj h1
  exact item_listR pl.isList h0 (by omega) (by rw [hj]; simpa using ew) fin hs
 ·have hj : (i + (its.toArray.size : Int)).toNat = j := by
   rw [seqIndex_neg (by omega) h4] at h1
   rw [List.size_toArray, ← hl]
   exact Option.some.inj h1
  exact subscriptTail_builtinR (x := w) pl.isList.typeIs slot_list_getitem.lookup
   (wpAny_getItem_list_neg (Q := fun r s' => r = w ∧ EP X pins σ Q r s') pl.isList (by omega) (by rw [List.size_toArray] <;> omega) (by omega) (by rw [hj]; simpa using ew) ⟨rfl, fin⟩) hs
theorem ix_tup : IxR X (rIxT X.K) := by
 intro value slice pins s σ H x y v u Q I rx ry h hs
 obtain ⟨p, xs, i, z, rfl, rfl, hq, he, q⟩ := h
 cases rx
 obtain ⟨t, rfl⟩ := ry
 obtain ⟨its, r, pl, hz⟩ := I.tuple hq
 obtain ⟨j, h1, h2, h3, h4, h5⟩ := atI_get he
 obtain ⟨w, ew, rw'⟩ := r.get h2
 have hl := r.length
 have hn := line63
 have fin : EP X pins σ Q w s := ⟨z, H, I, rw', q⟩
 exact subscriptTail_builtinR (x := w) pl.typeIs slot_tuple_getitem.lookup
  (getItem_tuple (j := j) (Q := fun r s' => r = w ∧ EP X pins σ Q r s') pl (by omega) (by omega) (by rw [List.size_toArray, ← hl]; exact h1) (by simpa using ew) ⟨rfl, fin⟩) hs
theorem mapSeq_set (its : List Value) (n j : Nat) (u : Value) : Obj.mapSeq (·.setIfInBounds j u) { cls := .type "list", data := .seq its.toArray n } = { cls := .type "list", data := .seq (its.set j u).toArray n } := by
 simp [Obj.mapSeq]
theorem Inv.lst {pins : List (Addr × Obj)} {σ : St} {H : Hp} {s : Shared} {p : Addr} {xs : List V} (I : Inv X pins σ H s) (h : H p = some (.lst xs)) :
  ∃ (its : List Value) (n : Nat), Vals xs its ∧ s.heap.get? p = some { cls := .type "list", data := .seq its.toArray n } ∧ xs.length ≤ sizeLine := by
 obtain ⟨z, its, n, r, e⟩ := I.hok p _ h
 exact ⟨its, n, r, e, z⟩
theorem Inv.lstUpd {pins : List (Addr × Obj)} {σ : St} {H : Hp} {s : Shared} {p : Addr} {xs ys : List V} {its its' : List Value} {n n' : Nat} {f : Obj → Obj} (I : Inv X pins σ H s) (h : H p = some (.lst xs))
  (ho : s.heap.get? p = some { cls := .type "list", data := .seq its.toArray n }) (hf : f { cls := .type "list", data := .seq its.toArray n } = { cls := .type "list", data := .seq its'.toArray n' }) (r : Vals ys its') (hz : ys.length ≤ sizeLine) (t : Nat) :
  Inv X pins σ (upd H p (.lst ys)) { s with heap := s.heap.update p f, toks := t } := by
 have e : (s.heap.update p f).get? p = some { cls := .type "list", data := .seq its'.toArray n' } := by
  rw [Heap.get?_update_self f ho (by rw [hf] <;> rfl), hf]
 refine I.write (x := p) (e := p) (by rw [h]; trivial) (.inl rfl) (fun b u hb q => (Heap.get?_update_other _ _ (Ne.symm hb)).trans q) ⟨_, e⟩ ?_
 exact ⟨hz, its', n', r, e⟩
def rSetL : V → V → V → Hp → (Hp → Prop) → Prop := fun o i v H Q => ∃ p xs k j, o = .ref p ∧ i = .int k ∧ H p = some (.lst xs) ∧ ixN xs.length k = some j ∧ Q (upd H p (.lst (xs.set j v)))
theorem set_list : PSet X rSetL := by
 intro pins s σ H o i v ov iv u Q I ro ri rv h
 obtain ⟨p, xs, k, j, rfl, rfl, hp, hj, q⟩ := h
 cases ro
 obtain ⟨t, rfl⟩ := ri
 obtain ⟨its, n, r, ho, hz⟩ := I.lst hp
 obtain ⟨h1, h2, h3, h4⟩ := ixN_seq hj
 have hl := r.length
 have hn := line63
 have I' : Inv X pins σ (upd H p (.lst (xs.set j v))) { s with heap := s.heap.update p (Obj.mapSeq (·.setIfInBounds j u)) } :=
  I.lstUpd hp ho (mapSeq_set its n j u) (r.set rv j) (by rw [List.length_set]; exact hz) s.toks
 by_cases h0 : 0 ≤ k
 ·have hk : k.toNat = j := by
   rw [seqIndex_of h0 h4] at h1
   exact Option.some.inj h1
  exact PySem.W.ki_setAt ho h0 (by omega) (by rw [List.size_toArray, ← hl]; exact h4) (by rw [hk]; exact ⟨_, I', q⟩)
 ·have hk : (k + (its.toArray.size : Int)).toNat = j := by
   rw [seqIndex_neg (by omega) h3] at h1
   rw [List.size_toArray, ← hl]
   exact Option.some.inj h1
  exact PySem.W.ki_setBack ho (by omega) (by rw [List.size_toArray, ← hl]; exact h3) (by omega) (by rw [hk]; exact ⟨_, I', q⟩)
theorem slice_bounds (lo hi : Option Int) (n : Nat) : (sliceBounds lo hi none n).1 = ((HT.sIx n 0 lo : Nat) : Int) ∧ (sliceBounds lo hi none n).2.1 = ((HT.sIx n n hi : Nat) : Int) ∧ (sliceBounds lo hi none n).2.2 = 1 := by
 refine ⟨?_, ?_, rfl⟩
 ·cases lo with
  | none => simp [sliceBounds, HT.sIx]
  | some i =>
   simp only [sliceBounds, HT.sIx, Option.getD_none, show (1 : Int) > 0 by decide, if_true]
   by_cases h : i < 0
   ·simp only [h, if_true] <;> omega
   ·simp only [h, if_false] <;> omega
 ·cases hi with
  | none => simp [sliceBounds, HT.sIx]
  | some i =>
   simp only [sliceBounds, HT.sIx, Option.getD_none, show (1 : Int) > 0 by decide, if_true]
   by_cases h : i < 0
   ·simp only [h, if_true] <;> omega
   ·simp only [h, if_false] <;> omega
theorem slicePick_cut (its : List Value) (lo hi : Option Int) : slicePick its.toArray lo hi none = ((its.drop (HT.sIx its.length 0 lo)).take (HT.sIx its.length its.length hi - HT.sIx its.length 0 lo)).toArray := by
 obtain ⟨h1, h2, h3⟩ := slice_bounds lo hi its.toArray.size
 unfold slicePick
 rw [h1, h2, h3]
 simp only [sliceRange_one, pick_run, List.size_toArray] <;> rfl
def rSlL (K : PySem.W.Frag) : V → Option Int → Option Int → Hp → VK → Prop := fun x lo hi H Q => ∃ a xs, x = .ref a ∧ SqL K H a xs ∧ ∀ p, H p = none → Q (.ref p) (upd H p (.lst (cutV xs lo hi)))
theorem sl_list : SlR X (rSlL X.K) := by
 intro pins s σ H x v vl vu lo hi sl Q I rx hs pl pu h
 obtain ⟨a, xs, rfl, hx, q⟩ := h
 cases rx
 obtain ⟨its, r, ht, hz⟩ := I.list hx
 have hlen := r.length
 refine ⟨"list", _, slot_list_getitem.lookup, ht.isList.typeIs, ?_⟩
 refine wpAny_getItem_list_slice ht.isList hs pl pu .none (by simp) ?_ (by rw [List.size_toArray] <;> omega)
 rw [slicePick_cut, ← hlen]
 refine ⟨.ref s.heap.objs.size, _, I.laid (t' := s.toks) (o := .lst (cutV xs lo hi)) (fun b ob q => Heap.get?_push_of_some _ q) (Nat.le_refl _) ?_, rfl, q _ (I.hok.fresh (Nat.le_refl _))⟩
 exact ⟨Nat.le_trans (cutV_length xs lo hi) hz, _, 0, (r.drop (HT.sIx xs.length 0 lo)).take (HT.sIx xs.length xs.length hi - HT.sIx xs.length 0 lo), Heap.get?_push_size _ rfl⟩
theorem call_len_seq : CallR X (.builtin "len") (fun xs H Q => ∃ p ys, xs = [.ref p] ∧ (SqL X.K H p ys ∨ SqT X.K H p ys) ∧ Q (.int ys.length) H) := by
 intro pins s σ H xs us Q I r h
 obtain ⟨p, ys, rfl, hq, q⟩ := h
 obtain ⟨u, rfl, rx⟩ := vals1 r
 cases rx
 have hn := line63
 rcases hq with hq | hq
 ·obtain ⟨its, r', pl, hz⟩ := I.list hq
  have hlen := r'.length
  exact Calls.call_len_list pl.isList (by simp only [List.size_toArray] <;> omega) ⟨.int ys.length, H, I.tok _, ⟨s.toks + 1, by rw [List.size_toArray, hlen]⟩, q⟩
 ·obtain ⟨its, r', pl, hz⟩ := I.tuple hq
  have hlen := r'.length
  exact len_tuple pl (by simp only [List.size_toArray] <;> omega) ⟨.int ys.length, H, I.tok _, ⟨s.toks + 1, by rw [List.size_toArray, hlen]⟩, q⟩
theorem call_list_of : CallR X (.type "list") (fun xs H Q => ∃ p ys, xs = [.ref p] ∧ (SqL X.K H p ys ∨ SqT X.K H p ys) ∧ ∀ l, H l = none → Q (.ref l) (upd H l (.lst ys))) := by
 intro pins s σ H xs us Q I r h
 obtain ⟨p, ys, rfl, hq, q⟩ := h
 obtain ⟨u, rfl, rx⟩ := vals1 r
 cases rx
 have fin : ∀ (its : List Value), Vals ys its → ys.length ≤ sizeLine → ∀ (h' : Heap) (c' : Nat), (∀ b o', s.heap.get? b = some o' → h'.get? b = some o') →
   h'.get? s.heap.objs.size = some { cls := .type "list", dict := none, data := .seq its.toArray c', slots := #[] } → EP X pins σ Q (.ref s.heap.objs.size) { s with heap := h' } := fun its r' hz h' c' kp e =>
  ⟨.ref s.heap.objs.size, _, I.laid (t' := s.toks) kp (Nat.le_refl _) (show ObjOk X.prog X.w _ h' _ (.lst ys) from ⟨hz, its, c', r', e⟩), rfl, q _ (I.hok.fresh (Nat.le_refl _))⟩
 rcases hq with hq | hq
 ·obtain ⟨its, r', pl, hz⟩ := I.list hq
  have hlen := r'.length
  obtain ⟨o, ho, hc, n, hd⟩ := pl.isList
  exact call_list_seq p (.inl rfl) ho hc hd (fun h' c' kp e => fin its r' hz h' c' kp e) (by simp only [List.size_toArray] <;> omega)
 ·obtain ⟨its, r', pl, hz⟩ := I.tuple hq
  have hlen := r'.length
  obtain ⟨o, ho, hc, n, hd⟩ := pl
  exact call_list_seq p (.inr rfl) ho hc hd (fun h' c' kp e => fin its r' hz h' c' kp e) (by simp only [List.size_toArray] <;> omega)
theorem call_tuple_of : CallR X (.type "tuple") (fun xs H Q => ∃ p ys, xs = [.ref p] ∧ ((SqL X.K H p ys ∧ ∀ l, H l = none → Q (.ref l) (upd H l (.tup ys))) ∨ (SqT X.K H p ys ∧ Q (.ref p) H))) := by
 intro pins s σ H xs us Q I r h
 obtain ⟨p, ys, rfl, h⟩ := h
 obtain ⟨u, rfl, rx⟩ := vals1 r
 cases rx
 rcases h with ⟨hq, q⟩ | ⟨hq, q⟩
 ·obtain ⟨its, r', pl, hz⟩ := I.list hq
  have hlen := r'.length
  refine call_tuple_list pl.isList (fun h' kp => ?_) (by simp only [List.size_toArray] <;> omega)
  have I1 : Inv X pins σ H { s with heap := h' } := I.kept (t' := s.toks) kp
  have I2 : Inv X pins σ (upd H h'.objs.size (.tup ys)) { s with heap := h'.push { cls := .type "tuple", data := .seq its.toArray } } :=
   I1.laid (t' := s.toks) (fun b o e => Heap.get?_push_of_some _ e) (Nat.le_refl _) (show ObjOk X.prog X.w _ _ _ (.tup ys) from ⟨hz, its, r', IsTup.new _ _⟩)
  exact ⟨.ref h'.objs.size, _, I2, rfl, q _ (I1.hok.fresh (Nat.le_refl _))⟩
 ·obtain ⟨its, r', pl, hz⟩ := I.tuple hq
  exact call_tuple_same pl ⟨.ref p, H, I, rfl, q⟩
def tyV (K : PySem.W.Frag) (T : String) (x : V) (H : Hp) : Prop := match x with
 | .str _ => T = "str"
 | .int _ => T = "int"
 | .ref p => (T = "list" ∧ ∃ xs, SqL K H p xs) ∨ (T = "tuple" ∧ ∃ o, K.lookup p = some o ∧ o.cls = .type "tuple" ∧ o.dict = none) ∨
   (T = "dict" ∧ ((∃ kvs, H p = some (.dK kvs)) ∨ ∃ kvs, H p = some (.dT kvs))) ∨ (T = "set" ∧ ∃ S n, H p = some (.set S n))
 | _ => False
theorem tyV_is {pins : List (Addr × Obj)} {σ : St} {H : Hp} {s : Shared} {T : String} {x : V} {v : Value} (I : Inv X pins σ H s) (r : RelV x v) (ty : tyV X.K T x H) :
  s.TypeIs v T ∧ ∀ a, v = .ref a → ∃ ob, s.heap.get? a = some ob ∧ ob.dict = none := by
 cases x with
 | str z =>
  obtain ⟨t, rfl⟩ := r
  cases (show T = "str" from ty)
  exact ⟨typeIs_str s z t, fun _ e => nomatch e⟩
 | int i =>
  obtain ⟨t, rfl⟩ := r
  cases (show T = "int" from ty)
  exact ⟨typeIs_int s i t, fun _ e => nomatch e⟩
 | ref p =>
  cases r
  rcases ty with ⟨rfl, xs, hq⟩ | ⟨rfl, o, hk, hc, hd⟩ | ⟨rfl, hk⟩ | ⟨rfl, S, n, hk⟩
  ·obtain ⟨its, _, pl, _⟩ := I.list hq
   refine ⟨pl.isList.typeIs, fun a e => ?_⟩
   cases e
   obtain ⟨o, n, e, c, hd, _⟩ := pl
   exact ⟨o, e, hd⟩
  ·refine ⟨⟨o, I.kIn p o hk, hc⟩, fun a e => ?_⟩
   cases e
   exact ⟨o, I.kIn _ o hk, hd⟩
  ·have z : ∃ o, s.heap.get? p = some o ∧ o.ExactDict := by
    rcases hk with ⟨kvs, hk⟩ | ⟨kvs, hk⟩
    ·obtain ⟨_, _, _, _, o, _, _, e, ex, _⟩ := I.hok p _ hk
     exact ⟨o, e, ex⟩
    ·obtain ⟨_, _, _, _, o, _, _, e, ex, _⟩ := I.hok p _ hk
     exact ⟨o, e, ex⟩
   obtain ⟨o, e, ex⟩ := z
   refine ⟨⟨o, e, ex.1⟩, fun a e2 => ?_⟩
   cases e2
   exact ⟨o, e, ex.2.1⟩
  ·obtain ⟨o, _, _, _, e, ex, _⟩ := I.hok p _ hk
   refine ⟨⟨o, e, ex.1⟩, fun a e2 => ?_⟩
   cases e2
   exact ⟨o, e, ex.2.1⟩
 | _ => exact False.elim ty
def tBM0 (K : PySem.W.Frag) (T : String) (r : V → List V → Hp → VK → Prop) (to : TE) : TE := fun σ H Q => to σ H fun x H1 => tyV K T x H1 ∧ r x [] H1 Q
def tBM (K : PySem.W.Frag) (T : String) (r : V → List V → Hp → VK → Prop) (to : TE) (t : TA) : TE := fun σ H Q => to σ H fun x H1 => tyV K T x H1 ∧ t σ H1 fun xs H2 => r x xs H2 Q
variable {o e : Expr} {es : List Expr} {to : TE} {t : TA} {name : Str} {apos cpos : Pos} {T id : String} {r : V → List V → Hp → VK → Prop}
theorem pe_bm0 (pa : PlainAttrs T) (slot : Slot T name id) (hty : typeOf (.builtin id) = pure (.type "method_descriptor")) (hm : MtR X id r) (ho : PE X o to)
  (hbase : attributeBase o name X.env (eval o X.env) = eval o X.env := by rfl) (hline : (apos.endLine == cpos.line) = true := by rfl) : PE X (.Call (.Attribute o name apos) [] [] cpos) (tBM0 X.K T r to) := by
 intro pins s σ H Q I h
 refine wpAny_Call_method0_late hbase hline (thn (ho pins s σ H _ I h) fun v s1 ⟨x, H1, I1, r1, ty, q1⟩ => ?_)
 obtain ⟨h1, h2⟩ := tyV_is I1 r1 ty
 exact ⟨T, id, pa, slot, hty, h1, h2, Calls.callWith_builtin rfl (PySem.evalArgs_none (hm pins s1 σ H1 x [] v [] Q I1 r1 .nil q1))⟩
theorem pe_bm (pa : PlainAttrs T) (slot : Slot T name id) (hty : typeOf (.builtin id) = pure (.type "method_descriptor")) (hm : MtR X id r) (ho : PE X o to) (ha : PA X (e :: es) t)
  (hbase : attributeBase o name X.env (eval o X.env) = eval o X.env := by rfl)
  (hfew : ((backTo cpos (starEach (e :: es) X.env)).all (fun x => !x.1) && (backToKw cpos (keywordEach [] X.env)).all (fun x => x.1.isSome)
   && decide ((e :: es).length + ([] : List Keyword).length + (if ([] : List Keyword).isEmpty then 0 else 1) < 30)) = true := by rfl)
  (hline : (apos.endLine == cpos.line) = true := by rfl) (hs : starEach (e :: es) X.env = (false, eval e X.env) :: starEach es X.env := by rfl) (hplain : (backTo cpos (starEach es X.env)).any (·.1) = false := by rfl) :
  PE X (.Call (.Attribute o name apos) (e :: es) [] cpos) (tBM X.K T r to t) := by
 intro pins s σ H Q I h
 refine wpAny_Call_method_late hbase hfew hline rfl (thn (ho pins s σ H _ I h) fun v s1 ⟨x, H1, I1, r1, ty, q1⟩ => ?_)
 obtain ⟨h1, h2⟩ := tyV_is I1 r1 ty
 refine ⟨T, id, pa, slot, hty, h1, h2, ?_⟩
 have hA := ha cpos pins s1 σ H1 _ I1 q1
 rw [hs] at hA ⊢
 refine Calls.callWith_builtin (by show (false || (backTo cpos (starEach es X.env)).any (·.1)) = false; rw [hplain] <;> rfl) (Calls.evalArgs_plain ?_)
 exact thn hA fun us s2 ⟨vs, H2, I2, r2, q2⟩ => hm pins s2 σ H2 x vs v us Q I2 r1 r2 q2
end
end L2
namespace L2
open PySem PySem.Spec PyProof.Rows
def MtM (X : Cx) (id : String) (r : V → List V → Hp → VK → Prop) : Prop :=
 ∀ (pins : List (Addr × Obj)) (s : Shared) (σ : St) (H : Hp) (x : V) (xs : List V) (v : Value) (us : List Value) (Q : VK), Inv X pins σ H s → RelV x v → Vals xs us → r x xs H Q →
  wpAny (model X.prog X.w) X.A (call (.builtin id) (v :: us)) (EP X pins σ Q) X.xe s
theorem Vals.one : ∀ {x : V} {us : List Value}, Vals [x] us → ∃ u, us = [u] ∧ RelV x u
 | _, _, .cons r .nil => ⟨_, rfl, r⟩
theorem Vals.zero : ∀ {us : List Value}, Vals [] us → us = []
 | _, .nil => rfl
theorem Vals.dropLast {xs : List V} {us : List Value} (h : Vals xs us) : Vals xs.dropLast us.dropLast := by
 induction h with
 | nil => exact .nil
 | cons r t ih =>
  cases t with
  | nil => exact .nil
  | cons q t' => exact .cons r ih
theorem erase_last {α : Type} (l : List α) : l.eraseIdx (l.length - 1) = l.dropLast := by
 induction l with
 | nil => rfl
 | cons a r ih =>
  cases r with
  | nil => rfl
  | cons b r =>
   have e : (a :: b :: r).length - 1 = ((b :: r).length - 1) + 1 := by
    have h1 : (a :: b :: r).length = r.length + 2 := rfl
    have h2 : (b :: r).length = r.length + 1 := rfl
    omega
   rw [e, List.eraseIdx_cons_succ, ih]
   all_goals rfl
section
variable {X : Cx} {pins : List (Addr × Obj)} {σ : St} {H : Hp} {s : Shared} {l b : Addr} {xs ys zs : List V}
theorem Inv.lset {its its' : List Value} {n : Nat} {f : Array Value → Array Value} {t' : Nat} (I : Inv X pins σ H s) (hH : H l = some (.lst xs))
  (e : s.heap.get? l = some { cls := .type "list", data := .seq its.toArray n }) (hf : f its.toArray = its'.toArray) (hv : Vals ys its') (hz : ys.length ≤ sizeLine) :
  Inv X pins σ (upd H l (.lst ys)) { s with heap := s.heap.update l (Obj.mapSeq f), toks := t' } := by
 have q := PySem.IsL.update e f
 rw [hf] at q
 refine I.write (x := l) (e := l) (by rw [hH]; exact trivial) (.inl rfl) (fun b' u hb hu => (Heap.get?_update_other s.heap (Obj.mapSeq f) (Ne.symm hb)).trans hu) ⟨_, q⟩ ?_
 exact ⟨hz, its', _, hv, q⟩
theorem Inv.lnew {its : List Value} {t' : Nat} (I : Inv X pins σ H s) (hv : Vals ys its) (hz : ys.length ≤ sizeLine) :
  Inv X pins σ (upd H s.heap.objs.size (.lst ys)) { s with heap := s.heap.push { cls := .type "list", data := .seq its.toArray }, toks := t' } :=
 I.laid (fun _ _ q => Heap.get?_push_of_some _ q) (Nat.le_refl _) ⟨hz, its, 0, hv, Heap.get?_push_size _ rfl⟩
theorem Inv.fresh (I : Inv X pins σ H s) : H s.heap.objs.size = none := I.hok.fresh (Nat.le_refl _)
theorem Inv.lstM (I : Inv X pins σ H s) (hH : H l = some (.lst xs)) : xs.length ≤ sizeLine ∧ ∃ (its : List Value) (n : Nat), Vals xs its ∧ xs.length = its.length ∧ s.heap.get? l = some { cls := .type "list", data := .seq its.toArray n } := by
 obtain ⟨z, its, n, r, e⟩ := I.hok l _ hH
 exact ⟨z, its, n, r, r.length, e⟩
theorem notLongL {n : Nat} (h : n ≤ sizeLine) : Builtin.List.listTooLong n = false := by
 unfold Builtin.List.listTooLong
 exact decide_eq_false (by omega)
end
section
variable {X : Cx}
def rAppend : V → List V → Hp → VK → Prop := fun x vs H Q => ∃ l xs y, x = .ref l ∧ vs = [y] ∧ H l = some (.lst xs) ∧ xs.length < sizeLine ∧ Q .non (upd H l (.lst (xs ++ [y])))
theorem mt_append : MtM X "list.append" rAppend := by
 intro pins s σ H x vs v us Q I rx rv h
 obtain ⟨l, xs, y, rfl, rfl, hH, hz, q⟩ := h
 cases rx
 obtain ⟨u, rfl, ru⟩ := rv.one
 obtain ⟨z, its, n, r, hl, e⟩ := I.lstM hH
 refine call_meets F.slot_list_append ⟨_, e, rfl⟩ F.entry_list_append (F.args_list_append_2 _ _) (PySem.list_append l its.toArray n u (by rw [List.size_toArray]; omega)) ⟨e, ?_⟩
 refine ⟨.non, _, I.lset (its' := its ++ [u]) hH e (by simp) (r.append (.cons ru .nil)) ?_, rfl, q⟩
 rw [List.length_append, List.length_singleton]
 omega
def rExtend : V → List V → Hp → VK → Prop := fun x vs H Q => ∃ l b xs zs, x = .ref l ∧ vs = [.ref b] ∧ H l = some (.lst xs) ∧ H b = some (.lst zs) ∧ xs.length + zs.length ≤ sizeLine ∧ Q .non (upd H l (.lst (xs ++ zs)))
theorem mt_extend : MtM X "list.extend" rExtend := by
 intro pins s σ H x vs v us Q I rx rv h
 obtain ⟨l, b, xs, zs, rfl, rfl, hH, hB, hz, q⟩ := h
 cases rx
 obtain ⟨u, rfl, ru⟩ := rv.one
 cases ru
 obtain ⟨z, its, n, r, hl, e⟩ := I.lstM hH
 obtain ⟨z2, its2, n2, r2, hl2, e2⟩ := I.lstM hB
 have hsz : its.toArray.size + its2.toArray.size ≤ sizeLine := by rw [List.size_toArray, List.size_toArray]; omega
 have hlong : ¬ (!its.toArray.isEmpty && Builtin.List.listTooLong (its.toArray.size + its2.toArray.size)) = true := by
  rw [notLongL hsz, Bool.and_false]
  exact Bool.false_ne_true
 refine call_meets F.slot_list_extend ⟨_, e, rfl⟩ F.entry_list_extend (F.args_list_extend_2 _ _)
  (AutoSeq1.list_extend_list_list_0 l its.toArray n b its2.toArray n2 hlong (by rw [List.size_toArray]; omega) (by omega)) ⟨e, e2, ?_⟩
 refine ⟨.non, _, I.lset (its' := its ++ its2) hH e (by simp) (r.append r2) ?_, rfl, q⟩
 rw [List.length_append]
 omega
def rPop : V → List V → Hp → VK → Prop := fun x vs H Q => ∃ l xs y, x = .ref l ∧ vs = [] ∧ H l = some (.lst xs) ∧ xs[xs.length - 1]? = some y ∧ Q y (upd H l (.lst xs.dropLast))
theorem mt_pop : MtM X "list.pop" rPop := by
 intro pins s σ H x vs v us Q I rx rv h
 obtain ⟨l, xs, y, rfl, rfl, hH, hy, q⟩ := h
 cases rx
 have hus := rv.zero
 subst hus
 obtain ⟨z, its, n, r, hl, e⟩ := I.lstM hH
 obtain ⟨u, hu, ru⟩ := r.get hy
 have hy' : its.toArray[its.toArray.size - 1]? = some u := by
  show its.toArray[its.length - 1]? = some u
  rw [← Array.getElem?_toList, ← hl]
  exact hu
 refine call_meets F.slot_list_pop ⟨_, e, rfl⟩ F.entry_list_pop (F.args_list_pop_1 _) (MeetsSeq.list_pop_last l its.toArray n u hy' (by rw [List.size_toArray]; omega)) ⟨e, ?_⟩
 refine ⟨y, _, I.lset (its' := its.dropLast) hH e ?_ r.dropLast ?_, ru, q⟩
 ·show its.toArray.eraseIdxIfInBounds (its.toArray.size - 1) = its.dropLast.toArray
  rw [List.size_toArray, List.eraseIdxIfInBounds_toArray, erase_last]
 ·rw [List.length_dropLast]
  omega
def rCat : R2 := fun x y H Q => ∃ l b xs zs, x = .ref l ∧ y = .ref b ∧ H l = some (.lst xs) ∧ H b = some (.lst zs) ∧ xs.length + zs.length ≤ sizeLine ∧ ∀ p, H p = none → Q (.ref p) (upd H p (.lst (xs ++ zs)))
theorem op_cat : OpR X (binaryOp .Add) rCat := by
 intro pins s σ H x y v u Q I rx ry h
 obtain ⟨l, b, xs, zs, rfl, rfl, hH, hB, hz, q⟩ := h
 cases rx
 cases ry
 obtain ⟨z, its, n, r, hl, e⟩ := I.lstM hH
 obtain ⟨z2, its2, n2, r2, hl2, e2⟩ := I.lstM hB
 refine PySem.P.add_list e e2 ?_ (by rw [List.size_toArray, List.size_toArray]; omega)
 have ea : its.toArray ++ its2.toArray = (its ++ its2).toArray := by simp
 rw [ea]
 exact ⟨.ref _, _, I.lnew (t' := s.toks) (r.append r2) (by rw [List.length_append]; omega), rfl, q _ I.fresh⟩
end
section
variable {prog : Program} {w : World} {A : Around} {E : Value → Shared → Prop} {s : Shared}
end
section
variable {X : Cx}
end
end L2
namespace L2
open PySem PySem.Spec PyProof.Rows
theorem Vals.ints : ∀ {ns : List Int} {us : List Value}, Vals (ns.map V.int) us → IntsAre us ns
 | [], us, h => by
  rw [List.map_nil] at h
  cases h
  exact IntsAre.nil
 | n :: ns, us, h => by
  rw [List.map_cons] at h
  cases h with
  | cons r t =>
   obtain ⟨k, rfl⟩ := r
   exact IntsAre.cons n k (Vals.ints t)
theorem Vals.bls : ∀ {bs : List Bool} {us : List Value}, Vals (bs.map V.bl) us → us = bs.map Value.bool
 | [], us, h => by
  rw [List.map_nil] at h
  cases h
  rfl
 | b :: bs, us, h => by
  rw [List.map_cons] at h
  cases h with
  | cons r t =>
   cases r
   rw [Vals.bls t, List.map_cons]
theorem Vals.ref1 {a : Addr} {us : List Value} (r : Vals [V.ref a] us) : us = [Value.ref a] := by
 cases r with
 | cons r t =>
  cases t
  cases r
  rfl
section
variable {prog : Program} {w : World} {A : Around} {E : Value → Shared → Prop} {s : Shared} {l : Addr} {its : List Value} {ns : List Int} {Q : Value → Shared → Prop}
theorem sum_raw (hh : A.handled = none) (hl : s.heap.IsList l its.toArray) (hi : IntsAre its ns)
  (h : ∀ h' tk t', (∀ b o, s.heap.get? b = some o → h'.get? b = some o) → Q (.int ns.sum t') { s with heap := h', toks := tk }) : wpAny (model prog w) A (call (.builtin "sum") [.ref l]) Q E s := by
 obtain ⟨xs, e⟩ := hi.allInts.items
 have hn : numsOf (intItems xs).toList = ns := by rw [← e]; exact hi.numsOf
 rw [nums_intItems] at hn
 rw [e] at hl
 refine PySem.sum_intListG hh hl fun h' tk t' hk => ?_
 have := h h' tk t' hk
 rw [preSum_eq, List.take_of_length_le (by simp), hn]; exact this
theorem max_raw (hh : A.handled = none) (hl : s.heap.IsList l its.toArray) (hi : IntsAre its ns) (hne : 0 < ns.length)
  (h : ∀ h' tk M t', (∀ b o, s.heap.get? b = some o → h'.get? b = some o) → M ∈ ns → (∀ a, a ∈ ns → a ≤ M) → Q (.int M t') { s with heap := h', toks := tk }) : wpAny (model prog w) A (call (.builtin "max") [.ref l]) Q E s := by
 obtain ⟨xs, e⟩ := hi.allInts.items
 have hn : numsOf (intItems xs).toList = ns := by rw [← e]; exact hi.numsOf
 rw [nums_intItems] at hn
 subst hn
 rw [e] at hl
 have hsz : 0 < xs.size := by simpa using hne
 refine PySem.max_intList hh hl hsz fun v h' tk hv hk => ?_
 obtain ⟨t, rfl⟩ := intItems_at hv
 obtain ⟨h1, h2⟩ := argBest_gt (numAt xs) (xs.size - 1)
 refine h h' tk _ t hk ?_ fun a ha => ?_
 ·rw [numAt_eq]; exact PySem.getD_mem (by rw [List.length_map, Array.length_toList]; omega)
 ·obtain ⟨j, hj, rfl⟩ := mem_getD ha
  rw [List.length_map, Array.length_toList] at hj
  rw [← numAt_eq]; exact h2 j (by omega)
end
section
variable {X : Cx}
def rSum (K : PySem.W.Frag) : List V → Hp → VK → Prop := fun vs H Q => ∃ (a : Addr) (ns : List Int), vs = [V.ref a] ∧ SqL K H a (ns.map V.int) ∧ Q (.int ns.sum) H
def rMax (K : PySem.W.Frag) : List V → Hp → VK → Prop := fun vs H Q => ∃ (a : Addr) (ns : List Int), vs = [V.ref a] ∧ SqL K H a (ns.map V.int) ∧ 0 < ns.length ∧ ∀ m, m ∈ ns → (∀ y, y ∈ ns → y ≤ m) → Q (.int m) H
theorem cr_sum (hc : X.calm = true) : CallR X (.builtin "sum") (rSum X.K) := by
 intro pins s σ H vs us Q I r h
 obtain ⟨a, ns, rfl, hs, q⟩ := h
 obtain ⟨its, rv, hl, _⟩ := I.list hs
 rw [Vals.ref1 r]
 exact sum_raw (I.ok.hd hc) hl.isList rv.ints fun h' tk t' hk => ⟨.int _, H, I.kept hk, ⟨_, rfl⟩, q⟩
theorem cr_max (hc : X.calm = true) : CallR X (.builtin "max") (rMax X.K) := by
 intro pins s σ H vs us Q I r h
 obtain ⟨a, ns, rfl, hs, hne, q⟩ := h
 obtain ⟨its, rv, hl, _⟩ := I.list hs
 rw [Vals.ref1 r]
 exact max_raw (I.ok.hd hc) hl.isList rv.ints hne fun h' tk m t' hk h1 h2 => ⟨.int _, H, I.kept hk, ⟨_, rfl⟩, q m h1 h2⟩
end
section
variable {X : Cx}
end
section
variable {X : Cx}
end
theorem iter_any {prog : Program} {w : World} {A : Around} {E : Value → Shared → Prop} {s : Shared} {l : Addr} {items : Array Value} {Q : Value → Shared → Prop} (hl : s.heap.IsList l items)
  (h : ∀ s₂ : Shared, s₂ = { s with heap := s.heap.push { cls := .type "list_iterator", data := .fields #[.ref l, .int 0 0] } } →
   (s₂.heap.IsListIter s.heap.objs.size l 0 ∧ s₂.heap.IsList l items) → l ≠ s.heap.objs.size → Q (.ref s.heap.objs.size) s₂) : wpAny (model prog w) A (pyIter (.ref l)) Q E s := by
 have hlt : l < s.heap.objs.size := by obtain ⟨_, e, _⟩ := hl; exact Heap.lt_size e
 exact wpAny_pyIter_list hl (h _ rfl ⟨⟨_, Heap.get?_push_size _ rfl, rfl, rfl⟩, hl.push _⟩ (Nat.ne_of_lt hlt))
theorem truth_bools {prog : Program} {w : World} {A : Around} {bs : List Bool} {its : List Value} (e : its = bs.map Value.bool) :
  TruthOf prog w A (fun i v => its.toArray[i]? = some v) (fun i => bs.getD i false) := fun i v s Q E hv hq => by
 have hv' : its[i]? = some v := by simpa using hv
 rw [e, List.getElem?_map] at hv'
 obtain ⟨b, hb, rfl⟩ := Option.map_eq_some_iff.mp hv'
 have hg : bs.getD i false = b := by rw [List.getD_eq_getElem?_getD, hb] <;> rfl
 have hq' : Q (bs.getD i false) s := hq
 rw [hg] at hq'
 exact wpAny_truthy_bool hq'
theorem any_range : ∀ bs : List Bool, (List.range bs.length).any (fun i => bs.getD i false) = bs.any id
 | [] => rfl
 | b :: bs => by
  rw [List.length_cons, List.range_succ_eq_map, List.any_cons, List.any_map, List.any_cons, ← any_range bs]
  all_goals rfl
theorem all_range : ∀ bs : List Bool, (List.range bs.length).all (fun i => bs.getD i false) = bs.all id
 | [] => rfl
 | b :: bs => by
  rw [List.length_cons, List.range_succ_eq_map, List.all_cons, List.all_map, List.all_cons, ← all_range bs]
  all_goals rfl
section
variable {X : Cx}
def rAll (K : PySem.W.Frag) : List V → Hp → VK → Prop := fun vs H Q => ∃ (a : Addr) (bs : List Bool), vs = [V.ref a] ∧ SqL K H a (bs.map V.bl) ∧ Q (.bl (bs.all id)) H
theorem cr_all (hc : X.calm = true) : CallR X (.builtin "all") (rAll X.K) := by
 intro pins s σ H vs us Q I r h
 obtain ⟨a, bs, rfl, hs, q⟩ := h
 obtain ⟨its, rv, hl, _⟩ := I.list hs
 rw [Vals.ref1 r]
 have hb := rv.bls
 refine call_all_walk (iter_any hl.isList fun s₂ e2 st hne => ?_)
 subst e2
 refine ⟨_, _, _, _, _, _, _, rfl, Walks.list (A := X.A.in1) (I.ok.hd hc) _ a hne its.toArray, st, truth_bools hb, fun h' tk hk => ?_⟩
 refine ⟨.bl _, H, I.kept fun b o eo => hk b o (fun hmem => ?_) (Heap.get?_push_of_some _ eo), ?_, q⟩
 ·rcases List.mem_cons.mp hmem with e1 | hmem
  ·exact absurd (e1 ▸ Heap.lt_size eo) (Nat.lt_irrefl _)
  ·cases hmem
 ·show Value.bool _ = Value.bool _
  rw [← all_range, hb, List.size_toArray, List.length_map]
end
section
variable {X : Cx} {pins : List (Addr × Obj)} {σ : St} {H : Hp} {s : Shared}
end
section
variable {X : Cx}
end
end L2
namespace L2
open PySem PySem.Spec PyProof.Rows
abbrev CellAt (h : Heap) (c : Addr) (v : Option Value) : Prop := h.IsCell c v
def relS (scope sc : Scope) : Scope :=
 { scope with names := scope.names.map fun (n, k) => if (k == .free && sc.kind == .function && sc.names.lookup n == some .cell) then (n, .cell) else (n, k) }
def cloFrom (cells : List (Str × Addr)) : List (Str × NameKind) → List (Str × Addr) → List (Str × Addr)
 | [], acc => acc
 | (n, k) :: r, acc => if k == .free then cloFrom cells r ((n, (cells.lookup n).getD 0) :: acc) else cloFrom cells r acc
theorem closure_loop (env : Env) (f : Str × NameKind → List (Str × Addr) → Sem (ForInStep (List (Str × Addr))))
  (hf : ∀ n k c, f (n, k) c = if k == .free then (do let a ← cellOf env n; pure (.yield ((n, a) :: c))) else pure (.yield c)) :
  ∀ (names : List (Str × NameKind)) (acc : List (Str × Addr)), (∀ y ∈ names, y.2 = .free → ∃ c, env.cells.lookup y.1 = some c) → forIn names acc f = pure (cloFrom env.cells names acc)
 | [], acc, _ => by rw [List.forIn_nil]; rfl
 | (n, k) :: r, acc, h => by
  rw [List.forIn_cons, hf]
  have ih := fun acc => closure_loop env f hf r acc fun y hy => h y (List.mem_cons_of_mem _ hy)
  unfold cloFrom
  by_cases hk : (k == NameKind.free) = true
  ·rw [if_pos hk, if_pos hk]
   obtain ⟨c, hc⟩ := h (n, k) List.mem_cons_self (by simpa using hk)
   have e : cellOf env n = pure c := by unfold cellOf; rw [hc]
   rw [e]
   have e2 : (env.cells.lookup n).getD 0 = c := by rw [hc]; rfl
   rw [e2]
   exact ih _
  ·rw [if_neg hk, if_neg hk]
   exact ih _
theorem closure_ok {scope : Scope} {env : Env} (h : ∀ y ∈ scope.names, y.2 = .free → ∃ c, env.cells.lookup y.1 = some c) : closureFor scope env = pure (cloFrom env.cells scope.names []) := by
 simp only [closureFor]
 rw [closure_loop env _ (fun n k c => rfl) scope.names [] h]
 rfl
theorem mem_lookup {α : Type} : ∀ {l : List (Str × α)} {n : Str} {c : α}, (n, c) ∈ l → ∃ c', l.lookup n = some c'
 | (k, v) :: r, n, c, h => by
  rw [List.lookup_cons]
  cases hb : n == k with
  | true => exact ⟨_, rfl⟩
  | false =>
   rcases List.mem_cons.mp h with e | h
   ·cases e; simp at hb
   ·exact mem_lookup h
theorem cloFrom_mem {cells : List (Str × Addr)} : ∀ {names : List (Str × NameKind)} {acc : List (Str × Addr)} {n : Str} {c : Addr}, (n, c) ∈ cloFrom cells names acc → (n, c) ∈ acc ∨ ((n, .free) ∈ names ∧ c = (cells.lookup n).getD 0)
 | [], _, _, _, h => .inl h
 | (m, k) :: r, acc, n, c, h => by
  unfold cloFrom at h
  split at h
  ·rename_i hk
   have hk : k = .free := by simpa using hk
   rcases cloFrom_mem h with h | ⟨h1, h2⟩
   ·rcases List.mem_cons.mp h with e | h
    ·cases e; exact .inr ⟨hk ▸ List.mem_cons_self, rfl⟩
    ·exact .inl h
   ·exact .inr ⟨List.mem_cons_of_mem _ h1, h2⟩
  ·rcases cloFrom_mem h with h | ⟨h1, h2⟩
   ·exact .inl h
   ·exact .inr ⟨List.mem_cons_of_mem _ h1, h2⟩
theorem cloFrom_acc {cells : List (Str × Addr)} : ∀ {names : List (Str × NameKind)} {acc : List (Str × Addr)} {p : Str × Addr}, p ∈ acc → p ∈ cloFrom cells names acc
 | [], _, _, h => h
 | (m, k) :: r, acc, p, h => by
  unfold cloFrom
  split
  ·exact cloFrom_acc (List.mem_cons_of_mem _ h)
  ·exact cloFrom_acc h
theorem cloFrom_has {cells : List (Str × Addr)} : ∀ {names : List (Str × NameKind)} {acc : List (Str × Addr)} {n : Str}, (n, .free) ∈ names → (n, (cells.lookup n).getD 0) ∈ cloFrom cells names acc
 | (m, k) :: r, acc, n, h => by
  unfold cloFrom
  rcases List.mem_cons.mp h with e | h
  ·cases e
   exact cloFrom_acc List.mem_cons_self
  ·split
   ·exact cloFrom_has h
   ·exact cloFrom_has h
theorem cells_mem : ∀ {names : List (Str × NameKind)} {h : Heap} {acc : List (Str × Addr)} {x : Str} {c : Addr}, (x, c) ∈ cellsFrom h.objs.size names acc →
  (x, c) ∈ acc ∨ ((x, .cell) ∈ names ∧ h.objs.size ≤ c ∧ CellAt (pushCells h names) c none)
 | [], _, _, _, _, h => .inl h
 | (n, k) :: r, h, acc, x, c, hm => by
  unfold cellsFrom at hm
  unfold pushCells
  split at hm
  ·rename_i hk
   rw [if_pos hk]
   have hk : k = .cell := by simpa using hk
   rw [← Heap.size_push h { cls := .type "cell", data := .cell none }] at hm
   rcases cells_mem hm with hm | ⟨h1, h2, h3⟩
   ·rcases List.mem_cons.mp hm with e | hm
    ·cases e
     exact .inr ⟨hk ▸ List.mem_cons_self, Nat.le_refl _, _, pushCells_keeps r _ _ _ (Heap.get?_push_size _ rfl), rfl⟩
    ·exact .inl hm
   ·rw [Heap.size_push] at h2
    exact .inr ⟨List.mem_cons_of_mem _ h1, Nat.le_of_succ_le h2, h3⟩
  ·rename_i hk
   rw [if_neg hk]
   rcases cells_mem hm with hm | ⟨h1, h2, h3⟩
   ·exact .inl hm
   ·exact .inr ⟨List.mem_cons_of_mem _ h1, h2, h3⟩
theorem cells_acc : ∀ {names : List (Str × NameKind)} {n : Nat} {acc : List (Str × Addr)} {p : Str × Addr}, p ∈ acc → p ∈ cellsFrom n names acc
 | [], _, _, _, h => h
 | (m, k) :: r, n, acc, p, h => by
  unfold cellsFrom
  split
  ·exact cells_acc (List.mem_cons_of_mem _ h)
  ·exact cells_acc h
theorem cells_has : ∀ {names : List (Str × NameKind)} {n : Nat} {acc : List (Str × Addr)} {x : Str}, (x, .cell) ∈ names → ∃ c, (x, c) ∈ cellsFrom n names acc
 | (m, k) :: r, n, acc, x, h => by
  unfold cellsFrom
  rcases List.mem_cons.mp h with e | h
  ·cases e
   exact ⟨n, cells_acc List.mem_cons_self⟩
  ·split
   ·exact cells_has h
   ·exact cells_has h
theorem cells_inj : ∀ {names : List (Str × NameKind)} {h : Heap} {acc : List (Str × Addr)} {x y : Str} {c : Addr}, (∀ p ∈ acc, p.2 < h.objs.size) → (∀ x y c, (x, c) ∈ acc → (y, c) ∈ acc → x = y) →
  (x, c) ∈ cellsFrom h.objs.size names acc → (y, c) ∈ cellsFrom h.objs.size names acc → x = y
 | [], _, _, _, _, _, _, hi, h1, h2 => hi _ _ _ h1 h2
 | (n, k) :: r, h, acc, x, y, c, hl, hi, h1, h2 => by
  unfold cellsFrom at h1 h2
  split at h1
  ·rename_i hk
   rw [if_pos hk] at h2
   rw [← Heap.size_push h { cls := .type "cell", data := .cell none }] at h1 h2
   refine cells_inj (h := h.push _) (fun p hp => ?_) (fun x y c a b => ?_) h1 h2
   ·rw [Heap.size_push]
    rcases List.mem_cons.mp hp with rfl | hp
    ·exact Nat.lt_succ_self _
    ·exact Nat.lt_succ_of_lt (hl p hp)
   ·rcases List.mem_cons.mp a with e | a <;> rcases List.mem_cons.mp b with e' | b
    ·cases e; cases e'; rfl
    ·cases e; exact absurd (hl _ b) (Nat.lt_irrefl _)
    ·cases e'; exact absurd (hl _ a) (Nat.lt_irrefl _)
    ·exact hi _ _ _ a b
  ·rename_i hk
   rw [if_neg hk] at h2
   exact cells_inj hl hi h1 h2
theorem newEnv_comp {M : Model} {A : Around} {E : Value → Shared → Prop} {s : Shared} {scope : Scope} {globals : Addr} {closure : List (Str × Addr)} {qual : Str} {func : Option Addr} {code : Value} {around : Env} {builtins : Addr} {Q : Env → Shared → Prop}
  (h : Q (newEnv scope s.heap.objs.size globals (cellsFrom (s.heap.objs.size + 1) scope.names closure) qual func code (some around) builtins)
   { s with heap := pushCells (s.heap.push { cls := .type "dict", data := .dict #[] }) scope.names }) :
  wpAny M A (newFunctionEnv scope globals closure [] qual func code (some around) builtins) Q E s := by
 simp only [newFunctionEnv, Option.isSome_some, if_true]
 refine wpAny_bind (wpAny_alloc ?_)
 refine wpAny_bind (wpAny_layCells _ (fun n k c => rfl) scope.names closure _ _ ?_)
 rw [show ({ s with heap := s.heap.push { cls := .type "dict", data := .dict #[] } } : Shared).heap.objs.size = s.heap.objs.size + 1 from Heap.size_push ..]
 rw [List.forIn_nil]
 exact wpAny_bind (wpAny_pure (wpAny_pure h))
theorem lookup_relS {sc : Scope} : ∀ {names : List (Str × NameKind)} {x : Str} {k : NameKind},
  (names.map fun (n, k) => if (k == NameKind.free && sc.kind == .function && sc.names.lookup n == some .cell) then (n, NameKind.cell) else (n, k)).lookup x = some k →
  ∃ k', names.lookup x = some k' ∧ (k = k' ∨ (k' = .free ∧ k = .cell))
 | [], _, _, h => by simp at h
 | (n, k₀) :: r, x, k, h => by
  have ih := @lookup_relS sc r x k
  have h' : List.lookup x ((if (k₀ == NameKind.free && sc.kind == .function && sc.names.lookup n == some .cell) = true then (n, NameKind.cell) else (n, k₀)) :: (r.map _)) = some k := h
  cases hx : x == n with
  | true =>
   simp only [List.lookup_cons, hx]
   by_cases hc : (k₀ == NameKind.free && sc.kind == .function && sc.names.lookup n == some .cell) = true
   ·rw [if_pos hc] at h'
    simp only [List.lookup_cons, hx] at h'
    cases h'
    simp only [Bool.and_eq_true, beq_iff_eq] at hc
    exact ⟨k₀, rfl, .inr ⟨hc.1.1, rfl⟩⟩
   ·rw [if_neg hc] at h'
    simp only [List.lookup_cons, hx] at h'
    cases h'
    exact ⟨_, rfl, .inl rfl⟩
  | false =>
   simp only [List.lookup_cons, hx]
   by_cases hc : (k₀ == NameKind.free && sc.kind == .function && sc.names.lookup n == some .cell) = true
   ·rw [if_pos hc] at h'
    simp only [List.lookup_cons, hx] at h'
    exact ih h'
   ·rw [if_neg hc] at h'
    simp only [List.lookup_cons, hx] at h'
    exact ih h'
structure BlkOk (N : List Str) (sc scope : Scope) (own : List (Str × Nat)) : Prop where
 kind : scope.kind = .function
 uniq : ∀ y ∈ scope.names, scope.names.lookup y.1 = some y.2
 ix : ∀ p ∈ own, N[p.2]? = some p.1
 free : ∀ y ∈ scope.names, y.2 = .free → sc.names.lookup y.1 = some .cell ∨ sc.names.lookup y.1 = some .free
 own : ∀ y ∈ scope.names, y.2 = .local ∨ y.2 = .cell → y.1 ∈ own.map (·.1) ∨ y.1 ∉ N
def wipe (σ : St) : List Nat → St
 | [] => σ
 | v :: vs => (wipe σ vs).set v none
theorem wipe_length (σ : St) : ∀ vs : List Nat, (wipe σ vs).length = σ.length
 | [] => rfl
 | v :: vs => by unfold wipe; rw [List.length_set, wipe_length σ vs]
theorem wipe_some {σ : St} {i : Nat} {x : V} : ∀ {vs : List Nat}, (wipe σ vs)[i]? = some (some x) → σ[i]? = some (some x) ∧ i ∉ vs
 | [], h => ⟨h, by simp⟩
 | v :: vs, h => by
  unfold wipe at h
  by_cases hi : v = i
  ·subst hi
   by_cases hv : v < (wipe σ vs).length
   ·rw [List.getElem?_set_self hv] at h; cases h
   ·rw [List.getElem?_eq_none (by simpa using hv)] at h; cases h
  ·rw [List.getElem?_set_ne hi] at h
   obtain ⟨h1, h2⟩ := wipe_some h
   exact ⟨h1, by simp only [List.mem_cons, not_or]; exact ⟨fun e => hi e.symm, h2⟩⟩
abbrev Cx.blk (X : Cx) (s : Shared) (H : Hp) (scope : Scope) (cenv : Env) (fp : List Addr) : Cx := { X with s_0 := s, H_0 := H, env := cenv, outer := X.stack, ex := fp, fn := fun x => scope.names.lookup x == some .cell, pn := [], xe := fun _ _ => False }
section
variable {X : Cx} {pins : List (Addr × Obj)} {σ : St} {H : Hp} {s : Shared}
theorem block_start {scope : Scope} {own : List (Str × Nat)} {fp : List Addr} (I : Inv X pins σ H s) (ok : BlkOk X.N X.env.scope scope own) (hN : X.N.Nodup) (hfp : ∀ b ∈ fp, FpOk X pins H b ∧ b < s.heap.objs.size) :
  Inv (X.blk s H scope (compEnvC scope (cellsFrom (s.heap.objs.size + 1) scope.names (cloFrom X.env.cells scope.names [])) s.heap.objs.size X.env) fp) [] (wipe σ (own.map (·.2))) H { s with heap := pushCells (s.heap.push { cls := .type "dict", data := .dict #[] }) scope.names } := by
 have hfree : ∀ y ∈ scope.names, y.2 = .free → ∃ c, X.env.cells.lookup y.1 = some c := fun y hy e => by
  rcases ok.free y hy e with k | k
  ·exact I.ok.has _ (.inl k)
  ·exact I.ok.has _ (.inr k)
 generalize hcenv : compEnvC scope (cellsFrom (s.heap.objs.size + 1) scope.names (cloFrom X.env.cells scope.names [])) s.heap.objs.size X.env = cenv
 have kp : ∀ b o, s.heap.get? b = some o → (pushCells (s.heap.push { cls := .type "dict", data := .dict #[] }) scope.names).get? b = some o := fun b o e => pushCells_keeps _ _ _ _ (Heap.get?_push_of_some _ e)
 have hL : cenv.locals = s.heap.objs.size := by rw [← hcenv]; rfl
 have hcl : cenv.cells = cellsFrom (s.heap.objs.size + 1) scope.names (cloFrom X.env.cells scope.names []) := by rw [← hcenv]; rfl
 have hsc : cenv.scope = relS scope X.env.scope := by rw [← hcenv]; rfl
 rw [← Heap.size_push s.heap { cls := .type "dict", data := .dict #[] }] at hcl
 have cm : ∀ {y c}, (y, c) ∈ cloFrom X.env.cells scope.names [] → X.env.cells.lookup y = some c ∧ c < s.heap.objs.size := fun {y c} hm => by
  rcases cloFrom_mem hm with hm | ⟨h1, rfl⟩
  ·cases hm
  ·obtain ⟨c, hc⟩ := hfree _ h1 rfl
   rw [hc]
   obtain ⟨w, z⟩ := I.cell _ _ hc
   exact ⟨rfl, z.lt⟩
 have mem : ∀ {y c}, cenv.cells.lookup y = some c → (X.env.cells.lookup y = some c ∧ c < s.heap.objs.size) ∨ (s.heap.objs.size + 1 ≤ c ∧ CellAt (pushCells (s.heap.push { cls := .type "dict", data := .dict #[] }) scope.names) c none) := fun {y c} e => by
  rw [hcl] at e
  rcases cells_mem (PySem.mem_of_lookup e) with hm | ⟨_, h2, h3⟩
  ·exact .inl (cm hm)
  ·rw [Heap.size_push] at h2; exact .inr ⟨h2, h3⟩
 have look : ∀ {y}, scope.names.lookup y = some .free → ∃ c, cenv.cells.lookup y = some c ∧ X.env.cells.lookup y = some c := fun {y} hl => by
  have hy : (y, NameKind.free) ∈ scope.names := PySem.mem_of_lookup hl
  obtain ⟨c', e'⟩ := mem_lookup (cells_acc (names := scope.names) (n := (s.heap.push { cls := .type "dict", data := .dict #[] }).objs.size) (cloFrom_has (cells := X.env.cells) (acc := []) hy))
  rw [← hcl] at e'
  refine ⟨c', e', ?_⟩
  rw [hcl] at e'
  rcases cells_mem (PySem.mem_of_lookup e') with hm | ⟨h1, _, _⟩
  ·exact (cm hm).1
  ·have := ok.uniq _ h1
   rw [hl] at this; cases this
 have okB : (X.blk s H scope cenv fp).Ok := by
  refine ⟨I.ok.mod, by show cenv.scope.kind = _; rw [hsc]; exact ok.kind, by show cenv.globals = _; rw [← hcenv]; exact I.ok.glob, by show cenv.builtins = _; rw [← hcenv]; exact I.ok.blt, by show s.heap.objs.size ≤ cenv.locals; rw [hL]; exact Nat.le_refl _,
   fun y z c e1 e2 => ?_, fun y hy => ?_, fun y c z e => ?_, I.ok.hd, I.ok.frames, .inl rfl, fun b hb => ⟨?_, fun y c e z => ?_⟩, I.bs, Nat.le_trans I.ok.bsz I.sz, fun b o e hb => ?_, fun b hb z => ?_, I.stack, I.stkFree⟩
  ·have e1 : cenv.cells.lookup y = some c := e1
   have e2 : cenv.cells.lookup z = some c := e2
   rw [hcl] at e1 e2
   refine cells_inj (fun p hp => ?_) (fun y z c a b => I.ok.inj y z c (cm a).1 (cm b).1) (PySem.mem_of_lookup e1) (PySem.mem_of_lookup e2)
   rw [Heap.size_push]
   exact Nat.lt_succ_of_lt (cm (y := p.1) (c := p.2) hp).2
  ·show ∃ c, cenv.cells.lookup y = some c
   have key : ∀ k, cenv.kindOf y = some k → (k = .cell ∨ k = .free) → ∃ c, cenv.cells.lookup y = some c := fun k hk hk' => by
    unfold Env.kindOf at hk
    rw [hsc] at hk
    obtain ⟨k', e, r⟩ := lookup_relS hk
    have : k' = .cell ∨ k' = .free := by
     rcases r with rfl | ⟨rfl, _⟩
     ·exact hk'
     ·exact .inr rfl
    rcases this with rfl | rfl
    ·obtain ⟨c, hm⟩ := cells_has (n := (s.heap.push { cls := .type "dict", data := .dict #[] }).objs.size) (acc := cloFrom X.env.cells scope.names []) (PySem.mem_of_lookup e)
     obtain ⟨c', e'⟩ := mem_lookup hm
     exact ⟨c', by rw [hcl]; exact e'⟩
    ·obtain ⟨c, h1, _⟩ := look e
     exact ⟨c, h1⟩
   rcases hy with hy | hy
   ·exact key _ hy (.inl rfl)
   ·exact key _ hy (.inr rfl)
  ·have z : (scope.names.lookup y == some NameKind.cell) = true := z
   have z : scope.names.lookup y = some .cell := by simpa using z
   have e : cenv.cells.lookup y = some c := e
   rw [hcl] at e
   rcases cells_mem (PySem.mem_of_lookup e) with hm | ⟨_, h2, _⟩
   ·rcases cloFrom_mem hm with hm | ⟨h1, _⟩
    ·cases hm
    ·have q := ok.uniq _ h1
     rw [z] at q; cases q
   ·rw [Heap.size_push] at h2
    exact Nat.le_of_succ_le h2
  ·show b ≠ cenv.locals
   rw [hL]; exact Nat.ne_of_lt (hfp b hb).2
  ·have e : cenv.cells.lookup y = some c := e
   rcases mem e with ⟨h1, _⟩ | ⟨h1, _⟩
   ·exact (hfp b hb).1.2.2.2.2.1 y c h1 z
   ·have h2 : s.heap.objs.size + 1 ≤ b := by rw [← z]; exact h1
    exact absurd (Nat.lt_of_lt_of_le (hfp b hb).2 (Nat.le_of_succ_le h2)) (Nat.lt_irrefl _)
  ·rcases (hfp b hb).1.2.2.2.1 with z | z
   ·exact I.ok.noex b o e z
   ·exact absurd (Nat.lt_of_lt_of_le (Heap.lt_size e) (Nat.le_trans I.ok.bsz z)) (Nat.lt_irrefl _)
  ·rcases List.mem_cons.mp (I.stkSub b z) with z | z
   ·exact (hfp b hb).1.2.1 z
   ·exact (hfp b hb).1.2.2.1 z
 refine ⟨okB, rfl, I.bare, Un.kept kp, ⟨fun _ => none, ?_, fun i y av e1 e2 e3 => ?_⟩, fun y c e => ?_, ?_, fun y c e => ?_, fun p hp => ?_, I.hok.kept kp, by rw [wipe_length]; exact I.len⟩
 ·show Heap.Ns _ cenv.locals _
  rw [hL]
  exact Heap.Ns.keeps (Heap.Ns.new ..) fun b o e => pushCells_keeps _ _ _ _ e
 ·obtain ⟨e2, hne⟩ := wipe_some e2
  have hfr : scope.names.lookup y = some .free ∧ (cenv.kindOf y = some .cell ∨ cenv.kindOf y = some .free) := by
   have key : ∀ k, cenv.scope.names.lookup y = some k → k = .local ∨ k = .cell ∨ k = .free → scope.names.lookup y = some .free ∧ (cenv.kindOf y = some .cell ∨ cenv.kindOf y = some .free) := fun k hk hk' => by
    have hk0 := hk
    rw [hsc] at hk
    obtain ⟨k', e, r⟩ := lookup_relS hk
    have no : ¬ (k' = .local ∨ k' = .cell) := fun hh => by
     rcases ok.own _ (PySem.mem_of_lookup e) hh with e' | e'
     ·obtain ⟨p, hp, hpy⟩ := List.mem_map.mp e'
      have e3 := ok.ix p hp
      have : p.1 = y := hpy
      rw [this] at e3
      exact hne (List.mem_map.mpr ⟨p, hp, nodup_ix hN e3 e1⟩)
     ·exact e' (List.mem_of_getElem? e1)
    rcases r with rfl | ⟨rfl, rfl⟩
    ·rcases hk' with rfl | rfl | rfl
     ·exact absurd (.inl rfl) no
     ·exact absurd (.inr rfl) no
     ·exact ⟨e, .inr hk0⟩
    ·exact ⟨e, .inl hk0⟩
   have e3 : Vis cenv.scope y := e3
   rcases e3 with e3 | e3 | e3
   ·exact key _ e3 (.inl rfl)
   ·exact key _ e3 (.inr (.inl rfl))
   ·exact key _ e3 (.inr (.inr rfl))
  obtain ⟨m, hn, hl⟩ := I.loc
  have hvis : Vis X.env.scope y := (ok.free _ (PySem.mem_of_lookup hfr.1) rfl).elim (fun k => .inr (.inl k)) (fun k => .inr (.inr k))
  obtain ⟨w, r, q⟩ := hl i y av e1 e2 hvis
  refine ⟨w, r, .inr ⟨hfr.2, ?_⟩⟩
  obtain ⟨c, h1, h2⟩ := look hfr.1
  rcases q with ⟨k, _⟩ | ⟨_, c', e', z⟩
  ·have k : X.env.scope.names.lookup y = some .local := k
   rcases ok.free _ (PySem.mem_of_lookup hfr.1) rfl with k' | k' <;> rw [show X.env.scope.names.lookup y = _ from k'] at k <;> cases k
  ·rw [h2] at e'; cases e'
   exact ⟨c, h1, z.keeps kp⟩
 ·have e : cenv.cells.lookup y = some c := e
  rcases mem e with ⟨h1, _⟩ | ⟨_, z⟩
  ·obtain ⟨w, z⟩ := I.cell y c h1
   exact ⟨w, z.keeps kp⟩
  ·exact ⟨_, z⟩
 ·show H cenv.locals = none
  rw [hL]; exact I.hok.fresh (Nat.le_refl _)
 ·have e : cenv.cells.lookup y = some c := e
  rcases mem e with ⟨h1, _⟩ | ⟨h1, _⟩
  ·exact I.freeC y c h1
  ·exact I.hok.fresh (Nat.le_of_succ_le h1)
 ·exact absurd (show p ∈ ([] : List (Addr × Obj)) ++ [] from hp) (by simp)
theorem app_ok {E : Value → Shared → Prop} {D : Addr} {xs : List V} {y : V} {v : Value} {Q : Value → Shared → Prop} (I : Inv X pins σ H s) (hD : H D = some (.lst xs)) (hz : xs.length < sizeLine) (r : RelV y v)
  (h : ∀ s', Inv X pins σ (upd H D (.lst (xs ++ [y]))) s' → Q .none s') : wpAny (model X.prog X.w) X.A (call (.builtin "list.append") [.ref D, v]) Q E s := by
 obtain ⟨hz', its, n, ri, e⟩ := I.hok D _ hD
 have hl := ri.length
 refine append_at (hsz := by rw [List.size_toArray]; omega) e fun h' sb ho' => ?_
 refine h { s with heap := h' } (I.write (t' := s.toks) (by rw [hD]; trivial) (.inl rfl) (fun b u hb q => (sb.2 b hb).trans q) ⟨_, ho'⟩ ⟨by rw [List.length_append]; exact hz, its ++ [v], n + 1, ri.append (.cons r .nil), ?_⟩)
 rw [ho']
 simp
def PTs (X : Cx) (ifs : List Expr) (t : TT) : Prop :=
 ∀ (pins : List (Addr × Obj)) (s : Shared) (σ : St) (H : Hp) (Q : Bool → Hp → Prop), Inv X pins σ H s → t σ H Q →
  wpAny (model X.prog X.w) X.A (forIn ifs true fun c r => if r = true then do let ok ← isTrue c X.env (eval c X.env); pure (ForInStep.yield ok) else pure (ForInStep.yield r)) (TP X pins σ Q) X.xe s
def tYes : TT := fun _ H Q => Q true H
theorem pts_nil : PTs X [] tYes := fun _ _ _ H _ I h => wpAny_tests_nil ⟨H, I, h⟩
theorem pts_one {c : Expr} {t : TT} (h : PT X c t) : PTs X [c] t := fun pins s σ H Q I hw => wpAny_tests_one (h pins s σ H Q I hw)
end
theorem thnF {α : Type} {t : Sem α} {Q Q' : α → Shared → Prop} {M : Model} {A : Around} {E : Value → Shared → Prop} {s : Shared} (h : wpAny M A t Q (fun _ _ => False) s) (hQ : ∀ a s, Q a s → Q' a s) : wpAny M A t Q' E s := wpAny_mono h hQ fun _ _ z => False.elim z
theorem compLoop_any {prog : Program} {w : World} {A : Around} {R : Result → Shared → Prop} {s : Shared} {elt target iter : Expr} {ifs : List Expr} {scope : Scope} {pos : Pos} {it acc : Value} {env : Env} (I : Nat → Shared → Prop)
  (turn : ∀ n s, I n s → wpAny (model prog w) A (pyNext it) (fun r s₁ => match r with
   | none => R (.ok .next) s₁
   | some v => wpAny (model prog w) A (letOwnedTupleGo target it v) (fun _ s₁' => wpAny (model prog w) A (assign target env v) (fun _ s₂ =>
     wpAny (model prog w) A (forIn ifs true fun c r => if r = true then do let ok ← isTrue c env (eval c env); pure (ForInStep.yield ok) else pure (ForInStep.yield r)) (fun ok s₃ =>
      if ok = true then wpAny (model prog w) A (eval elt env) (fun x s₄ =>
       wpAny (model prog w) A (call (.builtin "list.append") [acc, x]) (fun _ s₅ => ∃ m, m < n ∧ I m s₅) (notedBy (model prog w) A env fun e s' => R (.error e) s') s₄) (notedBy (model prog w) A env fun e s' => R (.error e) s') s₃
      else ∃ m, m < n ∧ I m s₃) (notedBy (model prog w) A env fun e s' => R (.error e) s') s₂) (notedBy (model prog w) A env fun e s' => R (.error e) s') s₁') (notedBy (model prog w) A env fun e s' => R (.error e) s') s₁) (notedBy (model prog w) A env fun e s' => R (.error e) s') s)
  (n : Nat) (h : I n s) :
  codeAny (model prog w) A (.compLoop (.ListComp elt [⟨target, iter, ifs, 0⟩] scope pos) 0 it acc env) R s := by
 refine codeAny_loop rfl I (fun n s hI => ?_) n h
 show wpAny _ A ((compTurn (.ListComp elt [⟨target, iter, ifs, 0⟩] scope pos) 0 it acc env).onRaise (fun x => do noteFrame x env; theTreesLotGoes x)) _ _ s
 refine wpAny_noted ?_
 rw [compTurn_list]
 refine wpAny_bind (wpAny_standAt (wpAny_bind (wpAny_mono (turn n s hI) (fun r s₁ h₁ => ?_) fun _ _ h' => h')))
 cases r with
 | none => exact wpAny_pure h₁
 | some v =>
  refine wpAny_bind (wpAny_mono h₁ (fun _ s₁' h₁' => ?_) fun _ _ h' => h')
  refine wpAny_bind (wpAny_mono h₁' (fun _ s₂ h₂ => wpAny_bind (wpAny_mono h₂ (fun ok s₃ h₃ => ?_) fun _ _ h' => h')) fun _ _ h' => h')
  cases ok with
  | false => exact wpAny_pure ⟨rfl, h₃⟩
  | true =>
   exact wpAny_bind (wpAny_bind (wpAny_mono h₃ (fun x s₄ h₄ => wpAny_bind (wpAny_mono h₄ (fun _ s₅ h₅ => wpAny_pure (wpAny_pure ⟨rfl, h₅⟩)) fun _ _ h' => h')) fun _ _ h' => h'))
section
variable {X : Cx}
def tLc (wi : TI) (g : TG) (tt : TT) (te : TE) (vs : List Nat) : TE := fun σ H Q => wi σ H fun J H1 => ∀ D, H1 D = none → ∃ W : Nat → Nat → Hp → Prop, (∃ m, W 0 m (upd H1 D (.lst []))) ∧ ∀ i m H, W i m H →
 (J.stop i H ∧ Q (.ref D) H) ∨ (J.go i H ∧ ∃ Nx : Hp → Prop, (∀ H', Nx H' → ∃ m', m' < m ∧ W (i + 1) m' H') ∧ ∀ x H', J.yld i H x H' → g x (wipe σ vs) H' fun σ2 H2 => wipe σ2 vs = wipe σ vs ∧ tt σ2 H2 fun b H3 =>
  if b = true then te σ2 H3 fun y H4 => ∃ acc, H4 D = some (.lst acc) ∧ acc.length < sizeLine ∧ Nx (upd H4 D (.lst (acc ++ [y]))) else Nx H3)
theorem lc_core {pins : List (Addr × Obj)} {s : Shared} {σ : St} {H : Hp} {Q : VK} {elt tg iter : Expr} {ifs : List Expr} {scope : Scope} {own : List (Str × Nat)} {pos pos' : Pos} {wi : TI} {g : TG} {tt : TT} {te : TE} {use : Option (Value → Sem Unit)} {Qf : Value → Shared → Prop}
  (hc : X.calm = true) (hN : X.N.Nodup) (I : Inv X pins σ H s) (hi : PI X tg iter wi) (ok : BlkOk X.N X.env.scope scope own)
  (hg : ∀ (s : Shared) (H : Hp) (C : Addr) (cl : List (Str × Addr)) (fp : List Addr), PG (X.blk s H scope (compEnvC scope cl C X.env) fp) tg g) (ht : ∀ (s : Shared) (H : Hp) (C : Addr) (cl : List (Str × Addr)) (fp : List Addr), PTs (X.blk s H scope (compEnvC scope cl C X.env) fp) ifs tt)
  (he : ∀ (s : Shared) (H : Hp) (C : Addr) (cl : List (Str × Addr)) (fp : List Addr), PE (X.blk s H scope (compEnvC scope cl C X.env) fp) elt te) (hs : ∀ x, foldedSetIterable iter X.env x = pure x)
  (h : tLc wi g tt te (own.map (·.2)) σ H Q)
  (hRR : ∀ D C s' m H', Inv X pins σ H' s' → Q (.ref D) H' → s'.heap.Ns C m → FpOk X pins H' C → compPost (model X.prog X.w) X.A X.xe use Qf (.ref D) C (.ok .next) s') :
  wpAny (model X.prog X.w) X.A (comprehension (.ListComp elt [⟨tg, iter, ifs, 0⟩] scope pos) scope X.env pos' (newList []) false (eval iter X.env) use) Qf X.xe s := by
 have hfree : ∀ y ∈ scope.names, y.2 = .free → ∃ c, X.env.cells.lookup y.1 = some c := fun y hy e => by
  rcases ok.free y hy e with k | k
  ·exact I.ok.has _ (.inl k)
  ·exact I.ok.has _ (.inr k)
 refine wpAny_comprehension_free (use := use) rfl hs (closure_ok hfree) ok.kind (fun y hy e => by rw [ok.uniq y hy, e])
  (thn (hi pins s σ H _ I h) fun xv s1 hx => thn hx fun itv s2 h2 => ?_)
 obtain ⟨it, fp, tn, J, H2, e, I2, T, st2, f2, q⟩ := h2
 subst e
 refine wpAny_newObj_type (newEnv_comp ?_) (by show 0 ≤ sizeLine; decide)
 generalize hD : s2.heap.objs.size = D
 have hDn : H2 D = none := I2.hok.fresh (Nat.le_of_eq hD)
 obtain ⟨W, ⟨m0, w0⟩, turn⟩ := q D hDn
 generalize hs3 : ({ s2 with heap := s2.heap.push { cls := .type "list", data := .seq ([] : List Value).toArray } } : Shared) = s3
 have I3 : Inv X pins σ (upd H2 D (.lst [])) s3 := by
  rw [← hs3]
  refine I2.laid (t' := s2.toks) (fun b o e => Heap.get?_push_of_some _ e) (Nat.le_of_eq hD) ⟨Nat.zero_le _, [], 0, .nil, ?_⟩
  rw [← hD]
  exact Heap.get?_push_size _ rfl
 have h3 : s3.heap = s2.heap.push { cls := .type "list", data := .seq ([] : List Value).toArray } := by rw [← hs3]
 have sz : ∀ b ∈ fp, b < s2.heap.objs.size := fun b hb => by
  obtain ⟨o, e, _⟩ := T.obj _ _ st2 b hb
  exact Heap.lt_size e
 have f3 : ∀ b ∈ fp, FpOk X pins (upd H2 D (.lst [])) b ∧ b < s3.heap.objs.size := fun b hb => by
  have hlt := sz b hb
  refine ⟨⟨?_, (f2 b hb).2⟩, by rw [h3, Heap.size_push]; exact Nat.lt_succ_of_lt hlt⟩
  rw [upd_ne (by rw [← hD]; exact Nat.ne_of_lt hlt)]
  exact (f2 b hb).1
 have st3 : tn 0 s3.heap := T.keep _ _ _ st2 fun b _ o e => by rw [h3]; exact Heap.get?_push_of_some _ e
 have I4 := block_start I3 ok hN f3
 have pg := hg s3 (upd H2 D (.lst [])) s3.heap.objs.size (cellsFrom (s3.heap.objs.size + 1) scope.names (cloFrom X.env.cells scope.names [])) fp
 have pt := ht s3 (upd H2 D (.lst [])) s3.heap.objs.size (cellsFrom (s3.heap.objs.size + 1) scope.names (cloFrom X.env.cells scope.names [])) fp
 have pe := he s3 (upd H2 D (.lst [])) s3.heap.objs.size (cellsFrom (s3.heap.objs.size + 1) scope.names (cloFrom X.env.cells scope.names [])) fp
 show codeAny _ _ (.compStart (.ListComp elt [⟨tg, iter, ifs, 0⟩] scope pos) 0 (.ref it) (.ref D) (compEnvC scope (cellsFrom (s3.heap.objs.size + 1) scope.names (cloFrom X.env.cells scope.names [])) s3.heap.objs.size X.env)) (compPost (model X.prog X.w) X.A X.xe use Qf (.ref D) s3.heap.objs.size) { s3 with heap := pushCells (s3.heap.push { cls := .type "dict", data := .dict #[] }) scope.names }
 have nfp : ∀ b ∈ fp, (upd H2 D (.lst [])) b = none := fun b hb => (f3 b hb).1.1
 generalize hce : compEnvC scope (cellsFrom (s3.heap.objs.size + 1) scope.names (cloFrom X.env.cells scope.names [])) s3.heap.objs.size X.env = ce at I4 pg pt pe ⊢
 have cL : ce.locals = s3.heap.objs.size := by subst hce; rfl
 generalize hH3 : upd H2 D (.lst []) = H3 at I3 I4 pg pt pe w0 nfp f3
 generalize hs4 : ({ s3 with heap := pushCells (s3.heap.push { cls := .type "dict", data := .dict #[] }) scope.names } : Shared) = s4 at I4 ⊢
 have st4 : tn 0 s4.heap := T.keep _ _ _ st3 fun b _ o e => by rw [← hs4]; exact pushCells_keeps _ _ _ _ (Heap.get?_push_of_some _ e)
 have stat : ∀ {σ' : St} {H' : Hp} {s' : Shared}, Inv (X.blk s3 H3 scope ce fp) [] σ' H' s' → (∀ b ∈ fp, H' b = none) → ∀ b ∈ fp, FpOk (X.blk s3 H3 scope ce fp) [] H' b := fun {σ' H' s'} I' hn b hb =>
  ⟨hn b hb, (I'.ok.exf b hb).1, I'.ok.exfs b hb, .inl hb, fun x c e => (I'.ok.exf b hb).2 x c e, fun p hp => absurd (show p ∈ ([] : List (Addr × Obj)) ++ [] from hp) (by simp)⟩
 have loop : codeAny (model X.prog X.w) X.A (.compLoop (.ListComp elt [⟨tg, iter, ifs, 0⟩] scope pos) 0 (.ref it) (.ref D) ce) (compPost (model X.prog X.w) X.A X.xe use Qf (.ref D) s3.heap.objs.size) s4 := by
  refine compLoop_any (fun n s' => ∃ i H', Inv (X.blk s3 H3 scope ce fp) [] (wipe σ (own.map (·.2))) H' s' ∧ tn i s'.heap ∧ (∀ b ∈ fp, H' b = none) ∧ W i n H') ?_ m0 ⟨0, H3, I4, st4, nfp, w0⟩
  rintro n s5 ⟨i, H5, I5, st5, n5, w5⟩
  rcases turn i n H5 w5 with ⟨stop, qq⟩ | ⟨go, Nx, hNx, step⟩
  ·have td := T.done (X.blk s3 H3 scope ce fp) rfl rfl rfl hc i [] s5 _ H5 (fun _ _ => False) I5 (stat I5 n5) st5 stop
   refine thnF td fun r s6 ⟨hr, I6⟩ => ?_
   subst hr
   have I7 : Inv X pins σ H5 s6 := I3.call' (ch := fp) I6.os I6.base I6.hok I6.bare fun b hb => ⟨(f3 b hb).1.2.2.2.1, (f3 b hb).1.2.1, (f3 b hb).1.2.2.2.2.1, (f3 b hb).1.2.2.2.2.2⟩
   have nC : H5 s3.heap.objs.size = none := by
    have z : H5 ce.locals = none := I6.free
    rw [cL] at z
    exact z
   obtain ⟨m, hn, _⟩ := I6.loc
   have hn : s6.heap.Ns ce.locals m := hn
   rw [cL] at hn
   exact hRR D s3.heap.objs.size s6 m H5 I7 qq hn (I3.fpOk (Nat.le_refl _) nC)
  ·have ti := T.item (X.blk s3 H3 scope ce fp) rfl rfl rfl hc i [] s5 _ H5 (fun _ _ => False) I5 (stat I5 n5) st5 go
   refine thnF ti fun r s6 ⟨u, hr, h6⟩ => ?_
   subst hr
   refine thnF h6 fun _ s7 ⟨x, H7, I7, r7, y7, st7, n7⟩ => ?_
   have I7' := I7.pinned (stat I7 n7) (T.obj _ _ st7)
   refine thnF (pg _ s7 _ H7 x u _ I7' r7 (step x H7 y7)) fun _ s8 ⟨σ8, H8, I8, hw8, q8⟩ => ?_
   refine thnF (pt _ s8 σ8 H8 _ I8 q8) fun b s9 ⟨H9, I9, q9⟩ => ?_
   have fin : ∀ {s' : Shared} {H' : Hp}, Inv (X.blk s3 H3 scope ce fp) ([] ++ pinsAt fp s7.heap) σ8 H' s' → Nx H' → ∃ m, m < n ∧ ∃ i H', Inv (X.blk s3 H3 scope ce fp) [] (wipe σ (own.map (·.2))) H' s' ∧ tn i s'.heap ∧ (∀ b ∈ fp, H' b = none) ∧ W i m H' := fun {s' H'} I' nx => by
    obtain ⟨m', hm, w'⟩ := hNx H' nx
    have pin' : ∀ b ∈ fp, ∀ o, s7.heap.get? b = some o → s'.heap.get? b = some o ∧ H' b = none := fun b hb o e =>
     let z := I'.pin (b, o) (List.mem_append_right _ (List.mem_append_right _ (mem_pinsAt hb e)))
     ⟨z.1, z.2.1⟩
    have hl : (wipe σ (own.map (·.2))).length = σ8.length := by rw [← hw8, wipe_length]
    refine ⟨m', hm, i + 1, H', (I'.unpinned (pins := [])).weak hl (fun j v e => ?_), T.keep _ _ _ st7 fun b hb o e => (pin' b hb o e).1, fun b hb => ?_, w'⟩
    ·rw [← hw8] at e
     exact (wipe_some e).1
    ·obtain ⟨o, e, _⟩ := T.obj _ _ st7 b hb
     exact (pin' b hb o e).2
   cases b with
   | false =>
    simp only [Bool.false_eq_true, if_false] at q9 ⊢
    exact fin I9 q9
   | true =>
    simp only [if_true] at q9 ⊢
    refine thnF (pe _ s9 σ8 H9 _ I9 q9) fun z s10 ⟨yv, H10, I10, r10, acc, hD10, hz10, nx⟩ => ?_
    exact app_ok (X := X.blk s3 H3 scope ce fp) I10 hD10 hz10 r10 fun s11 I11 => fin I11 nx
 exact codeAny_compStart_list loop (T.self X.A 0 _ _ _ st4 loop)
theorem pe_lc {elt tg iter : Expr} {ifs : List Expr} {scope : Scope} {own : List (Str × Nat)} {pos : Pos} {wi : TI} {g : TG} {tt : TT} {te : TE} (hc : X.calm = true) (hN : X.N.Nodup) (hi : PI X tg iter wi) (ok : BlkOk X.N X.env.scope scope own)
  (hg : ∀ (s : Shared) (H : Hp) (C : Addr) (cl : List (Str × Addr)) (fp : List Addr), PG (X.blk s H scope (compEnvC scope cl C X.env) fp) tg g) (ht : ∀ (s : Shared) (H : Hp) (C : Addr) (cl : List (Str × Addr)) (fp : List Addr), PTs (X.blk s H scope (compEnvC scope cl C X.env) fp) ifs tt)
  (he : ∀ (s : Shared) (H : Hp) (C : Addr) (cl : List (Str × Addr)) (fp : List Addr), PE (X.blk s H scope (compEnvC scope cl C X.env) fp) elt te) (hs : ∀ x, foldedSetIterable iter X.env x = pure x := by intro _; rfl) :
  PE X (.ListComp elt [⟨tg, iter, ifs, 0⟩] scope pos) (tLc wi g tt te (own.map (·.2))) := by
 intro pins s σ H Q I h
 rw [eval_ListComp]
 refine lc_core hc hN I hi ok hg ht he hs h fun D C s' m H' I' q hn f => ⟨m, hn, fun h'' sb => ?_⟩
 obtain ⟨f0, f1, f2, f3, f4, f5⟩ := f
 exact ⟨.ref D, H', I'.turned (t' := s'.toks) (fun b o hb e => (sb.2 b hb).trans e) f0 f1 f3 f4 f5, rfl, q⟩
theorem ps_setLc {i : Nat} {y : Str} {py : Pos} {elt tg iter : Expr} {ifs : List Expr} {scope : Scope} {own : List (Str × Nat)} {pos spos : Pos} {wi : TI} {g : TG} {tt : TT} {te : TE} (hc : X.calm = true) (hN : X.N.Nodup) (hy : X.N[i]? = some y) (hyl : X.env.scope.names.lookup y = some .local)
  (hsw : swapsWith (.ListComp elt [⟨tg, iter, ifs, 0⟩] scope pos) (some (.Name y py)) spos.line X.env = pure true) (hi : PI X tg iter wi) (ok : BlkOk X.N X.env.scope scope own)
  (hg : ∀ (s : Shared) (H : Hp) (C : Addr) (cl : List (Str × Addr)) (fp : List Addr), PG (X.blk s H scope (compEnvC scope cl C X.env) fp) tg g) (ht : ∀ (s : Shared) (H : Hp) (C : Addr) (cl : List (Str × Addr)) (fp : List Addr), PTs (X.blk s H scope (compEnvC scope cl C X.env) fp) ifs tt)
  (he : ∀ (s : Shared) (H : Hp) (C : Addr) (cl : List (Str × Addr)) (fp : List Addr), PE (X.blk s H scope (compEnvC scope cl C X.env) fp) elt te) (hs : ∀ x, foldedSetIterable iter X.env x = pure x := by intro _; rfl) :
  PS X (.Assign [.Name y py] (.ListComp elt [⟨tg, iter, ifs, 0⟩] scope pos) spos) (tAsg (tLc wi g tt te (own.map (·.2))) (gName i)) := by
 intro pins s σ H D I h
 rw [exec_Assign_Name_used _ _ _ _ hsw]
 refine wpAny_bind (wpAny_standAt (wpAny_bind ?_))
 show wpAny _ X.A (do let _ ← comprehension (.ListComp elt [⟨tg, iter, ifs, 0⟩] scope pos) scope X.env (firstIterPos [⟨tg, iter, ifs, 0⟩] pos) (newList []) false (eval iter X.env) (some (assign (.Name y py) X.env))) _ _ s
 have h : tLc wi g tt te (own.map (·.2)) σ H (fun x H1 => gName i x σ H1 D.nx) := h
 refine wpAny_bind (thn (lc_core (Qf := fun _ s' => SP X pins D .next s') hc hN I hi ok hg ht he hs h fun L C s' m H' I' q hn f => ?_) fun _ s' hq => wpAny_pure (wpAny_pure hq))
 show wpAny _ _ (assign (.Name y py) X.env (.ref L)) _ _ _
 refine wpAny_assign_Name (store_ok2 (v := V.ref L) I' hN hy (.inl hyl) rfl (fun s2 I2 ⟨a, sb, ha⟩ => ?_) (.inr hyl))
 obtain ⟨f0, f1, f2, f3, f4, f5⟩ := f
 have haC : C ≠ a := by
  rcases ha with z | z
  ·rw [z]; exact f1
  ·exact fun e => f4 y a z e.symm
 refine ⟨m, hn.sameBut sb haC, fun h3 sb3 => ?_⟩
 exact ⟨_, H', I2.turned (t' := s2.toks) (fun b o hb e => (sb3.2 b hb).trans e) f0 f1 f3 f4 f5, q⟩
theorem sw_true {elt : Expr} {gs : List Comprehension} {scope : Scope} {pos py : Pos} {y : Str} {l : Nat} {env : Env} (hk : env.scope.kind = .function) (hy : env.scope.names.lookup y = some .local) (hl : (py.line == pos.line) = true)
  (ha : (scope.names.any fun (n, k) => n == y && (k == .local || k == .cell)) = false) : swapsWith (.ListComp elt gs scope pos) (some (.Name y py)) l env = pure true := by
 have ky : env.kindOf y = some .local := hy
 have hb : env.blockKind = .function := by unfold Env.blockKind; rw [hk]; rfl
 unfold swapsWith
 simp only [hb, ky, ha, Expr.pos, hl]
 rfl
end
theorem lc_range {lo : Int} {n : Nat} {g : TG} {tt : TT} {te : TE} {vs : List Nat} {σ : St} {H1 : Hp} {D : Addr} {Qd : Hp → Prop} (Pv : Nat → Hp → Prop) (h0 : Pv 0 (upd H1 D (.lst [])))
  (hs : ∀ i H, i < n → Pv i H → g (.int (lo + i)) (wipe σ vs) H fun σ2 H2 => wipe σ2 vs = wipe σ vs ∧ tt σ2 H2 fun b H3 =>
   if b = true then te σ2 H3 fun y H4 => ∃ acc, H4 D = some (.lst acc) ∧ acc.length < sizeLine ∧ Pv (i + 1) (upd H4 D (.lst (acc ++ [y]))) else Pv (i + 1) H3) (hd : ∀ H, Pv n H → Qd H) :
  ∃ W : Nat → Nat → Hp → Prop, (∃ m, W 0 m (upd H1 D (.lst []))) ∧ ∀ i m H, W i m H →
   ((Itr lo n).stop i H ∧ Qd H) ∨ ((Itr lo n).go i H ∧ ∃ Nx : Hp → Prop, (∀ H', Nx H' → ∃ m', m' < m ∧ W (i + 1) m' H') ∧ ∀ x H', (Itr lo n).yld i H x H' → g x (wipe σ vs) H' fun σ2 H2 => wipe σ2 vs = wipe σ vs ∧ tt σ2 H2 fun b H3 =>
    if b = true then te σ2 H3 fun y H4 => ∃ acc, H4 D = some (.lst acc) ∧ acc.length < sizeLine ∧ Nx (upd H4 D (.lst (acc ++ [y]))) else Nx H3) := by
 refine ⟨fun i m H => m = n - i ∧ i ≤ n ∧ Pv i H, ⟨n, by simp, Nat.zero_le _, h0⟩, ?_⟩
 rintro i m H ⟨rfl, hi, p⟩
 by_cases hlt : i < n
 ·refine .inr ⟨hlt, Pv (i + 1), fun H' p' => ⟨n - (i + 1), by omega, rfl, hlt, p'⟩, fun x H' y => ?_⟩
  obtain ⟨e, y⟩ := y
  subst e y
  exact hs i _ hlt p
 ·have e : i = n := by omega
  subst e
  exact .inl ⟨Nat.le_refl _, hd H p⟩
theorem lc_list {K : PySem.W.Frag} {a : Addr} {xs : List V} {g : TG} {tt : TT} {te : TE} {vs : List Nat} {σ : St} {H1 : Hp} {D : Addr} {Qd : Hp → Prop} (Pv : Nat → Hp → Prop) (h0 : Pv 0 (upd H1 D (.lst []))) (hl : ∀ i H, i ≤ xs.length → Pv i H → SqL K H a xs)
  (hs : ∀ i x H, xs[i]? = some x → Pv i H → g x (wipe σ vs) H fun σ2 H2 => wipe σ2 vs = wipe σ vs ∧ tt σ2 H2 fun b H3 =>
   if b = true then te σ2 H3 fun y H4 => ∃ acc, H4 D = some (.lst acc) ∧ acc.length < sizeLine ∧ Pv (i + 1) (upd H4 D (.lst (acc ++ [y]))) else Pv (i + 1) H3) (hd : ∀ H, Pv xs.length H → Qd H) :
  ∃ W : Nat → Nat → Hp → Prop, (∃ m, W 0 m (upd H1 D (.lst []))) ∧ ∀ i m H, W i m H →
   ((Itl K a).stop i H ∧ Qd H) ∨ ((Itl K a).go i H ∧ ∃ Nx : Hp → Prop, (∀ H', Nx H' → ∃ m', m' < m ∧ W (i + 1) m' H') ∧ ∀ x H', (Itl K a).yld i H x H' → g x (wipe σ vs) H' fun σ2 H2 => wipe σ2 vs = wipe σ vs ∧ tt σ2 H2 fun b H3 =>
    if b = true then te σ2 H3 fun y H4 => ∃ acc, H4 D = some (.lst acc) ∧ acc.length < sizeLine ∧ Nx (upd H4 D (.lst (acc ++ [y]))) else Nx H3) := by
 refine ⟨fun i m H => m = xs.length - i ∧ i ≤ xs.length ∧ Pv i H, ⟨xs.length, by simp, Nat.zero_le _, h0⟩, ?_⟩
 rintro i m H ⟨rfl, hi, p⟩
 have q := hl i H hi p
 by_cases hlt : i < xs.length
 ·refine .inr ⟨⟨xs, xs[i], q, by simp [hlt]⟩, Pv (i + 1), fun H' p' => ⟨xs.length - (i + 1), by omega, rfl, hlt, p'⟩, fun x H' y => ?_⟩
  obtain ⟨e, y⟩ := y
  subst e
  exact hs i x _ (y xs q) p
 ·have e : i = xs.length := by omega
  subst e
  exact .inl ⟨⟨xs, q, Nat.le_refl _⟩, hd H p⟩
def blkC (N : List Str) (sc scope : Scope) (own : List (Str × Nat)) : Bool :=
 (match scope.kind with | .function => true | _ => false) && (scope.names.all fun y => decide (scope.names.lookup y.1 = some y.2)) && (own.all fun p => decide (N[p.2]? = some p.1)) &&
  (scope.names.all fun y => match y.2 with
   | .free => (match sc.names.lookup y.1 with | some .cell => true | some .free => true | _ => false)
   | .local => decide (y.1 ∈ own.map (·.1)) || decide (y.1 ∉ N)
   | .cell => decide (y.1 ∈ own.map (·.1)) || decide (y.1 ∉ N)
   | _ => true)
theorem blkOk_by {N : List Str} {sc scope : Scope} {own : List (Str × Nat)} (h : blkC N sc scope own = true) : BlkOk N sc scope own := by
 unfold blkC at h
 simp only [Bool.and_eq_true, List.all_eq_true, decide_eq_true_eq] at h
 obtain ⟨⟨⟨h1, h2⟩, h3⟩, h4⟩ := h
 refine ⟨?_, h2, h3, fun y hy e => ?_, fun y hy e => ?_⟩
 ·split at h1
  ·assumption
  ·cases h1
 ·have q := h4 y hy
  simp only [e] at q
  split at q <;> first | exact .inl (by assumption) | exact .inr (by assumption) | cases q
 ·have q := h4 y hy
  rcases e with e | e <;> (simp only [e, Bool.or_eq_true, decide_eq_true_eq] at q; exact q)
end L2
namespace L2
open PySem PySem.Spec PyProof.Rows
section
variable {prog : Program} {w : World} {A : Around} {R : Result → Shared → Prop} {s : Shared} {elt t0 i0 t1 i1 : Expr} {ifs0 ifs1 : List Expr} {scope : Scope} {pos : Pos} {it acc : Value} {env : Env}
end
section
variable {X : Cx}
end
end L2
namespace L2
open PySem PySem.Spec PyProof.Rows
section
variable {κ : Type} [DecidableEq κ]
end
section
variable {P : Program} {w : World} {H : Hp} {h : Heap} {a : Addr}
end
section
variable {X : Cx} {pins : List (Addr × Obj)} {σ : St} {H : Hp} {s : Shared} {a : Addr} {y v : V} {u r : Value} {o : Option V} {A : Around} {E : Value → Shared → Prop}
end
section
variable {X : Cx} {pins : List (Addr × Obj)} {σ : St} {H : Hp} {s : Shared} {a : Addr} {kvs : List (Key × V)} {k : Key} {u : Value} {A : Around} {E : Value → Shared → Prop}
end
section
variable {X : Cx} {o i e value : Expr} {pos pos' tpos : Pos} {td ty tv : TE}
end
section
variable {X : Cx} {pos : Pos}
end
section
variable {X : Cx} {pins : List (Addr × Obj)} {σ : St} {H : Hp} {s : Shared} {a : Addr} {y d : V} {u r : Value} {o : Option V} {A : Around} {E : Value → Shared → Prop}
end
section
variable {X : Cx} {o e f : Expr} {apos cpos : Pos} {td ty tx : TE}
end
section
variable {X : Cx} {pins : List (Addr × Obj)} {σ : St} {H : Hp} {s : Shared} {a : Addr} {kvs : List (Key × V)} {A : Around} {E : Value → Shared → Prop}
end
section
variable {X : Cx} {pins : List (Addr × Obj)} {σ : St} {H : Hp} {s : Shared} {a : Addr} {y : V} {u : Value} {A : Around} {E : Value → Shared → Prop}
end
end L2
namespace L2
open PySem PySem.Spec PyProof.Rows
section
variable {prog : Program} {w : World} {A : Around} {E : Value → Shared → Prop}
end
section
variable {X : Cx}
end
end L2
namespace L2
open PySem PySem.Spec PyProof.Rows
section
variable {X : Cx} {pins : List (Addr × Obj)} {σ : St} {H : Hp} {s : Shared} {h' : Heap}
theorem Inv.turnedL {t' : Nat} {ch : List Addr} (I : Inv X pins σ H s) (k : ∀ b o, b ∉ ch → s.heap.get? b = some o → h'.get? b = some o) (hf : ∀ b ∈ ch, FpOk X pins H b) : Inv X pins σ H { s with heap := h', toks := t' } := by
 have nit : ∀ b u, H b = some u → b ∉ ch := fun b u e z => by
  have q := (hf b z).1
  rw [q] at e; cases e
 refine I.step (g' := s.gens) (d' := s.drawn) (ch := ch) (fun b hb => ⟨(hf b hb).2.2.2.1, (hf b hb).2.1, (hf b hb).2.2.2.2.1, (hf b hb).2.2.2.2.2⟩) (fun b o _ _ hc e _ => k b o hc e) (fun b o _ _ hc e _ => ⟨o.slots, k b o hc e⟩)
  (fun _ _ _ _ n => n) (fun b o hc e => ⟨o, k b o hc e⟩) (fun _ _ e => e) (fun _ _ _ e => e) (fun b ps e => ⟨#[], by rw [e]; simp⟩) (fun m hm => ?_) (fun b u e => ?_) I.bare
 ·obtain ⟨o, es, ep, ho, r⟩ := hm
  exact ⟨o, es, ep, k _ o (fun z => (hf _ z).2.1 rfl) ho, r⟩
 ·refine (I.hok b u e).stay (fun c v hc q => k c v ?_ q) (fun _ q => q) fun _ _ q => q
  rcases hc with z | z
  ·rw [z]; exact nit b u e
  ·exact nit c _ z
theorem Inv.turnedNew {t' : Nat} {ch : List Addr} {T : Addr} {ob : HO} (I : Inv X pins σ H s) (k : ∀ b o, b ∉ ch → s.heap.get? b = some o → h'.get? b = some o) (hf : ∀ b ∈ ch, FpOk X pins H b) (hT : s.heap.objs.size ≤ T)
  (new : ObjOk X.prog X.w (upd H T ob) h' T ob) : Inv X pins σ (upd H T ob) { s with heap := h', toks := t' } := by
 have hn : H T = none := I.hok.fresh hT
 have nit : ∀ b u, H b = some u → b ∉ ch := fun b u e z => by
  have q := (hf b z).1
  rw [q] at e; cases e
 refine I.step (g' := s.gens) (d' := s.drawn) (ch := ch) (fun b hb => ⟨(hf b hb).2.2.2.1, (hf b hb).2.1, (hf b hb).2.2.2.2.1, (hf b hb).2.2.2.2.2⟩) (fun b o _ _ hc e _ => k b o hc e) (fun b o _ _ hc e _ => ⟨o.slots, k b o hc e⟩)
  (fun b o _ e n => ?_) (fun b o hc e => ⟨o, k b o hc e⟩) (fun b xs e => ?_) (fun b o u e => ?_) (fun b ps e => ⟨#[], ?_⟩) (fun m hm => ?_) (fun b u e => ?_) I.bare
 ·rw [upd_ne (Nat.ne_of_lt (Nat.lt_of_lt_of_le (Heap.lt_size e) hT))]; exact n
 ·rw [upd_ne (ne_of_none e hn)]; exact e
 ·rw [upd_ne (ne_of_none e hn)]; exact e
 ·rw [upd_ne (ne_of_none e hn), e]; simp
 ·obtain ⟨o, es, ep, ho, r⟩ := hm
  exact ⟨o, es, ep, k _ o (fun z => (hf _ z).2.1 rfl) ho, r⟩
 ·by_cases hb : b = T
  ·subst hb
   rw [upd_same] at e
   cases e
   exact new
  ·rw [upd_ne hb] at e
   refine (I.hok b u e).stay (fun c v hc q => k c v ?_ q) (fun c q => by rw [upd_ne (ne_of_none q hn)]; exact q) fun c xs q => by rw [upd_ne (ne_of_none q hn)]; exact q
   rcases hc with z | z
   ·rw [z]; exact nit b u e
   ·exact nit c _ z
end
section
variable {X : Cx}
end
section
variable {X : Cx} {tg : Expr}
end
section
variable {X : Cx} {tg : Expr}
end
section
variable {prog : Program} {w : World} {A : Around} {E : Value → Shared → Prop} {s : Shared}
end
section
variable {X : Cx} {pins : List (Addr × Obj)} {σ : St} {H : Hp} {s : Shared} {d : Addr} {o : Obj}
end
section
variable {P : Program} {w : World} {K : PySem.W.Frag} {tg : Expr} {d : Addr} {o : Obj} {es : Array DictEntry} {ep : Nat}
end
section
variable {X : Cx} {tg e : Expr} {td : TE} {apos cpos : Pos}
end
def Ite (K : PySem.W.Frag) (a : Addr) : It :=
 ⟨fun i H => ∃ (xs : List V) (x : V), SqL K H a xs ∧ xs[i]? = some x, fun i H v H' => ∃ T x, v = .ref T ∧ H T = none ∧ H' = upd H T (.tup [.int (i : Nat), x]) ∧ ∀ xs, SqL K H a xs → xs[i]? = some x, fun i H => ∃ xs : List V, SqL K H a xs ∧ xs.length ≤ i⟩
theorem turn_enum {P : Program} {w : World} {K : PySem.W.Frag} {elts : List Expr} {kk : Nat} {tpos : Pos} (a e it : Addr) :
  Turn P w K (.Tuple elts kk tpos) (Ite K a) [e, it] e (fun i h => (∃ old, IsEnum h e it ((i : Nat) : Int) old) ∧ h.IsListIter it a i ∧ e ≠ it) where
 mem := by simp
 obj := fun i h st b hb => by
  obtain ⟨⟨old, he⟩, ⟨o, ho, hc, hd⟩, _⟩ := st
  have e' : b = e ∨ b = it := by simpa using hb
  rcases e' with z | z
  ·rw [z]; exact ⟨_, he, fun v q => nomatch q⟩
  ·rw [z]; exact ⟨o, ho, fun v q => by rw [hd] at q; cases q⟩
 keep := fun i h h' st k => let ⟨⟨old, he⟩, hi, hne⟩ := st; ⟨⟨old, k e (by simp) _ he⟩, hi.at fun o q => k it (by simp) o q, hne⟩
 item := by
  intro X hP hw hK hc i pins s σ H E I hf st hg
  subst hP hw hK
  obtain ⟨⟨old, he⟩, hit, hne⟩ := st
  obtain ⟨xs, x, hq, hx⟩ := hg
  obtain ⟨its, rv, p, hz⟩ := I.list hq
  obtain ⟨u, hu, ru⟩ := rv.get hx
  have hel : e < s.heap.objs.size := Heap.lt_size he
  have hil : it < s.heap.objs.size := by obtain ⟨_, q, _⟩ := hit; exact Heap.lt_size q
  refine wpAny_pyNext_enum_item he hit p.isList (x := u) (by simpa using hu) hne fun h' ho hit' hT hsz hk => ?_
  refine ⟨_, rfl, wpAny_letOwnedTupleGo_enum (s := { s with heap := h', toks := s.toks + 1 }) ho fun h'' he' sb => ?_⟩
  have hT2 : h''.get? s.heap.objs.size = some { cls := .type "tuple", data := .seq #[.int i s.toks, u] } := (sb.2 _ (Nat.ne_of_gt hel)).trans hT
  have new : ObjOk X.prog X.w (upd H s.heap.objs.size (.tup [.int (i : Nat), x])) h'' s.heap.objs.size (.tup [.int (i : Nat), x]) :=
   ⟨by show 2 ≤ sizeLine; decide, [.int i s.toks, u], .cons ⟨_, rfl⟩ (.cons ru .nil), ⟨_, hT2, rfl, _, rfl⟩⟩
  have I1 : Inv X pins σ (upd H s.heap.objs.size (.tup [.int (i : Nat), x])) { s with heap := h'', toks := s.toks + 1 } :=
   I.turnedNew (ch := [e, it]) (fun b ob hb q => (sb.2 b (fun z => hb (by simp [z]))).trans (hk b ob (fun z => hb (by simp [z])) (fun z => hb (by simp [z])) q)) hf (Nat.le_refl _) new
  refine ⟨.ref s.heap.objs.size, _, I1, rfl, ⟨_, x, rfl, I.hok.fresh (Nat.le_refl _), rfl, fun ys hy => by rw [I.list_inj hy hq]; exact hx⟩, ⟨⟨u, ?_⟩, hit'.at fun o q => (sb.2 it (Ne.symm hne)).trans q, hne⟩, fun b hb => ?_⟩
  ·have e1 : ((i + 1 : Nat) : Int) = (i : Int) + 1 := by omega
   rw [e1]; exact he'
  ·have hb' : b < s.heap.objs.size := by
    have e' : b = e ∨ b = it := by simpa using hb
    rcases e' with z | z
    ·rw [z]; exact hel
    ·rw [z]; exact hil
   rw [upd_ne (Nat.ne_of_lt hb')]
   exact (hf b hb).1
 done := by
  intro X hP hw hK hc i pins s σ H E I hf st hg
  subst hP hw hK
  obtain ⟨⟨old, he⟩, hit, hne⟩ := st
  obtain ⟨xs, hq, hx⟩ := hg
  obtain ⟨its, rv, p, hz⟩ := I.list hq
  obtain ⟨f0, f1, f2, f3, f4, f5⟩ := hf it (by simp)
  have hl := rv.length
  exact wpAny_pyNext_enum_end (I.ok.hd hc) he hit p.isList (by simp; omega) fun h' eb => ⟨rfl, I.turned (t' := s.toks) (fun b o hb q => eb b o hb q) f0 f1 f3 f4 f5⟩
 self := fun A i s Q E st h => let ⟨⟨_, he⟩, _⟩ := st; wpAny_pyIter_enum he h
def iEnum (K : PySem.W.Frag) (ta : TA) : TI := fun σ H R => ta σ H fun vs H1 => ∃ a xs, vs = [.ref a] ∧ SqL K H1 a xs ∧ R (Ite K a) H1
theorem pi_enum {X : Cx} {e : Expr} {ta : TA} {p pos tpos : Pos} {elts : List Expr} {kk : Nat} (hg : Gl X "enumerate") (hm : X.mg "enumerate" = none) (ha : PA X [e] ta) (hs : starEach [e] X.env = [(false, eval e X.env)] := by rfl) :
  PI X (.Tuple elts kk tpos) (.Call (.Name "enumerate" p) [e] [] pos) (iEnum X.K ta) := by
 intro pins s σ H R I h
 refine Call_ (ld_blt I hg hm boot_enumerate (PyProof.Rows.callWith_type1 (thn (ha pos pins s σ H _ I h) fun us s1 ⟨vs, H1, I1, r1, q1⟩ => ?_) hs rfl))
 obtain ⟨a, xs, ex, hq, q⟩ := q1
 subst ex
 cases r1 with
 | cons r rr =>
  cases rr
  cases r
  obtain ⟨its, rv, p', hz⟩ := I1.list hq
  refine call_enumerate_list p'.isList fun h' he hit hsz hk => wpAny_pyIter_enum he ?_
  have I2 : Inv X pins σ H1 { s1 with heap := h' } := I1.kept (t' := s1.toks) hk
  refine ⟨s1.heap.objs.size + 1, [s1.heap.objs.size + 1, s1.heap.objs.size], _, _, H1, rfl, I2, turn_enum a (s1.heap.objs.size + 1) s1.heap.objs.size, ⟨⟨.none, he⟩, hit, Nat.succ_ne_self _⟩, fun b hb => ?_, q⟩
  have e' : b = s1.heap.objs.size + 1 ∨ b = s1.heap.objs.size := by simpa using hb
  have hle : s1.heap.objs.size ≤ b := by
   rcases e' with z | z
   ·rw [z]; exact Nat.le_add_right _ _
   ·rw [z]; exact Nat.le_refl _
  exact I1.fpOk hle (I1.hok.fresh hle)
theorem boot_zip5 : bootBuiltins "zip" = some (.type "zip") := by decide +kernel
end L2
section
namespace Bits
open PySem PyProof.Rows
end Bits
end
section
namespace TL
open PySem PySem.Builtin PySem.Builtin.Str PySem.StrLaws
end TL
end
namespace L2
open PySem PySem.Spec PyProof.Rows
section
variable {X : Cx} {pins : List (Addr × Obj)} {σ : St} {H : Hp} {s : Shared} {Q : VK}
end
section
variable {X : Cx}
end
section
variable {X : Cx} {o e : Expr} {to te : TE}
end
end L2
namespace L2
open PySem PySem.Spec PyProof.Rows
section
variable {X : Cx}
end
end L2
namespace Att
open PySem PySem.W PySem.Calls PyProof.Rows
section
variable {prog : Program} {w : World} {A : Around} {E : Value → Shared → Prop} {s : Shared} {K : Frag}
end
end Att
namespace L2
open PySem PySem.Spec PyProof.Rows
end L2
namespace L2
open PySem PySem.Spec PyProof.Rows
abbrev KOf {K : PySem.W.Frag} {h : Heap} (_ : K.In h) : PySem.W.Frag := K
end L2
namespace L2
open PySem PySem.Spec PyProof.Rows
def inClass (s : Stmt) (j : Nat) : Stmt := match s with
 | .ClassDef _ _ _ body _ _ _ _ _ _ _ => body.getD j (.Pass ⟨0, 0, 0, 0⟩)
 | _ => .Pass ⟨0, 0, 0, 0⟩
def defArgs (s : Stmt) : Arguments := match s with
 | .FunctionDef _ a _ _ _ _ _ _ _ _ => a
 | _ => { posonlyargs := [], args := [], vararg := none, kwonlyargs := [], kw_defaults := [], kwarg := none, defaults := [] }
def defBody (s : Stmt) : List Stmt := match s with
 | .FunctionDef _ _ b _ _ _ _ _ _ _ => b
 | _ => []
def defScope (s : Stmt) : Scope := match s with
 | .FunctionDef _ _ _ _ _ _ sc _ _ _ => sc
 | _ => { kind := .function, names := [], isGenerator := false, isCoroutine := false }
abbrev CX0 : CXT := fun _ _ _ _ _ _ => False
abbrev E0 : XK := fun _ _ _ => False
theorem pass0 {X : Cx} : Passes CX0 X E0 := fun _ _ _ _ _ _ _ h => h.elim
structure Fun (K : PySem.W.Frag) (x qual : Str) (st : Stmt) (f : Addr) (fd : FuncData) : Prop where
 ex : ∃ (oc : Value) (od : Option Addr) (kV doc pm : Value) (an : Option Addr) (cdv ct : Value) (osl : Array (Option Value)),
  fd = PySem.W.fnOf x qual (defArgs st) (defBody st) (defScope st) .none kV doc pm an cdv ct ∧ K.lookup f = some ⟨oc, od, .func fd, osl⟩ ∧ PySem.W.codeIn K cdv qual = true
 kp : PySem.W.keepIn K (.ref f) = true
section
variable {P : Program} {w : World} {K : PySem.W.Frag} {mg : Str → Option Value} {base : Heap}
theorem Fun.ok {x qual : Str} {st : Stmt} {f : Addr} {fd : FuncData} {N ps : List Str} {k : Nat} {sp : Sp} (F : Fun K x qual st f fd) (S : FnScope N ps (defScope st)) (len : ∀ vs H Q E, sp vs H Q E → vs.length = ps.length)
  (hbody : ∀ (cdv : Value) (A : Around) (outer : List Env) (s : Shared) (H : Hp) (vs : List V) (Q : VK) (E : XK), Room k (A.deeper (envOfC qual (defScope st) s.heap.objs.size f cdv)) → sp vs H Q E →
   ∃ t, PSs (cxOf CX0 P w K mg base N qual (defScope st) f cdv A outer s H E).nox (defBody st) t ∧ t { nx := fun _ H' => Q .non H', rt := Q } (start N vs) H) : FnOk P w K mg base CX0 (k + 1) f fd ps sp := by
 obtain ⟨oc, od, kV, doc, pm, an, cdv, ct, osl, rfl, lk, hcd⟩ := F.ex
 refine fn_of lk hcd S len fun A outer s H vs Q E hr hsp => ?_
 obtain ⟨t, h, q⟩ := hbody cdv A outer s H vs Q E hr hsp
 exact ⟨t, h.nox, q⟩
theorem Fun.binds {x qual : Str} {st : Stmt} {f : Addr} {fd : FuncData} {ps : List Str} (F : Fun K x qual st f fd)
  (h : ∀ (kV doc pm : Value) (an : Option Addr) (cdv ct : Value) (us : List Value), us.length = ps.length → bindArgs (PySem.W.fnOf x qual (defArgs st) (defBody st) (defScope st) .none kV doc pm an cdv ct) ⟨us, []⟩ = pure (ps.zip us)) : Binds K fd ps [] := by
 obtain ⟨oc, od, kV, doc, pm, an, cdv, ct, osl, rfl, lk, hcd⟩ := F.ex
 exact .all (h kV doc pm an cdv ct)
theorem fun_mk {x qual : Str} {st : Stmt} {f : Addr} {oc : Value} {od an : Option Addr} {osl : Array (Option Value)} {kV doc pm cdv ct : Value} (l : K.lookup f = some ⟨oc, od, .func (PySem.W.fnOf x qual (defArgs st) (defBody st) (defScope st) .none kV doc pm an cdv ct), osl⟩)
  (c : PySem.W.codeIn K cdv qual = true) (k : PySem.W.keepIn K (.ref f) = true) : Fun K x qual st f (PySem.W.fnOf x qual (defArgs st) (defBody st) (defScope st) .none kV doc pm an cdv ct) := ⟨⟨oc, od, kV, doc, pm, an, cdv, ct, osl, rfl, l, c⟩, k⟩
end
section
variable {X : Cx}
theorem pv (i : Nat) {x : Str} {pos : Pos} (hN : X.N[i]? = some x := by rfl) (hv : Vis X.env.scope x := by first | exact Or.inl rfl | exact Or.inr (Or.inl rfl) | exact Or.inr (Or.inr rfl)) (hd : (x == ("__debug__" : Str)) = false := by decide)
  (hcd : (x == ("__classdict__" : Str)) = false := by decide) : PE X (.Name x pos) (tVar i) := pe_var hN hv hd hcd
end
theorem ite2 {c A B : Prop} [Decidable c] (h1 : c → A) (h2 : ¬ c → B) : if c then A else B := by
 by_cases h : c
 ·rw [if_pos h]
  exact h1 h
 ·rw [if_neg h]
  exact h2 h
def Same (H H' : Hp) : Prop := ∀ b o, H b = some o → H' b = some o
theorem Same.refl (H : Hp) : Same H H := fun _ _ h => h
theorem Same.trans {H H1 H2 : Hp} (a : Same H H1) (b : Same H1 H2) : Same H H2 := fun c o h => b c o (a c o h)
theorem Same.free {H H' : Hp} (e : Same H H') {l : Addr} (h : H' l = Option.none) : H l = Option.none := by
 cases q : H l with
 | none => rfl
 | some o =>
  rw [e l o q] at h
  cases h
theorem Same.seq {K : PySem.W.Frag} {H H' : Hp} {a : Addr} {xs : List V} (e : Same H H') (h : SqL K H a xs) : SqL K H' a xs := by
 rcases h with (h | ⟨o, h⟩) | h
 ·exact .inl (.inl (e _ _ h))
 ·exact .inl (.inr ⟨o, e _ _ h⟩)
 ·exact .inr h
section
variable {κ : Type} [DecidableEq κ]
end
theorem at_of {xs : List V} {z : Int} {j : Nat} {v : V} (e : z = (j : Int)) (h : xs[j]? = some v) : atI xs z = some v := by
 rw [e]
 exact atI_nat h
theorem nd_ix {α : Type} {l : List α} (hN : l.Nodup) {i j : Nat} {x : α} (a : l[i]? = some x) (b : l[j]? = some x) : i = j := by
 obtain ⟨h1, e1⟩ := List.getElem?_eq_some_iff.mp a
 obtain ⟨h2, e2⟩ := List.getElem?_eq_some_iff.mp b
 exact (List.getElem_inj hN).mp (e1.trans e2.symm)
end L2
end
section
section
namespace L2
open PySem PySem.Spec PyProof.Rows
open PySem.W (WData Codec OpenSpec Well WellAll ReadsW ReadsAllW)
mutual
inductive Dw (K : PySem.W.Frag) (H : Hp) : V → WData → Prop
 | non : Dw K H .non .none
 | bl (b : Bool) : Dw K H (.bl b) (.bool b)
 | int (i : Int) : Dw K H (.int i) (.int i)
 | str (x : Str) : Dw K H (.str x) (.str x)
 | byt (b : Array UInt8) : Dw K H (.byt b) (.bytes b.toList)
 | lst {a : Addr} {xs : List V} {ds : List WData} : SqL K H a xs → DwAll K H xs ds → Dw K H (.ref a) (.list ds)
 | tup {a : Addr} {xs : List V} {ds : List WData} : SqT K H a xs → DwAll K H xs ds → Dw K H (.ref a) (.tuple ds)
inductive DwAll (K : PySem.W.Frag) (H : Hp) : List V → List WData → Prop
 | nil : DwAll K H [] []
 | cons {v : V} {vs : List V} {d : WData} {ds : List WData} : Dw K H v d → DwAll K H vs ds → DwAll K H (v :: vs) (d :: ds)
end
theorem dw_ints {K : PySem.W.Frag} {H : Hp} : ∀ ns : List Int, DwAll K H (ns.map V.int) (ns.map WData.int)
 | [] => .nil
 | n :: r => .cons (.int n) (dw_ints r)
theorem ints_dw {K : PySem.W.Frag} {H : Hp} : ∀ (ns : List Int) (xs : List V), DwAll K H xs (ns.map WData.int) → xs = ns.map V.int
 | [], xs, h => by
  cases h
  rfl
 | n :: r, xs, h => by
  cases h with
  | cons h1 h2 =>
   cases h1
   rw [ints_dw r _ h2] <;> rfl
section
variable {P : Program} {w : World} {K : PySem.W.Frag} {H : Hp} {h : Heap} {R : PySem.W.WRecords} {cl : Str → Option Addr}
theorem sqL_at {a : Addr} {xs : List V} (hok : HOk P w H h) (KX : K.In h) (q : SqL K H a xs) : ∃ (its : List Value) (o : Obj) (n : Nat), Vals xs its ∧ h.get? a = some o ∧ o.cls = .type "list" ∧ o.data = .seq its.toArray n := by
 rcases q with q | ⟨o, its, n, e, hc, _, hd, _, hv⟩
 ·obtain ⟨_, its, n, hv, e⟩ := (show ObjOk P w H h a (.lst xs) from q.ok hok)
  exact ⟨its, _, n, hv, e, rfl, rfl⟩
 ·exact ⟨its.toList, o, n, hv, KX _ _ e, hc, by simp [hd]⟩
theorem sqT_at {a : Addr} {xs : List V} (hok : HOk P w H h) (KX : K.In h) (q : SqT K H a xs) : ∃ (its : List Value) (o : Obj) (n : Nat), Vals xs its ∧ h.get? a = some o ∧ o.cls = .type "tuple" ∧ o.data = .seq its.toArray n := by
 rcases q with q | ⟨o, its, n, e, hc, hd, _, hv⟩
 ·obtain ⟨_, its, hv, o, e, hc, n, hd⟩ := (show ObjOk P w H h a (.tup xs) from q.ok hok)
  exact ⟨its, o, n, hv, e, hc, hd⟩
 ·exact ⟨its.toList, o, n, hv, KX _ _ e, hc, by simp [hd]⟩
mutual
theorem Dw.reads (hok : HOk P w H h) (KX : K.In h) : ∀ (d : WData) (v : V) (u : Value), Dw K H v d → RelV v u → ∃ as, ReadsW R cl h u d as
 | .none, _, _, x, r => by
  cases x
  cases r
  exact ⟨_, ReadsW.none⟩
 | .bool b, _, _, x, r => by
  cases x
  cases r
  exact ⟨_, ReadsW.bool b⟩
 | .int i, _, _, x, r => by
  cases x
  obtain ⟨t, rfl⟩ := r
  exact ⟨_, ReadsW.int i t⟩
 | .str s, _, _, x, r => by
  cases x
  obtain ⟨t, rfl⟩ := r
  exact ⟨_, ReadsW.str s t⟩
 | .bytes b, _, _, x, r => by
  cases x
  obtain ⟨t, rfl⟩ := r
  exact ⟨_, ReadsW.bytes _ t⟩
 | .list ds, _, _, x, r => by
  cases x with
  | lst hs ha =>
   cases r
   obtain ⟨its, o, n, rv, ho, hc, hd⟩ := sqL_at hok KX hs
   obtain ⟨as, hr⟩ := Dw.readsAll hok KX ds _ its ha rv
   exact ⟨_, ReadsW.list ho hc hd hr⟩
 | .tuple ds, _, _, x, r => by
  cases x with
  | tup hs ha =>
   cases r
   obtain ⟨its, o, n, rv, ho, hc, hd⟩ := sqT_at hok KX hs
   obtain ⟨as, hr⟩ := Dw.readsAll hok KX ds _ its ha rv
   exact ⟨_, ReadsW.tuple ho hc hd hr⟩
 | .float _, _, _, x, _ => by cases x
 | .dict _, _, _, x, _ => by cases x
 | .bytearray _, _, _, x, _ => by cases x
 | .set _, _, _, x, _ => by cases x
 | .frozenset _, _, _, x, _ => by cases x
 | .obj _ _, _, _, x, _ => by cases x
theorem Dw.readsAll (hok : HOk P w H h) (KX : K.In h) : ∀ (ds : List WData) (vs : List V) (us : List Value), DwAll K H vs ds → Vals vs us → ∃ as, ReadsAllW R cl h us ds as
 | [], _, _, x, r => by
  cases x
  cases r
  exact ⟨_, ReadsAllW.nil⟩
 | d :: ds, _, _, x, r => by
  cases x with
  | cons h1 h2 =>
   cases r with
   | cons r1 r2 =>
    obtain ⟨as, q1⟩ := Dw.reads hok KX d _ _ h1 r1
    obtain ⟨bs, q2⟩ := Dw.readsAll hok KX ds _ _ h2 r2
    exact ⟨_, ReadsAllW.cons q1 q2⟩
end
end
mutual
def plW : WData → Bool
 | .none => true
 | .bool _ => true
 | .int _ => true
 | .str _ => true
 | .bytes _ => true
 | .list xs => plWs xs
 | .tuple xs => plWs xs
 | _ => false
def plWs : List WData → Bool
 | [] => true
 | x :: r => plW x && plWs r
end
theorem plWs_map {α : Type} {f : α → WData} (h : ∀ a, plW (f a) = true) : ∀ l : List α, plWs (l.map f) = true
 | [] => rfl
 | x :: r => by
  show (plW (f x) && plWs (r.map f)) = true
  rw [h x, plWs_map h r] <;> rfl
theorem pl_enc : ∀ (c : Codec) (a : c.denote), plW (c.enc a) = true
 | .unit, _ => rfl
 | .bool, _ => rfl
 | .int _ _, _ => rfl
 | .nat _ _, _ => rfl
 | .u8, _ => rfl
 | .bytes _ _, _ => rfl
 | .text _ _ _ _, _ => rfl
 | .list _ _ c, a => plWs_map (fun x => pl_enc c x) a
 | .pair c d, a => by
  show (plW (c.enc a.1) && (plW (d.enc a.2) && true)) = true
  rw [pl_enc c a.1, pl_enc d a.2] <;> rfl
 | .triple c d e, a => by
  show (plW (c.enc a.1) && (plW (d.enc a.2.1) && (plW (e.enc a.2.2) && true))) = true
  rw [pl_enc c a.1, pl_enc d a.2.1, pl_enc e a.2.2] <;> rfl
 | .option c, none => rfl
 | .option c, some x => pl_enc c x
theorem pl_encAll : ∀ (cs : List Codec) (a : Codec.denoteAll cs), plWs (Codec.encAll cs a) = true
 | [], _ => rfl
 | c :: cs, a => by
  show (plW (c.enc a.1) && plWs (Codec.encAll cs a.2)) = true
  rw [pl_enc c a.1, pl_encAll cs a.2] <;> rfl
theorem weight_mem : ∀ {xs : List WData} {d : WData}, d ∈ xs → d.weight ≤ WData.weightAll xs
 | [], d, h => absurd h (by simp)
 | x :: r, d, h => by
  show d.weight ≤ x.weight + 1 + WData.weightAll r
  rcases List.mem_cons.mp h with e | m
  ·rw [e]
   omega
  ·have z := weight_mem m
   omega
def toV : Value → V
 | .none => .non
 | .bool b => .bl b
 | .int i _ => .int i
 | .str x _ => .str x
 | .bytes b _ => .byt b
 | .ref a => .ref a
 | _ => .non
def OkU (A : List Addr) : Value → Prop
 | .none => True
 | .bool _ => True
 | .int _ _ => True
 | .str _ _ => True
 | .bytes _ _ => True
 | .ref a => a ∈ A
 | _ => False
theorem OkU.mono {A B : List Addr} (h : ∀ a ∈ A, a ∈ B) : ∀ {u : Value}, OkU A u → OkU B u := fun {u} x => by
 cases u with
 | ref a => exact h a x
 | none => trivial
 | bool b => trivial
 | int i t => trivial
 | str s t => trivial
 | bytes b t => trivial
 | _ => exact False.elim x
theorem relV_toV {A : List Addr} {u : Value} (x : OkU A u) : RelV (toV u) u := by
 cases u with
 | ref a => rfl
 | none => rfl
 | bool b => rfl
 | int i t => exact ⟨t, rfl⟩
 | str s t => exact ⟨t, rfl⟩
 | bytes b t => exact ⟨t, rfl⟩
 | _ => exact False.elim x
theorem vals_toV {A : List Addr} : ∀ {vs : List Value}, (∀ u ∈ vs, OkU A u) → Vals (vs.map toV) vs
 | [], _ => .nil
 | u :: r, h => .cons (relV_toV (h u (List.mem_cons_self ..))) (vals_toV fun x hx => h x (List.mem_cons_of_mem _ hx))
def ArgOb (h : Heap) (A : List Addr) (a : Addr) : Prop := ∃ vs : List Value, vs.length ≤ sizeLine ∧ (∀ u ∈ vs, OkU A u) ∧
 (h.get? a = some { cls := .type "list", data := .seq vs.toArray } ∨ h.get? a = some { cls := .type "tuple", data := .seq vs.toArray })
theorem ArgOb.mono {h : Heap} {A B : List Addr} {a : Addr} (k : ∀ a ∈ A, a ∈ B) (x : ArgOb h A a) : ArgOb h B a := by
 obtain ⟨vs, h1, h2, h3⟩ := x
 exact ⟨vs, h1, fun u hu => (h2 u hu).mono k, h3⟩
theorem wellAll_len {P : Params} {h : Heap} : ∀ {vs : List Value} {ds : List WData}, WellAll P h vs ds → vs.length = ds.length
 | _, _, .nil => rfl
 | _, _, .cons _ b => by
  show _ + 1 = _ + 1
  rw [wellAll_len b]
theorem well_list {P : Params} {h : Heap} {v : Value} {ds : List WData} (x : Well P h v (.list ds)) : ∃ (a : Addr) (vs : List Value), v = .ref a ∧ h.get? a = some { cls := .type "list", data := .seq vs.toArray } ∧ WellAll P h vs ds := by
 cases x with
 | list ho hall => exact ⟨_, _, rfl, ho, hall⟩
theorem well_tuple {P : Params} {h : Heap} {v : Value} {ds : List WData} (x : Well P h v (.tuple ds)) : ∃ (a : Addr) (vs : List Value), v = .ref a ∧ h.get? a = some { cls := .type "tuple", data := .seq vs.toArray } ∧ WellAll P h vs ds := by
 cases x with
 | tuple ho hall => exact ⟨_, _, rfl, ho, hall⟩
theorem well_cons {P : Params} {h : Heap} {us : List Value} {d : WData} {ds : List WData} (x : WellAll P h us (d :: ds)) : ∃ (v : Value) (vs : List Value), us = v :: vs ∧ Well P h v d ∧ WellAll P h vs ds := by
 cases x with
 | cons a b => exact ⟨_, _, rfl, a, b⟩
theorem line_of {n : Nat} (h : n ≤ 1048576) : n ≤ sizeLine := Nat.le_trans h (by decide)
section
variable {P : Params} {h : Heap}
mutual
theorem area_one : ∀ (d : WData) (v : Value), Well P h v d → plW d = true → d.weight ≤ 1048576 → ∃ A : List Addr, OkU A v ∧ ∀ a ∈ A, ArgOb h A a
 | .none, _, x, _, _ => by
  cases x
  exact ⟨[], trivial, fun a m => absurd m (by simp)⟩
 | .bool b, _, x, _, _ => by
  cases x
  exact ⟨[], trivial, fun a m => absurd m (by simp)⟩
 | .int i, _, x, _, _ => by
  cases x
  exact ⟨[], trivial, fun a m => absurd m (by simp)⟩
 | .str s, _, x, _, _ => by
  cases x
  exact ⟨[], trivial, fun a m => absurd m (by simp)⟩
 | .bytes b, _, x, _, _ => by
  cases x
  exact ⟨[], trivial, fun a m => absurd m (by simp)⟩
 | .list ds, _, x, p, z => by
  obtain ⟨a, vs, rfl, ho, hall⟩ := well_list x
  have z2 : WData.weightAll ds ≤ 1048576 := z
  obtain ⟨A, h1, h2⟩ := area_all ds _ hall p fun d hd => Nat.le_trans (weight_mem hd) z2
  have k : ∀ b ∈ A, b ∈ a :: A := fun b hb => List.mem_cons_of_mem _ hb
  refine ⟨a :: A, List.mem_cons_self .., fun b hb => ?_⟩
  rcases List.mem_cons.mp hb with e | m
  ·rw [e]
   exact ⟨vs, line_of (by rw [wellAll_len hall]; exact Nat.le_trans (PySem.W.length_le_weightAllW ds) z2), fun u hu => (h1 u hu).mono k, .inl ho⟩
  ·exact (h2 b m).mono k
 | .tuple ds, _, x, p, z => by
  obtain ⟨a, vs, rfl, ho, hall⟩ := well_tuple x
  have z2 : WData.weightAll ds ≤ 1048576 := z
  obtain ⟨A, h1, h2⟩ := area_all ds _ hall p fun d hd => Nat.le_trans (weight_mem hd) z2
  have k : ∀ b ∈ A, b ∈ a :: A := fun b hb => List.mem_cons_of_mem _ hb
  refine ⟨a :: A, List.mem_cons_self .., fun b hb => ?_⟩
  rcases List.mem_cons.mp hb with e | m
  ·rw [e]
   exact ⟨vs, line_of (by rw [wellAll_len hall]; exact Nat.le_trans (PySem.W.length_le_weightAllW ds) z2), fun u hu => (h1 u hu).mono k, .inr ho⟩
  ·exact (h2 b m).mono k
 | .float _, _, _, p, _ => Bool.noConfusion (show false = true from p)
 | .dict _, _, _, p, _ => Bool.noConfusion (show false = true from p)
 | .bytearray _, _, _, p, _ => Bool.noConfusion (show false = true from p)
 | .set _, _, _, p, _ => Bool.noConfusion (show false = true from p)
 | .frozenset _, _, _, p, _ => Bool.noConfusion (show false = true from p)
 | .obj _ _, _, _, p, _ => Bool.noConfusion (show false = true from p)
theorem area_all : ∀ (ds : List WData) (vs : List Value), WellAll P h vs ds → plWs ds = true → (∀ d ∈ ds, d.weight ≤ 1048576) → ∃ A : List Addr, (∀ u ∈ vs, OkU A u) ∧ ∀ a ∈ A, ArgOb h A a
 | [], _, x, _, _ => by
  cases x
  exact ⟨[], fun u m => absurd m (by simp), fun a m => absurd m (by simp)⟩
 | d :: ds, _, x, p, z => by
  obtain ⟨v, vs, rfl, x1, x2⟩ := well_cons x
  have q : plW d = true ∧ plWs ds = true := Bool.and_eq_true_iff.mp p
  obtain ⟨A, a1, a2⟩ := area_one d v x1 q.1 (z d (List.mem_cons_self ..))
  obtain ⟨B, b1, b2⟩ := area_all ds vs x2 q.2 fun e he => z e (List.mem_cons_of_mem _ he)
  have kA : ∀ b ∈ A, b ∈ A ++ B := fun b hb => List.mem_append.mpr (.inl hb)
  have kB : ∀ b ∈ B, b ∈ A ++ B := fun b hb => List.mem_append.mpr (.inr hb)
  refine ⟨A ++ B, fun u hu => ?_, fun b hb => ?_⟩
  ·rcases List.mem_cons.mp hu with e | m
   ·rw [e]
    exact a1.mono kA
   ·exact (b1 u m).mono kB
  ·rcases List.mem_append.mp hb with m | m
   ·exact (a2 b m).mono kA
   ·exact (b2 b m).mono kB
end
end
def hoOf (o : Obj) : Option HO := match o.data with
 | .seq vs _ => if (o.cls == Value.type "list") = true then some (.frz o (.lst (vs.toList.map toV))) else some (.frz o (.tup (vs.toList.map toV)))
 | _ => none
def argH (K : PySem.W.Frag) (h : Heap) (A : List Addr) : Hp := fun b => if b ∈ A then (if (K.lookup b).isNone = true then (h.get? b).bind hoOf else none) else none
def OnlyF (H : Hp) : Prop := ∀ b, H b = none ∨ ∃ o u, H b = some (.frz o u)
theorem hoOf_lst (vs : List Value) : hoOf { cls := .type "list", data := .seq vs.toArray } = some (.frz { cls := .type "list", data := .seq vs.toArray } (.lst (vs.map toV))) := by
 show (if (Value.type "list" == Value.type "list") = true then some (HO.frz { cls := .type "list", data := .seq vs.toArray } (.lst (vs.toArray.toList.map toV))) else some (HO.frz { cls := .type "list", data := .seq vs.toArray } (.tup (vs.toArray.toList.map toV)))) = _
 rw [if_pos (beq_self_eq_true _)]
theorem hoOf_tup (vs : List Value) : hoOf { cls := .type "tuple", data := .seq vs.toArray } = some (.frz { cls := .type "tuple", data := .seq vs.toArray } (.tup (vs.map toV))) := by
 show (if (Value.type "tuple" == Value.type "list") = true then some (HO.frz { cls := .type "tuple", data := .seq vs.toArray } (.lst (vs.toArray.toList.map toV))) else some (HO.frz { cls := .type "tuple", data := .seq vs.toArray } (.tup (vs.toArray.toList.map toV)))) = _
 rw [if_neg (by decide)]
section
variable {P : Program} {w : World} {K : PySem.W.Frag} {h : Heap} {A : List Addr}
theorem argH_at {b : Addr} {o : Obj} (hb : b ∈ A) (hk : K.lookup b = none) (e : h.get? b = some o) : argH K h A b = hoOf o := by
 unfold argH
 rw [if_pos hb, hk, if_pos (show (none : Option Obj).isNone = true from rfl), e] <;> rfl
theorem of_argH {b : Addr} {u : HO} (q : argH K h A b = some u) : b ∈ A ∧ K.lookup b = none := by
 unfold argH at q
 by_cases hb : b ∈ A
 ·rw [if_pos hb] at q
  cases hk : K.lookup b with
  | none => exact ⟨hb, rfl⟩
  | some o =>
   rw [hk, if_neg (by simp)] at q
   cases q
 ·rw [if_neg hb] at q
  cases q
theorem argH_is (ar : ∀ a ∈ A, ArgOb h A a) {b : Addr} {u : HO} (q : argH K h A b = some u) : K.lookup b = none ∧ ∃ vs : List Value, vs.length ≤ sizeLine ∧ (∀ u ∈ vs, OkU A u) ∧
  ((h.get? b = some { cls := .type "list", data := .seq vs.toArray } ∧ u = .frz { cls := .type "list", data := .seq vs.toArray } (.lst (vs.map toV))) ∨
   (h.get? b = some { cls := .type "tuple", data := .seq vs.toArray } ∧ u = .frz { cls := .type "tuple", data := .seq vs.toArray } (.tup (vs.map toV)))) := by
 obtain ⟨hb, hk⟩ := of_argH q
 obtain ⟨vs, h1, h2, h3⟩ := ar b hb
 refine ⟨hk, vs, h1, h2, ?_⟩
 rcases h3 with e | e
 ·rw [argH_at hb hk e, hoOf_lst] at q
  exact .inl ⟨e, (Option.some.inj q).symm⟩
 ·rw [argH_at hb hk e, hoOf_tup] at q
  exact .inr ⟨e, (Option.some.inj q).symm⟩
theorem argH_only (ar : ∀ a ∈ A, ArgOb h A a) : OnlyF (argH K h A) := fun b => by
 cases q : argH K h A b with
 | none => exact .inl rfl
 | some u =>
  obtain ⟨_, vs, _, _, ⟨_, e⟩ | ⟨_, e⟩⟩ := argH_is ar q
  ·exact .inr ⟨_, _, by rw [e]⟩
  ·exact .inr ⟨_, _, by rw [e]⟩
theorem argH_ok (ar : ∀ a ∈ A, ArgOb h A a) : HOk P w (argH K h A) h := fun b u q => by
 obtain ⟨_, vs, h1, h2, ⟨e, rfl⟩ | ⟨e, rfl⟩⟩ := argH_is ar q
 ·exact ⟨e, by rw [List.length_map]; exact h1, vs, _, vals_toV h2, e⟩
 ·exact ⟨e, by rw [List.length_map]; exact h1, vs, vals_toV h2, _, e, rfl, _, rfl⟩
theorem seq_inj {c c' : Value} {vs us : List Value} (e : (some { cls := c, data := .seq vs.toArray } : Option Obj) = some { cls := c', data := .seq us.toArray }) : c = c' ∧ vs = us := by
 have e1 := Option.some.inj e
 have e2 : c = c' := congrArg Obj.cls e1
 have e3 : Data.seq vs.toArray = Data.seq us.toArray := congrArg Obj.data e1
 injection e3 with e4
 refine ⟨e2, ?_⟩
 have e5 := congrArg Array.toList e4
 simpa using e5
theorem argL (KX : K.In h) (ar : ∀ a ∈ A, ArgOb h A a) {a : Addr} {vs : List Value} (ha : a ∈ A) (e : h.get? a = some { cls := .type "list", data := .seq vs.toArray }) : (∀ u ∈ vs, OkU A u) ∧ SqL K (argH K h A) a (vs.map toV) := by
 obtain ⟨us, h1, h2, h3⟩ := ar a ha
 have hu : us = vs := by
  rcases h3 with q | q
  ·rw [e] at q
   exact (seq_inj q).2.symm
  ·rw [e] at q
   exact absurd (Value.type.inj (seq_inj q).1) (by decide)
 subst hu
 refine ⟨h2, ?_⟩
 cases hk : K.lookup a with
 | none => exact .inl (.inr ⟨_, by rw [argH_at ha hk e, hoOf_lst]⟩)
 | some o =>
  have e2 := KX a o hk
  rw [e] at e2
  obtain rfl := Option.some.inj e2
  exact .inr ⟨_, us.toArray, _, hk, rfl, rfl, rfl, by rw [List.size_toArray]; exact h1, by simpa using vals_toV h2⟩
theorem argT (KX : K.In h) (ar : ∀ a ∈ A, ArgOb h A a) {a : Addr} {vs : List Value} (ha : a ∈ A) (e : h.get? a = some { cls := .type "tuple", data := .seq vs.toArray }) : (∀ u ∈ vs, OkU A u) ∧ SqT K (argH K h A) a (vs.map toV) := by
 obtain ⟨us, h1, h2, h3⟩ := ar a ha
 have hu : us = vs := by
  rcases h3 with q | q
  ·rw [e] at q
   exact absurd (Value.type.inj (seq_inj q).1) (by decide)
  ·rw [e] at q
   exact (seq_inj q).2.symm
 subst hu
 refine ⟨h2, ?_⟩
 cases hk : K.lookup a with
 | none => exact .inl (.inr ⟨_, by rw [argH_at ha hk e, hoOf_tup]⟩)
 | some o =>
  have e2 := KX a o hk
  rw [e] at e2
  obtain rfl := Option.some.inj e2
  exact .inr ⟨_, us.toArray, _, hk, rfl, rfl, by rw [List.size_toArray]; exact h1, by simpa using vals_toV h2⟩
mutual
theorem dw_one {Pm : Params} (KX : K.In h) (ar : ∀ a ∈ A, ArgOb h A a) : ∀ (d : WData) (v : Value), Well Pm h v d → plW d = true → OkU A v → Dw K (argH K h A) (toV v) d
 | .none, _, x, _, _ => by
  cases x
  exact .non
 | .bool b, _, x, _, _ => by
  cases x
  exact .bl b
 | .int i, _, x, _, _ => by
  cases x
  exact .int i
 | .str s, _, x, _, _ => by
  cases x
  exact .str s
 | .bytes b, _, x, _, _ => by
  cases x
  have z := Dw.byt (K := K) (H := argH K h A) b.toArray
  exact z
 | .list ds, _, x, p, hu => by
  obtain ⟨a, vs, rfl, ho, hall⟩ := well_list x
  obtain ⟨h2, hs⟩ := argL KX ar hu ho
  exact .lst hs (dw_all KX ar ds _ hall p h2)
 | .tuple ds, _, x, p, hu => by
  obtain ⟨a, vs, rfl, ho, hall⟩ := well_tuple x
  obtain ⟨h2, hs⟩ := argT KX ar hu ho
  exact .tup hs (dw_all KX ar ds _ hall p h2)
 | .float _, _, _, p, _ => Bool.noConfusion (show false = true from p)
 | .dict _, _, _, p, _ => Bool.noConfusion (show false = true from p)
 | .bytearray _, _, _, p, _ => Bool.noConfusion (show false = true from p)
 | .set _, _, _, p, _ => Bool.noConfusion (show false = true from p)
 | .frozenset _, _, _, p, _ => Bool.noConfusion (show false = true from p)
 | .obj _ _, _, _, p, _ => Bool.noConfusion (show false = true from p)
theorem dw_all {Pm : Params} (KX : K.In h) (ar : ∀ a ∈ A, ArgOb h A a) : ∀ (ds : List WData) (vs : List Value), WellAll Pm h vs ds → plWs ds = true → (∀ u ∈ vs, OkU A u) → DwAll K (argH K h A) (vs.map toV) ds
 | [], _, x, _, _ => by
  cases x
  exact .nil
 | d :: ds, _, x, p, hu => by
  obtain ⟨v, vs, rfl, x1, x2⟩ := well_cons x
  have q : plW d = true ∧ plWs ds = true := Bool.and_eq_true_iff.mp p
  exact .cons (dw_one KX ar d v x1 q.1 (hu _ (List.mem_cons_self ..))) (dw_all KX ar ds vs x2 q.2 fun u m => hu u (List.mem_cons_of_mem _ m))
end
end
theorem spec_call {P : Program} {w : World} {K : PySem.W.Frag} {mg mb : Str → Option Value} {CX : CXT} {k : Nat} {fa : Addr} {fd : FuncData} {ps : List Str} {sp : Sp} {s₁ : Shared} {vals : List Value} {ds : List WData} {R : PySem.W.WRecords} {cl : Str → Option Addr} {d0 : WData}
  (KX : K.In s₁.heap) (hns : s₁.heap.Ns mainGlobals mg) (hb : s₁.heap.Ns builtinsNs mb) (hbb : ∀ x : Str, x ≠ "__name__" → mb x = bootBuiltins x) (hlim : s₁.heap.NoLimit) (hg : s₁.gens = #[])
  (hwl : WellAll w.params s₁.heap vals ds) (hpl : plWs ds = true) (hwt : ∀ d ∈ ds, d.weight ≤ 1048576) (hr : Room k callerA)
  (F : ∀ base : Heap, K.In base → base.Ns mainGlobals mg → FnOk P w K mg base CX k fa fd ps sp) (hbind : ∀ (s : Shared) (us : List Value), us.length = ps.length → BindsTo s fd ⟨us, []⟩ (ps.zip us)) (hlen : ds.length = ps.length)
  (hsp : ∀ (H : Hp) (xs : List V), OnlyF H → DwAll K H xs ds → sp xs H (fun v H' => Dw K H' v d0) fun _ _ _ => False)
  (hCX : ∀ H e s', CX [] H s₁ (fun _ _ _ => False) e s' → False) :
  codeAny (model P w) callerA (.call (.ref fa) ⟨vals, []⟩) (fun r s' => ∃ u as, r = .ok (.ret u) ∧ ReadsW R cl s'.heap u d0 as ∧ OldK s₁.heap s'.heap ∧ s'.os = s₁.os ∧ AllBare s'.gens) s₁ := by
 obtain ⟨A, ho, ar⟩ := area_all ds vals hwl hpl hwt
 have hO : OnlyF (argH K s₁.heap A) := argH_only ar
 have hok : HOk P w (argH K s₁.heap A) s₁.heap := argH_ok ar
 have hS := dw_all KX ar ds vals hwl hpl ho
 have hV := vals_toV ho
 have hK : ∀ b u, argH K s₁.heap A b = some u → K.lookup b = none := fun b u q => (argH_is ar q).1
 have noA : ∀ {b : Addr} {o : Obj} {es : Array DictEntry} {ep : Nat}, s₁.heap.get? b = some o → o.data = .dict es ep → argH K s₁.heap A b = none := fun {b o es ep} e d => by
  cases q : argH K s₁.heap A b with
  | none => rfl
  | some u =>
   obtain ⟨_, vs, _, _, ⟨e2, _⟩ | ⟨e2, _⟩⟩ := argH_is ar q
   ·rw [e2] at e
    cases e
    have d' : Data.seq vs.toArray _ = Data.dict es ep := d
    cases d'
   ·rw [e2] at e
    cases e
    have d' : Data.seq vs.toArray _ = Data.dict es ep := d
    cases d'
 generalize argH K s₁.heap A = H at hO hok hS hK noA
 have base_of : ∀ {b : Addr} {o : Obj}, s₁.heap.get? b = some o → H b = none → (hidT s₁.heap H).get? b = some o := fun e n => hidT_get e n
 have nsK : ∀ {b : Addr} {m : Str → Option Value}, s₁.heap.Ns b m → (hidT s₁.heap H).Ns b m := fun {b m} ⟨o, es, ep, e, d, r⟩ => ⟨o, es, ep, base_of e (noA e d), d, r⟩
 have nK : ∀ b o, K.lookup b = some o → H b = none := fun b o e => by
  cases q : H b with
  | none => rfl
  | some u =>
   rw [hK b u q] at e
   cases e
 have hKb : K.In (hidT s₁.heap H) := fun b o e => base_of (KX b o e) (nK b o e)
 have hM : Mod K mg (hidT s₁.heap H) := ⟨hKb, nsK hns, ⟨mb, nsK hb, hbb⟩, let ⟨mc, h1, h2⟩ := hlim; ⟨mc, nsK h1, h2⟩⟩
 have e0 : Env0 P w K mg (hidT s₁.heap H) callerA [] s₁ H := ⟨rfl, hM, fun b o e => of_hidT e, Nat.le_of_eq (hidT_size _ _), trivial, fun b hb => absurd (show b ∈ ([] : List Addr) from hb) (by simp), hok, .of_eq hg⟩
 have hl : vals.length = ps.length := by rw [wellAll_len hwl]; exact hlen
 refine codeAny_mono ((F _ hKb (nsK hns)).run callerA [] s₁ H ⟨vals, []⟩ vals (vals.map toV) _ _ hr e0 (hbind s₁ vals hl) hV (hsp H _ hO hS)) fun r s' x => ?_
 cases r with
 | error e => exact (hCX H e s' x).elim
 | ok fl =>
  cases fl with
  | next => exact False.elim x
  | brk => exact False.elim x
  | cont => exact False.elim x
  | ret u =>
   obtain ⟨v, H', os, bare, un, hok', r', q⟩ := x
   have kept : ∀ b o, s₁.heap.get? b = some o → s'.heap.get? b = some o := fun b o e => by
    cases q2 : H b with
    | none => exact un.keep b o e q2 (by intro z; exact absurd (show b ∈ ([] : List Addr) from z) (by simp)) (by simp)
    | some u2 =>
     rcases hO b with z | ⟨ob, u3, z⟩
     ·rw [q2] at z
      cases z
     ·have z2 := un.frzs b ob _ z
      obtain ⟨e1, _⟩ := hok b _ z
      obtain ⟨e2, _⟩ := hok' b _ z2
      rw [e] at e1
      cases e1
      exact e2
   have KX' : K.In s'.heap := fun b o e => kept b o (KX b o e)
   obtain ⟨as, hrd⟩ := Dw.reads (R := R) (cl := cl) hok' KX' d0 v u q r'
   exact ⟨u, as, rfl, hrd, OldK.of_keep kept, os, bare⟩
theorem layable_weight {ds : List WData} (h : WData.layableAll ds = true) : ∀ d ∈ ds, d.weight ≤ 1048576 := fun d hd =>
 (PySem.W.layableW_iff.mp (List.all_eq_true.mp h d hd)).2.2
theorem encAll_len : ∀ (cs : List Codec) (a : Codec.denoteAll cs), (Codec.encAll cs a).length = cs.length
 | [], _ => rfl
 | c :: cs, a => by
  show (Codec.encAll cs a.2).length + 1 = cs.length + 1
  rw [encAll_len cs a.2]
theorem walk_spec {r : OpenSpec} {k : Nat} {q : Program} {loose : List Str} {XP : (Str → Option Value) → Heap → Prop} {YP : World → Heap → Prop} {d : DefRec} {K : Params → PySem.W.Frag} {CX : World → CXT} {ps : List Str} {sp : World → Sp}
  (hwell : r.wellSaid = true) (hdf : d.params.defaults = []) (hlen : r.args.length = ps.length) (hr : Room k callerA)
  (hY : ∀ (w : World) (h : Heap), YP w h → (K w.params).In h)
  (F : ∀ (w : World) (mg : Str → Option Value) (fa : Addr) (h : Heap), YP w h → (K w.params).In h → h.Ns mainGlobals mg → mg d.name = some (.ref fa) →
   ∃ fd : FuncData, (∀ (s : Shared) (us : List Value), us.length = ps.length → BindsTo s fd ⟨us, []⟩ (ps.zip us)) ∧
    ∀ base : Heap, (K w.params).In base → base.Ns mainGlobals mg → FnOk r.prog w (K w.params) mg base (CX w) k fa fd ps (sp w))
  (hsp : ∀ (w : World) (H : Hp) (xs : List V) (a : Codec.denoteAll r.args), OnlyF H → Codec.withinAll r.args a = true → Codec.app r.args r.asked a = true → DwAll (K w.params) H xs (Codec.encAll r.args a) →
   sp w xs H (fun v H' => Dw (K w.params) H' v (r.ret.enc (Codec.app r.args r.f a))) fun _ _ _ => False)
  (hCX : ∀ (w : World) (H : Hp) (s : Shared) (e : Value) (s' : Shared), CX w [] H s (fun _ _ _ => False) e s' → False) :
  PySem.W.WalkOS q loose XP YP r d [] (fun f vs => PySem.call f vs) := by
 intro w s_0 s₁ mg mb G Y fa o pm cd doc dV kV ho hd hcd hD hmg hg args vals as hpre hlay hrd hwl hlo
 obtain ⟨a, e1, e2⟩ := PySem.W.os_pre_some hpre
 obtain ⟨e3, hwi⟩ := Codec.encAll_of_decAll r.args args a e1
 subst e3
 have KX := hY w _ Y
 obtain ⟨fd, hb, hF⟩ := F w mg fa _ Y KX G.T.g hmg
 refine PySem.W.enter_call (codeAny_mono (spec_call (R := []) (cl := classAt s_0.heap) (d0 := r.ret.enc (Codec.app r.args r.f a)) KX G.T.g G.T.b G.T.builtins G.T.nolimit hg hwl (pl_encAll _ _) (layable_weight hlay) hr hF hb (by rw [encAll_len]; exact hlen)
  (fun H xs hO hS => hsp w H xs a hO hwi e2 hS) fun H e s' => hCX w H s₁ e s') fun r' s' hq => ?_)
 obtain ⟨u, as', rfl, h1, h2, h3, h4⟩ := hq
 exact ⟨.inl ⟨u, _, as', rfl, fun _ => rfl, h1, (OpenSpec.post_iff hwell hwi _ _).mpr rfl, fun z => Bool.noConfusion (show false = true from z)⟩, h2, h3, h4⟩
theorem walk_specK {r : OpenSpec} {k : Nat} {q : Program} {loose : List Str} {XP : (Str → Option Value) → Heap → Prop} {YP : World → Heap → Prop} {d : DefRec} {K : Params → PySem.W.Frag} {CX : CXT} {ps : List Str} {sp : PySem.W.Frag → Sp}
  (hwell : r.wellSaid = true) (hdf : d.params.defaults = []) (hlen : r.args.length = ps.length) (hr : Room k callerA)
  (hY : ∀ (w : World) (h : Heap), YP w h → (K w.params).In h)
  (F : ∀ (w : World) (mg : Str → Option Value) (fa : Addr) (h : Heap), YP w h → (K w.params).In h → h.Ns mainGlobals mg → mg d.name = some (.ref fa) →
   ∃ fd : FuncData, (∀ (s : Shared) (us : List Value), us.length = ps.length → BindsTo s fd ⟨us, []⟩ (ps.zip us)) ∧
    ∀ base : Heap, (K w.params).In base → base.Ns mainGlobals mg → FnOk r.prog w (K w.params) mg base CX k fa fd ps (sp (K w.params)))
  (hsp : ∀ (K : PySem.W.Frag) (H : Hp) (xs : List V) (a : Codec.denoteAll r.args), OnlyF H → Codec.withinAll r.args a = true → Codec.app r.args r.asked a = true → DwAll K H xs (Codec.encAll r.args a) →
   sp K xs H (fun v H' => Dw K H' v (r.ret.enc (Codec.app r.args r.f a))) fun _ _ _ => False)
  (hCX : ∀ (H : Hp) (s : Shared) (e : Value) (s' : Shared), CX [] H s (fun _ _ _ => False) e s' → False) :
  PySem.W.WalkOS q loose XP YP r d [] (fun f vs => PySem.call f vs) :=
 walk_spec (K := K) (CX := fun _ => CX) (sp := fun w => sp (K w.params)) hwell hdf hlen hr hY F (fun w H xs a h1 h2 h3 h4 => hsp (K w.params) H xs a h1 h2 h3 h4) fun _ H s e s' => hCX H s e s'
end L2
end
end
section
namespace SX
open PySem PySem.Spec PyProof.Rows
open AutoSeq1 (wpAny_loadPart')
def itName (t : Bool) : String := if t then "tuple_iterator" else "list_iterator"
def IterK (t : Bool) (h : Heap) (it l : Addr) (i : Nat) : Prop := match t with
 | true => h.IsTupleIter it l i
 | false => h.IsListIter it l i
def SeqK (t : Bool) (h : Heap) (l : Addr) (items : Array Value) : Prop := match t with
 | true => h.IsTuple l items
 | false => h.IsList l items
theorem IterK.get {t : Bool} {h : Heap} {it l : Addr} {i : Nat} (x : IterK t h it l i) : ∃ o, h.get? it = some o ∧ o.cls = .type (itName t) ∧ o.data = .fields #[.ref l, .int i 0] := by
 cases t
 ·exact x
 ·exact x
theorem IterK.mk {t : Bool} {h : Heap} {it l : Addr} {i : Nat} (x : ∃ o, h.get? it = some o ∧ o.cls = .type (itName t) ∧ o.data = .fields #[.ref l, .int i 0]) : IterK t h it l i := by
 cases t
 ·exact x
 ·exact x
theorem IterK.at {t : Bool} {h h' : Heap} {it l : Addr} {i : Nat} (x : IterK t h it l i) (e : ∀ o, h.get? it = some o → h'.get? it = some o) : IterK t h' it l i :=
 let ⟨o, ho, r⟩ := x.get; .mk ⟨o, e _ ho, r⟩
theorem IterK.extBut {t : Bool} {h h' : Heap} {it b l : Addr} {i : Nat} (x : IterK t h it l i) (hs : Heap.ExtBut b h h') (hab : it ≠ b) : IterK t h' it l i :=
 x.at fun o e => hs it o hab e
theorem IterK.lt {t : Bool} {h : Heap} {it l : Addr} {i : Nat} (x : IterK t h it l i) : it < h.objs.size := let ⟨_, e, _⟩ := x.get; Heap.lt_size e
theorem SeqK.at {t : Bool} {h h' : Heap} {l : Addr} {items : Array Value} (x : SeqK t h l items) (e : ∀ o, h.get? l = some o → h'.get? l = some o) : SeqK t h' l items := by
 cases t
 ·obtain ⟨o, ho, r⟩ := x; exact ⟨o, e _ ho, r⟩
 ·obtain ⟨o, ho, r⟩ := x; exact ⟨o, e _ ho, r⟩
theorem SeqK.extBut {t : Bool} {h h' : Heap} {b l : Addr} {items : Array Value} (x : SeqK t h l items) (hs : Heap.ExtBut b h h') (hab : l ≠ b) : SeqK t h' l items :=
 x.at fun o e => hs l o hab e
theorem SeqK.lt {t : Bool} {h : Heap} {l : Addr} {items : Array Value} (x : SeqK t h l items) : l < h.objs.size := by
 cases t
 ·obtain ⟨o, ho, r⟩ := x; exact Heap.lt_size ho
 ·obtain ⟨o, ho, r⟩ := x; exact Heap.lt_size ho
theorem SeqK.push {t : Bool} {h : Heap} {l : Addr} {items : Array Value} (x : SeqK t h l items) (o : Obj) : SeqK t (h.push o) l items := x.at fun _ e => Heap.get?_push_of_some o e
section
variable {prog : Program} {w : World} {A : Around} {E : Value → Shared → Prop} {s : Shared}
theorem nextOf_tuple_item {it l : Addr} {i : Nat} {items} {x : Value} {Q : Value → Shared → Prop} (hit : s.heap.IsTupleIter it l i)
  (hl : s.heap.IsTuple l items) (hx : items[i]? = some x)
  (hQ : ∀ h', h'.IsTupleIter it l (i + 1) → Heap.SameBut it s.heap h' → Q x { s with heap := h' }) :
  wpAny (model prog w) A (Builtin.SmallTypes.nextOf (.ref it)) Q E s := by
 obtain ⟨o, ho, hc, hd⟩ := id hit
 obtain ⟨ol, hol, _, nl, hdl⟩ := hl
 unfold Builtin.SmallTypes.nextOf
 refine wpAny_bind (wpAny_callSpecial?_slot (name := Str.ofString "__next__") hit.typeIs F.slot_tuple_iterator_next
  (wpAny_call_entry F.slot_tuple_iterator_next hit.typeIs F.entry_tuple_iterator_next ?_ (F.args_tuple_iterator_next_1 _)))
 show wpAny _ _ (field (.ref it) 0 >>= _) _ _ s
 refine wpAny_bind (wpAny_field ho hd (x := .ref l) rfl ?_)
 show wpAny _ _ (if (Value.ref l == Value.none) = true then _ else _) _ _ s
 rw [if_neg (show ¬ ((Value.ref l == Value.none) = true) from Bool.false_ne_true)]
 show wpAny _ _ (field (.ref it) 1 >>= _) _ _ s
 refine wpAny_bind (wpAny_field ho hd (x := .int i 0) rfl ?_)
 show wpAny _ _ (seqItems? (.ref l) >>= _) _ _ s
 refine wpAny_bind (wpAny_seqItems hol hdl ?_)
 simp only [Int.toNat_natCast, hx]
 refine wpAny_bind (wpAny_setField ho hd (by simp) (wpAny_pure ⟨x, rfl, wpAny_pure (hQ _ ?_ (Heap.SameBut.update ..))⟩))
 exact ⟨_, Heap.get?_update_self _ ho (Obj.isFreed_of_fields (Obj.data_mapFields hd _)), (Obj.cls_mapFields ..).trans hc, by
  rw [Obj.data_mapFields hd]; simp [rawInt]⟩
theorem nextOf_tuple_end {it t : Addr} {i : Nat} {items} {Q : Value → Shared → Prop} (hh : A.handled = none)
  (hit : s.heap.IsTupleIter it t i) (ht : s.heap.IsTuple t items) (hx : items[i]? = none)
  (hE : ∀ h' e, Heap.ExtBut it s.heap h' → (∃ o, h'.get? e = some o ∧ o.cls = .type "StopIteration") → E (.ref e) { s with heap := h' }) :
  wpAny (model prog w) A (Builtin.SmallTypes.nextOf (.ref it)) Q E s := by
 obtain ⟨o, ho, hc, hd⟩ := id hit
 obtain ⟨ol, hol, _, nl, hdl⟩ := ht
 unfold Builtin.SmallTypes.nextOf
 refine wpAny_bind (wpAny_callSpecial?_slot (name := Str.ofString "__next__") hit.typeIs F.slot_tuple_iterator_next
  (wpAny_call_entry F.slot_tuple_iterator_next hit.typeIs F.entry_tuple_iterator_next ?_ (F.args_tuple_iterator_next_1 _)))
 show wpAny _ _ (field (.ref it) 0 >>= _) _ _ s
 refine wpAny_bind (wpAny_field ho hd (x := .ref t) rfl ?_)
 show wpAny _ _ (if (Value.ref t == Value.none) = true then _ else _) _ _ s
 rw [if_neg (show ¬ ((Value.ref t == Value.none) = true) from Bool.false_ne_true)]
 show wpAny _ _ (field (.ref it) 1 >>= _) _ _ s
 refine wpAny_bind (wpAny_field ho hd (x := .int i 0) rfl ?_)
 show wpAny _ _ (seqItems? (.ref t) >>= _) _ _ s
 refine wpAny_bind (wpAny_seqItems hol hdl ?_)
 simp only [Int.toNat_natCast, hx]
 refine wpAny_bind (wpAny_rule (wpAny_bind (wpAny_setField ho hd (by simp) ?_)))
 show wpAny _ _ (newExc (.type "StopIteration") [] >>= _) _ _ _
 refine wpAny_bind ?_
 simp only [newExc, newTuple]
 refine wpAny_bind (wpAny_newObj_type ?_ (by size_fits))
 refine wpAny_bind (m := firstArgMember _ _) (wpAny_of_eq (a := Value.none) (by first | rfl | (simp only [firstArgMember]; rfl)) ?_)
 refine wpAny_newObj_type ?_ (by size_fits)
 simp only [raiseNew]
 refine wpAny_bind (wpAny_handled ?_)
 first | rw [show A.in1.handled = none from hh] | rw [hh]
 refine wpAny_bind (wpAny_pure (wpAny_throw ?_))
 exact hE _ _ (((Heap.SameBut.update ..).extBut.push _).push _) ⟨_, Heap.get?_push_size _ rfl, rfl⟩
theorem nextK_item {t : Bool} {it l : Addr} {i : Nat} {items} {x : Value} {Q : Value → Shared → Prop} (hit : IterK t s.heap it l i)
  (hl : SeqK t s.heap l items) (hx : items[i]? = some x)
  (hQ : ∀ h', IterK t h' it l (i + 1) → Heap.SameBut it s.heap h' → Q x { s with heap := h' }) :
  wpAny (model prog w) A (Builtin.SmallTypes.nextOf (.ref it)) Q E s := by
 cases t
 ·exact wpAny_nextOf_list_item hit hl hx hQ
 ·exact nextOf_tuple_item hit hl hx hQ
theorem nextK_end {t : Bool} {it l : Addr} {i : Nat} {items} {Q : Value → Shared → Prop} (hh : A.handled = none)
  (hit : IterK t s.heap it l i) (hl : SeqK t s.heap l items) (hx : items[i]? = none)
  (hE : ∀ h' e, Heap.ExtBut it s.heap h' → (∃ o, h'.get? e = some o ∧ o.cls = .type "StopIteration") → E (.ref e) { s with heap := h' }) :
  wpAny (model prog w) A (Builtin.SmallTypes.nextOf (.ref it)) Q E s := by
 cases t
 ·exact wpAny_nextOf_list_end hh hit hl hx hE
 ·exact nextOf_tuple_end hh hit hl hx hE
theorem pyIterK {t : Bool} {l : Addr} {items} {Q : Value → Shared → Prop} (hl : SeqK t s.heap l items)
  (hQ : Q (.ref s.heap.objs.size) { s with heap := s.heap.push { cls := .type (itName t), data := .fields #[.ref l, .int 0 0] } }) :
  wpAny (model prog w) A (pyIter (.ref l)) Q E s := by
 cases t
 ·exact wpAny_pyIter_list hl hQ
 ·exact wpAny_pyIter_tuple hl hQ
theorem zipK_next_item {t1 t2 : Bool} {z TI TO i1 i2 l1 l2 : Addr} {k1 k2 : Nat} {xs ys : Array Value} {x y a b : Value} {Q : Value → Shared → Prop} (D : ZipApart z TI TO i1 i2 l1 l2)
  (hz : IsZip s.heap z TI TO .none) (hTI : IsPair s.heap TI (.ref i1) (.ref i2)) (hTO : IsPair s.heap TO a b)
  (h1 : IterK t1 s.heap i1 l1 k1) (h2 : IterK t2 s.heap i2 l2 k2) (hl1 : SeqK t1 s.heap l1 xs) (hl2 : SeqK t2 s.heap l2 ys) (hx : xs[k1]? = some x) (hy : ys[k2]? = some y)
  (hQ : ∀ h', IsZip h' z TI TO (rawInt s.heap.objs.size) → IsPair h' TO x y → IterK t1 h' i1 l1 (k1 + 1) → IterK t2 h' i2 l2 (k2 + 1) → IsPair h' s.heap.objs.size x y → h'.objs.size = s.heap.objs.size + 1 →
   (∀ c o, c ≠ z → c ≠ TO → c ≠ i1 → c ≠ i2 → s.heap.get? c = some o → h'.get? c = some o) → Q (.ref s.heap.objs.size) { s with heap := h' }) :
  wpAny (model prog w) A (Builtin.«zip.__next__» ⟨[.ref z], []⟩) (fun fin s' => ∃ v, fin = .done (.ret v) ∧ Q v s') E s := by
 show wpAny _ _ (field (.ref z) 2 >>= _) _ _ _
 refine wpAny_bind (wpAny_field hz rfl (x := .bool false) rfl ?_)
 show wpAny _ _ (field (.ref z) 3 >>= _) _ _ _
 refine wpAny_bind (wpAny_field hz rfl (x := .ref TI) rfl ?_)
 refine wpAny_bind (wpAny_seqItems hTI rfl ?_)
 show wpAny _ _ (Builtin.SmallTypes.ownedTupleIsFree (.ref z) >>= _) _ _ _
 refine wpAny_bind ?_
 unfold Builtin.SmallTypes.ownedTupleIsFree
 refine wpAny_bind (wpAny_field hz rfl (x := .none) rfl (wpAny_pure ?_))
 simp only [if_true]
 refine wpAny_bind (wpAny_rule ?_)
 refine wpAny_bind (wpAny_field hz rfl (x := .ref TO) rfl ?_)
 refine wpAny_bind (wpAny_setField_rec hz (by simp) fun h₁ hz₁ hs₁ => ?_)
 replace hz₁ : IsZip h₁ z TI TO .ellipsis := hz₁
 refine wpAny_bind ?_
 simp only [List.zipIdx_cons, List.zipIdx_nil, List.forIn_cons, List.forIn_nil]
 refine wpAny_bind (wpAny_bind (wpAny_onRaise ?_))
 show wpAny _ _ (Builtin.SmallTypes.nextOf (.ref i1) >>= _) _ _ _
 refine wpAny_bind (nextK_item (h1.extBut hs₁.extBut D.i1z) (hl1.extBut hs₁.extBut D.l1z) hx fun h₂ h1₂ hs₂ => wpAny_pure ?_)
 have hTO₂ : IsPair h₂ TO a b := hs₂.extBut _ _ D.TOi1 (hs₁.extBut _ _ D.TOz hTO)
 refine wpAny_bind (wpAny_seqItems hTO₂ rfl ?_)
 refine wpAny_bind (wpAny_updateSeq_pair hTO₂ fun h₃ hTO₃ hs₃ => ?_)
 replace hTO₃ : IsPair h₃ TO x b := hTO₃
 refine wpAny_bind (wpAny_letGo (wpAny_pure ?_))
 refine wpAny_bind (wpAny_bind (wpAny_onRaise ?_))
 show wpAny _ _ (Builtin.SmallTypes.nextOf (.ref i2) >>= _) _ _ _
 refine wpAny_bind (nextK_item (((h2.extBut hs₁.extBut D.i2z).extBut hs₂.extBut D.i12.symm).extBut hs₃.extBut D.TOi2.symm)
  (((hl2.extBut hs₁.extBut D.l2z).extBut hs₂.extBut D.l2i1).extBut hs₃.extBut D.l2TO) hy fun h₄ h2₄ hs₄ => wpAny_pure ?_)
 have hTO₄ : IsPair h₄ TO x b := hs₄.extBut _ _ D.TOi2 hTO₃
 refine wpAny_bind (wpAny_seqItems hTO₄ rfl ?_)
 refine wpAny_bind (wpAny_updateSeq_pair hTO₄ fun h₅ hTO₅ hs₅ => ?_)
 replace hTO₅ : IsPair h₅ TO x y := hTO₅
 refine wpAny_bind (wpAny_letGo (wpAny_pure (wpAny_pure ?_)))
 refine wpAny_bind (wpAny_seqItems hTO₅ rfl ?_)
 refine wpAny_bind (wpAny_newTuple ?_)
 have hsz : h₅.objs.size = s.heap.objs.size := by rw [hs₅.1, hs₄.1, hs₃.1, hs₂.1, hs₁.1]
 have hz₅ : IsZip h₅ z TI TO .ellipsis := hs₅.extBut _ _ D.TOz.symm (hs₄.extBut _ _ D.i2z.symm (hs₃.extBut _ _ D.TOz.symm (hs₂.extBut _ _ D.i1z.symm hz₁)))
 have hk₅ : ∀ c o, c ≠ z → c ≠ TO → c ≠ i1 → c ≠ i2 → s.heap.get? c = some o → h₅.get? c = some o := fun c o c1 c2 c3 c4 e =>
  hs₅.extBut _ _ c2 (hs₄.extBut _ _ c4 (hs₃.extBut _ _ c2 (hs₂.extBut _ _ c3 (hs₁.extBut _ _ c1 e))))
 have h1₅ : IterK t1 h₅ i1 l1 (k1 + 1) := ((h1₂.extBut hs₃.extBut D.TOi1.symm).extBut hs₄.extBut D.i12).extBut hs₅.extBut D.TOi1.symm
 have h2₅ : IterK t2 h₅ i2 l2 (k2 + 1) := h2₄.extBut hs₅.extBut D.TOi2.symm
 have hzlt : z < h₅.objs.size := Heap.lt_size hz₅
 have hTOlt : TO < h₅.objs.size := Heap.lt_size hTO₅
 have hi1lt : i1 < h₅.objs.size := h1₅.lt
 have hi2lt : i2 < h₅.objs.size := h2₅.lt
 show wpAny _ _ (Builtin.SmallTypes.ownedTupleHandOut (.ref z) (.ref h₅.objs.size) >>= _) _ _ _
 refine wpAny_bind ?_
 unfold Builtin.SmallTypes.ownedTupleHandOut
 have hz₆ : IsZip (h₅.push { cls := .type "tuple", data := .seq #[x, y] }) z TI TO .ellipsis := Heap.get?_push_of_some _ hz₅
 refine wpAny_bind (wpAny_setField_rec hz₆ (by simp) fun h₇ hz₇ hs₇ => ?_)
 replace hz₇ : IsZip h₇ z TI TO (rawInt h₅.objs.size) := hz₇
 refine wpAny_setField_rec hz₇ (by simp) fun h₈ hz₈ hs₈ => ?_
 replace hz₈ : IsZip h₈ z TI TO (rawInt h₅.objs.size) := hz₈
 have up : ∀ c o, c ≠ z → h₅.get? c = some o → h₈.get? c = some o := fun c o c1 e => hs₈.extBut _ _ c1 (hs₇.extBut _ _ c1 (Heap.get?_push_of_some _ e))
 have hT₈ : IsPair h₈ h₅.objs.size x y := hs₈.extBut _ _ (Nat.ne_of_gt hzlt) (hs₇.extBut _ _ (Nat.ne_of_gt hzlt) (Heap.get?_push_size _ rfl))
 have hz8 : h₈.objs.size = h₅.objs.size + 1 := by rw [hs₈.1, hs₇.1, Heap.size_push]
 rw [hsz] at hz₈ hT₈ hz8
 refine wpAny_pure ⟨_, rfl, ?_⟩
 show Q (.ref h₅.objs.size) _
 rw [hsz]
 exact hQ h₈ hz₈ (up _ _ D.TOz hTO₅) (h1₅.at fun o e => up _ o D.i1z e) (h2₅.at fun o e => up _ o D.i2z e) hT₈ hz8 fun c o c1 c2 c3 c4 e => up c o c1 (hk₅ c o c1 c2 c3 c4 e)
theorem zipK_next_end {t1 t2 : Bool} {z TI TO i1 i2 l1 l2 : Addr} {k1 k2 : Nat} {xs ys : Array Value} {a b : Value} {Q : Fin → Shared → Prop} (hh : A.handled = none) (D : ZipApart z TI TO i1 i2 l1 l2)
  (hz : IsZip s.heap z TI TO .none) (hTI : IsPair s.heap TI (.ref i1) (.ref i2)) (hTO : IsPair s.heap TO a b)
  (h1 : IterK t1 s.heap i1 l1 k1) (h2 : IterK t2 s.heap i2 l2 k2) (hl1 : SeqK t1 s.heap l1 xs) (hl2 : SeqK t2 s.heap l2 ys) (hend : xs[k1]? = none ∨ ys[k2]? = none)
  (hE : ∀ h' e, (∀ c o, c ≠ z → c ≠ TO → c ≠ i1 → c ≠ i2 → s.heap.get? c = some o → h'.get? c = some o) → (∃ o, h'.get? e = some o ∧ o.cls = .type "StopIteration") → E (.ref e) { s with heap := h' }) :
  wpAny (model prog w) A (Builtin.«zip.__next__» ⟨[.ref z], []⟩) Q E s := by
 show wpAny _ _ (field (.ref z) 2 >>= _) _ _ _
 refine wpAny_bind (wpAny_field hz rfl (x := .bool false) rfl ?_)
 show wpAny _ _ (field (.ref z) 3 >>= _) _ _ _
 refine wpAny_bind (wpAny_field hz rfl (x := .ref TI) rfl ?_)
 refine wpAny_bind (wpAny_seqItems hTI rfl ?_)
 show wpAny _ _ (Builtin.SmallTypes.ownedTupleIsFree (.ref z) >>= _) _ _ _
 refine wpAny_bind ?_
 unfold Builtin.SmallTypes.ownedTupleIsFree
 refine wpAny_bind (wpAny_field hz rfl (x := .none) rfl (wpAny_pure ?_))
 simp only [if_true]
 refine wpAny_bind (wpAny_rule ?_)
 refine wpAny_bind (wpAny_field hz rfl (x := .ref TO) rfl ?_)
 refine wpAny_bind (wpAny_setField_rec hz (by simp) fun h₁ hz₁ hs₁ => ?_)
 replace hz₁ : IsZip h₁ z TI TO .ellipsis := hz₁
 refine wpAny_bind ?_
 simp only [List.zipIdx_cons, List.zipIdx_nil, List.forIn_cons, List.forIn_nil]
 refine wpAny_bind (wpAny_bind (wpAny_onRaise ?_))
 show wpAny _ _ (Builtin.SmallTypes.nextOf (.ref i1) >>= _) _ _ _
 cases hx : xs[k1]? with
 | none =>
  refine wpAny_bind (nextK_end hh (h1.extBut hs₁.extBut D.i1z) (hl1.extBut hs₁.extBut D.l1z) hx fun h₂ e hs₂ he => ?_)
  obtain ⟨oe, hoe, hce⟩ := he
  have hz₂ : IsZip h₂ z TI TO .ellipsis := hs₂ _ _ D.i1z.symm hz₁
  have hez : e ≠ z := fun x => by subst x; rw [hz₂] at hoe; cases hoe; simp at hce
  refine wpAny_setField_rec hz₂ (by simp) fun h₃ _ hs₃ => hE h₃ e (fun c o c1 _ c3 _ x => hs₃.extBut _ _ c1 (hs₂ _ _ c3 (hs₁.extBut _ _ c1 x))) ⟨oe, hs₃.extBut _ _ hez hoe, hce⟩
 | some x =>
  have hy : ys[k2]? = none := by rcases hend with h | h; rw [hx] at h; cases h; exact h
  refine wpAny_bind (nextK_item (h1.extBut hs₁.extBut D.i1z) (hl1.extBut hs₁.extBut D.l1z) hx fun h₂ h1₂ hs₂ => wpAny_pure ?_)
  have hTO₂ : IsPair h₂ TO a b := hs₂.extBut _ _ D.TOi1 (hs₁.extBut _ _ D.TOz hTO)
  refine wpAny_bind (wpAny_seqItems hTO₂ rfl ?_)
  refine wpAny_bind (wpAny_updateSeq_pair hTO₂ fun h₃ hTO₃ hs₃ => ?_)
  refine wpAny_bind (wpAny_letGo (wpAny_pure ?_))
  refine wpAny_bind (wpAny_bind (wpAny_onRaise ?_))
  show wpAny _ _ (Builtin.SmallTypes.nextOf (.ref i2) >>= _) _ _ _
  refine wpAny_bind (nextK_end hh (((h2.extBut hs₁.extBut D.i2z).extBut hs₂.extBut D.i12.symm).extBut hs₃.extBut D.TOi2.symm)
   (((hl2.extBut hs₁.extBut D.l2z).extBut hs₂.extBut D.l2i1).extBut hs₃.extBut D.l2TO) hy fun h₄ e hs₄ he => ?_)
  obtain ⟨oe, hoe, hce⟩ := he
  have hz₄ : IsZip h₄ z TI TO .ellipsis := hs₄ _ _ D.i2z.symm (hs₃.extBut _ _ D.TOz.symm (hs₂.extBut _ _ D.i1z.symm hz₁))
  have hez : e ≠ z := fun x => by subst x; rw [hz₄] at hoe; cases hoe; simp at hce
  refine wpAny_setField_rec hz₄ (by simp) fun h₅ _ hs₅ => hE h₅ e (fun c o c1 c2 c3 c4 x => hs₅.extBut _ _ c1 (hs₄ _ _ c4 (hs₃.extBut _ _ c2 (hs₂.extBut _ _ c3 (hs₁.extBut _ _ c1 x))))) ⟨oe, hs₅.extBut _ _ hez hoe, hce⟩
theorem pyNext_zipK_item {t1 t2 : Bool} {z TI TO i1 i2 l1 l2 : Addr} {k1 k2 : Nat} {xs ys : Array Value} {x y a b : Value} {Q : Option Value → Shared → Prop} (D : ZipApart z TI TO i1 i2 l1 l2)
  (hz : IsZip s.heap z TI TO .none) (hTI : IsPair s.heap TI (.ref i1) (.ref i2)) (hTO : IsPair s.heap TO a b)
  (h1 : IterK t1 s.heap i1 l1 k1) (h2 : IterK t2 s.heap i2 l2 k2) (hl1 : SeqK t1 s.heap l1 xs) (hl2 : SeqK t2 s.heap l2 ys) (hx : xs[k1]? = some x) (hy : ys[k2]? = some y)
  (hQ : ∀ h', IsZip h' z TI TO (rawInt s.heap.objs.size) → IsPair h' TO x y → IterK t1 h' i1 l1 (k1 + 1) → IterK t2 h' i2 l2 (k2 + 1) → IsPair h' s.heap.objs.size x y → h'.objs.size = s.heap.objs.size + 1 →
   (∀ c o, c ≠ z → c ≠ TO → c ≠ i1 → c ≠ i2 → s.heap.get? c = some o → h'.get? c = some o) → Q (some (.ref s.heap.objs.size)) { s with heap := h' }) :
  wpAny (model prog w) A (pyNext (.ref z)) Q E s := by
 have hT : s.TypeIs (.ref z) "zip" := ⟨_, hz, rfl⟩
 unfold pyNext
 exact wpAny_bind (wpAny_attempt (wpAny_callSpecial?_slot (name := Str.ofString "__next__") hT F.slot_zip_next
  (wpAny_call_entry F.slot_zip_next hT F.entry_zip_next
   (zipK_next_item D hz hTI hTO h1 h2 hl1 hl2 hx hy fun h' a1 a2 a3 a4 a5 a6 a7 => wpAny_pure (hQ h' a1 a2 a3 a4 a5 a6 a7)) (F.args_zip_next_1 _))))
theorem pyNext_zipK_end {t1 t2 : Bool} {z TI TO i1 i2 l1 l2 : Addr} {k1 k2 : Nat} {xs ys : Array Value} {a b : Value} {Q : Option Value → Shared → Prop} (hh : A.handled = none) (D : ZipApart z TI TO i1 i2 l1 l2)
  (hz : IsZip s.heap z TI TO .none) (hTI : IsPair s.heap TI (.ref i1) (.ref i2)) (hTO : IsPair s.heap TO a b)
  (h1 : IterK t1 s.heap i1 l1 k1) (h2 : IterK t2 s.heap i2 l2 k2) (hl1 : SeqK t1 s.heap l1 xs) (hl2 : SeqK t2 s.heap l2 ys) (hend : xs[k1]? = none ∨ ys[k2]? = none)
  (hQ : ∀ h', (∀ c o, c ≠ z → c ≠ TO → c ≠ i1 → c ≠ i2 → s.heap.get? c = some o → h'.get? c = some o) → Q none { s with heap := h' }) : wpAny (model prog w) A (pyNext (.ref z)) Q E s := by
 have hT : s.TypeIs (.ref z) "zip" := ⟨_, hz, rfl⟩
 unfold pyNext
 refine wpAny_bind (wpAny_attempt (wpAny_callSpecial?_slot (name := Str.ofString "__next__") hT F.slot_zip_next
  (wpAny_call_entry F.slot_zip_next hT F.entry_zip_next (zipK_next_end hh D hz hTI hTO h1 h2 hl1 hl2 hend fun h' e hk he => ?_) (F.args_zip_next_1 _))))
 obtain ⟨o, ho, hc⟩ := he
 refine wpAny_bind (wpAny_isInstance (T := "StopIteration") (b := true) ⟨o, ho, hc⟩ isSubtype_stop ?_)
 exact wpAny_pure (hQ _ hk)
end
abbrev zkH1 (t1 : Bool) (h : Heap) (l1 : Addr) : Heap := h.push { cls := .type (itName t1), data := .fields #[.ref l1, .int 0 0] }
abbrev zkH2 (t1 t2 : Bool) (h : Heap) (l1 l2 : Addr) : Heap := (zkH1 t1 h l1).push { cls := .type (itName t2), data := .fields #[.ref l2, .int 0 0] }
abbrev zkH3 (t1 t2 : Bool) (h : Heap) (l1 l2 : Addr) : Heap := (zkH2 t1 t2 h l1 l2).push { cls := .type "tuple", data := .seq #[.ref h.objs.size, .ref (zkH1 t1 h l1).objs.size] }
abbrev zkH4 (t1 t2 : Bool) (h : Heap) (l1 l2 : Addr) : Heap := (zkH3 t1 t2 h l1 l2).push { cls := .type "tuple", data := .seq #[.none, .none] }
abbrev zkH5 (t1 t2 : Bool) (h : Heap) (l1 l2 : Addr) : Heap := (zkH4 t1 t2 h l1 l2).push { cls := .type "zip", data := .fields #[.none, .bool false, .bool false, .ref (zkH2 t1 t2 h l1 l2).objs.size, .ref (zkH3 t1 t2 h l1 l2).objs.size] }
theorem meets_zipK_new (t1 t2 : Bool) (l1 l2 : Addr) (xs ys : Array Value) :
  Meets (Builtin.«zip.__new__» ⟨[.type "zip", .ref l1, .ref l2], []⟩) (fun _ R s => SeqK t1 s.heap l1 xs ∧ SeqK t2 s.heap l2 ys ∧
   R (.ok (.ret (.ref (zkH4 t1 t2 s.heap l1 l2).objs.size))) { s with heap := zkH5 t1 t2 s.heap l1 l2 }) :=
 .of_wp fun prog w A R s h => by
  obtain ⟨hp, g, d, tk, os⟩ := s; obtain ⟨hl1, hl2, h⟩ := h
  have hsub := sub_zip
  have hL1 : SeqK t1 (Shared.heap ⟨hp, g, d, tk, os⟩) l1 xs := hl1
  have hL2 : SeqK t2 (Shared.heap ⟨hp.push { cls := .type (itName t1), data := .fields #[.ref l1, .int 0 0] }, g, d, tk, os⟩) l2 ys := SeqK.push hl2 _
  wp_walk using pyIterK hL1, pyIterK hL2
  exact ⟨_, rfl, h⟩
section
variable {prog : Program} {w : World} {A : Around} {E : Value → Shared → Prop} {s : Shared}
theorem call_zipK {t1 t2 : Bool} {l1 l2 : Addr} {xs ys : Array Value} {Q : Value → Shared → Prop} (hl1 : SeqK t1 s.heap l1 xs) (hl2 : SeqK t2 s.heap l2 ys)
  (h : ∀ h', IsZip h' (s.heap.objs.size + 4) (s.heap.objs.size + 2) (s.heap.objs.size + 3) .none → IsPair h' (s.heap.objs.size + 2) (.ref s.heap.objs.size) (.ref (s.heap.objs.size + 1)) →
   IsPair h' (s.heap.objs.size + 3) .none .none → IterK t1 h' s.heap.objs.size l1 0 → IterK t2 h' (s.heap.objs.size + 1) l2 0 → h'.objs.size = s.heap.objs.size + 5 →
   (∀ c o, s.heap.get? c = some o → h'.get? c = some o) → Q (.ref (s.heap.objs.size + 4)) { s with heap := h' }) :
  wpAny (model prog w) A (call (.type "zip") [.ref l1, .ref l2]) Q E s := by
 refine callType_new F.called_zip (by decide) (F.typeCall_zip_2 _ _) (F.newCall_zip_2 _ _) (fun obj => F.args_object_init_3 obj _ _) F.entry_zip_new
  (meets_zipK_new t1 t2 l1 l2 xs ys) ⟨hl1, hl2, ?_⟩
 have z1 : (zkH1 t1 s.heap l1).objs.size = s.heap.objs.size + 1 := Heap.size_push ..
 have z2 : (zkH2 t1 t2 s.heap l1 l2).objs.size = s.heap.objs.size + 2 := by rw [Heap.size_push, z1]
 have z3 : (zkH3 t1 t2 s.heap l1 l2).objs.size = s.heap.objs.size + 3 := by rw [Heap.size_push, z2]
 have z4 : (zkH4 t1 t2 s.heap l1 l2).objs.size = s.heap.objs.size + 4 := by rw [Heap.size_push, z3]
 have z5 : (zkH5 t1 t2 s.heap l1 l2).objs.size = s.heap.objs.size + 5 := by rw [Heap.size_push, z4]
 have g5 : (zkH5 t1 t2 s.heap l1 l2).get? (zkH4 t1 t2 s.heap l1 l2).objs.size = some _ := Heap.get?_push_size _ rfl
 have g4 : (zkH5 t1 t2 s.heap l1 l2).get? (zkH3 t1 t2 s.heap l1 l2).objs.size = some _ := Heap.get?_push_of_some _ (Heap.get?_push_size _ rfl)
 have g3 : (zkH5 t1 t2 s.heap l1 l2).get? (zkH2 t1 t2 s.heap l1 l2).objs.size = some _ := Heap.get?_push_of_some _ (Heap.get?_push_of_some _ (Heap.get?_push_size _ rfl))
 have g2 : (zkH5 t1 t2 s.heap l1 l2).get? (zkH1 t1 s.heap l1).objs.size = some _ := Heap.get?_push_of_some _ (Heap.get?_push_of_some _ (Heap.get?_push_of_some _ (Heap.get?_push_size _ rfl)))
 have g1 : (zkH5 t1 t2 s.heap l1 l2).get? s.heap.objs.size = some _ := Heap.get?_push_of_some _ (Heap.get?_push_of_some _ (Heap.get?_push_of_some _ (Heap.get?_push_of_some _ (Heap.get?_push_size _ rfl))))
 show _ ∧ _
 rw [z2, z3, z4] at g5
 rw [z1, z2] at g3
 rw [z3] at g4
 rw [z1] at g2
 rw [z4]
 exact ⟨⟨_, g5, rfl⟩, h _ g5 g3 g4 (.mk ⟨_, g1, rfl, rfl⟩) (.mk ⟨_, g2, rfl, rfl⟩) z5 fun c o x =>
  Heap.get?_push_of_some _ (Heap.get?_push_of_some _ (Heap.get?_push_of_some _ (Heap.get?_push_of_some _ (Heap.get?_push_of_some _ x))))⟩
theorem sumT_raw {l : Addr} {its : List Value} {ns : List Int} {Q : Value → Shared → Prop} (hh : A.handled = none) (hl : s.heap.IsTuple l its.toArray) (hi : IntsAre its ns)
  (h : ∀ h' tk t', (∀ b o, s.heap.get? b = some o → h'.get? b = some o) → Q (.int ns.sum t') { s with heap := h', toks := tk }) : wpAny (model prog w) A (call (.builtin "sum") [.ref l]) Q E s := by
 obtain ⟨xs, e⟩ := hi.allInts.items
 have hn : numsOf (intItems xs).toList = ns := by rw [← e]; exact hi.numsOf
 rw [nums_intItems] at hn
 rw [e] at hl
 have hlt : l < s.heap.objs.size := by obtain ⟨_, q, _⟩ := hl; exact Heap.lt_size q
 refine call_sum_walkG (wpAny_pyIter_tuple hl ?_)
 refine ⟨_, _, _, _, _, _, numAt xs, rfl, Walks.tuple (A := A.in1) hh _ l (Nat.ne_of_lt hlt) (intItems xs), ⟨⟨_, Heap.get?_push_size _ rfl, rfl, rfl⟩, hl.push _⟩, (fun b hb => ?_), (fun _ _ => intItems_at), fun h' tk t' hk => ?_⟩
 ·show b < (s.heap.push _).objs.size
  rw [Heap.size_push]
  rcases List.mem_cons.mp hb with rfl | hb
  ·exact Nat.lt_succ_self _
  ·rw [List.mem_singleton.mp hb]; exact Nat.lt_succ_of_lt hlt
 ·have := h h' tk t' fun b o q => hk b o (fun hm => by
   have e1 := List.mem_singleton.mp hm
   exact absurd (e1 ▸ Heap.lt_size q) (Nat.lt_irrefl _)) (Heap.get?_push_of_some _ q)
  have hs : (intItems xs).size = xs.size := by simp [intItems]
  rw [hs, preSum_eq, List.take_of_length_le (by simp), hn]; exact this
end
theorem meets_enumK_newT (l : Addr) (items : Array Value) (n : Nat) (dct : Option Addr) (sl : Array (Option Value)) :
  Meets (Builtin.«enumerate.__new__» ⟨[.type "enumerate", .ref l], []⟩) (fun _ R s => s.heap.get? l = some { cls := .type "tuple", dict := dct, data := .seq items n, slots := sl } ∧
   R (.ok (.ret (.ref (s.heap.push { cls := .type "tuple_iterator", data := .fields #[.ref l, .int 0 0] }).objs.size)))
    { s with heap := (s.heap.push { cls := .type "tuple_iterator", data := .fields #[.ref l, .int 0 0] }).push { cls := .type "enumerate", data := .fields #[.none, .bool false, .ref s.heap.objs.size, rawInt 0, .none, .none] } }) :=
 .of_wp fun prog w A R s h => by
  obtain ⟨hp, g, d, tk, os⟩ := s; obtain ⟨hl, h⟩ := h
  have hsub := sub_enumerate
  have hL : Heap.IsTuple (Shared.heap ⟨hp, g, d, tk, os⟩) l items := ⟨_, hl, rfl, n, rfl⟩
  wp_walk using wpAny_loadPart' hl
  refine wpAny_stack_any fun st => wpAny_pure ?_
  split
  ·rename_i c _ _ _ _ _
   cases (c == Value.type "enumerate")
   ·wp_walk using wpAny_loadPart' hl, wpAny_pyIter_tuple hL
    exact ⟨_, rfl, h⟩
   ·wp_walk using wpAny_loadPart' hl, wpAny_pyIter_tuple hL
    exact ⟨_, rfl, h⟩
  ·wp_walk using wpAny_loadPart' hl, wpAny_pyIter_tuple hL
   exact ⟨_, rfl, h⟩
section
variable {prog : Program} {w : World} {A : Around} {E : Value → Shared → Prop} {s : Shared}
theorem call_enumT {l : Addr} {items : Array Value} {Q : Value → Shared → Prop} (hL : s.heap.IsTuple l items)
  (h : ∀ h', IsEnum h' (s.heap.objs.size + 1) s.heap.objs.size 0 .none → h'.IsTupleIter s.heap.objs.size l 0 → h'.objs.size = s.heap.objs.size + 2 →
   (∀ b o, s.heap.get? b = some o → h'.get? b = some o) → Q (.ref (s.heap.objs.size + 1)) { s with heap := h' }) :
  wpAny (model prog w) A (call (.type "enumerate") [.ref l]) Q E s := by
 obtain ⟨⟨c, dct, dt, sl⟩, hl, hc, n, hd⟩ := hL
 replace hc : c = .type "tuple" := hc
 replace hd : dt = .seq items n := hd
 subst hc hd
 refine callType_new F.called_enumerate (by decide) (F.typeCall_enumerate_1 _) (F.newCall_enumerate_1 _) (fun obj => F.args_object_init_2 obj _) F.entry_enumerate_new
  (meets_enumK_newT l items n dct sl) ⟨hl, ?_⟩
 have hz : (s.heap.push { cls := .type "tuple_iterator", data := .fields #[.ref l, .int 0 0] }).objs.size = s.heap.objs.size + 1 := Heap.size_push ..
 show _ ∧ _
 rw [hz]
 have he : IsEnum ((s.heap.push { cls := .type "tuple_iterator", data := .fields #[.ref l, .int 0 0] }).push
   { cls := .type "enumerate", data := .fields #[.none, .bool false, .ref s.heap.objs.size, rawInt 0, .none, .none] }) (s.heap.objs.size + 1) s.heap.objs.size 0 .none := by
  have := Heap.get?_push_size (s.heap.push { cls := .type "tuple_iterator", data := .fields #[.ref l, .int 0 0] })
   (o := { cls := .type "enumerate", data := .fields #[.none, .bool false, .ref s.heap.objs.size, rawInt 0, .none, .none] }) rfl
  rw [hz] at this; exact this
 refine ⟨⟨_, he, rfl⟩, h _ he ⟨_, Heap.get?_push_of_some _ (Heap.get?_push_size _ rfl), rfl, rfl⟩ (by rw [Heap.size_push, hz]) fun b o x => Heap.get?_push_of_some _ (Heap.get?_push_of_some _ x)⟩
end
theorem drawsT {prog : Program} {w : World} {A : Around} (hh : A.handled = none) (it l : Addr) (hne : l ≠ it) (items : Array Value) :
  Draws prog w A it [it, l] items.size (fun i v => items[i]? = some v) (fun i h => h.IsTupleIter it l i ∧ h.IsTuple l items) where
 live := fun _ _ st => let ⟨o, ho, _⟩ := st.1; ⟨o, ho⟩
 frame := fun _ _ _ st hk => ⟨st.1.at fun o e => hk it (by simp) o e, st.2.at fun o e => hk l (by simp) o e⟩
 item := fun i s Q E hi st hQ => by
  refine nextOf_tuple_item st.1 st.2 (x := items[i]) (by simp [hi]) fun h' hit' hs' => ?_
  exact hQ _ h' s.toks (by simp [hi]) ⟨hit', st.2.extBut hs'.extBut hne⟩ hs'
 done := fun s Q E st hE => nextOf_tuple_end hh st.1 st.2 (by simp) hE
end SX
end
section
namespace L2
open PySem PySem.Spec PyProof.Rows
open SX
def SqK (t : Bool) (K : PySem.W.Frag) (H : Hp) (a : Addr) (xs : List V) : Prop := match t with
 | true => SqT K H a xs
 | false => SqL K H a xs
section
variable {X : Cx} {pins : List (Addr × Obj)} {σ : St} {H : Hp} {s : Shared} {a : Addr} {xs ys : List V} {t : Bool}
theorem Inv.seqK (I : Inv X pins σ H s) (h : SqK t X.K H a xs) : ∃ its : List Value, Vals xs its ∧ SeqK t s.heap a its.toArray ∧ xs.length ≤ sizeLine := by
 cases t
 ·obtain ⟨its, r, p, hz⟩ := I.list h
  exact ⟨its, r, p.isList, hz⟩
 ·obtain ⟨its, r, p, hz⟩ := I.tuple h
  exact ⟨its, r, p, hz⟩
theorem Inv.seqK_inj (I : Inv X pins σ H s) (h : SqK t X.K H a xs) (h' : SqK t X.K H a ys) : xs = ys := by
 cases t
 ·exact I.list_inj h h'
 ·exact I.tuple_inj h h'
end
def ItzK (t1 t2 : Bool) (K : PySem.W.Frag) (a b : Addr) : It :=
 ⟨fun i H => ∃ (xs ys : List V) (x y : V), SqK t1 K H a xs ∧ SqK t2 K H b ys ∧ xs[i]? = some x ∧ ys[i]? = some y,
  fun i H v H' => ∃ T x y, v = .ref T ∧ H T = none ∧ H' = upd H T (.tup [x, y]) ∧ (∀ xs, SqK t1 K H a xs → xs[i]? = some x) ∧ ∀ ys, SqK t2 K H b ys → ys[i]? = some y,
  fun i H => ∃ xs ys : List V, SqK t1 K H a xs ∧ SqK t2 K H b ys ∧ (xs.length ≤ i ∨ ys.length ≤ i)⟩
theorem turn_zipK {P : Program} {w : World} {K : PySem.W.Frag} {elts : List Expr} {kk : Nat} {tpos : Pos} {t1 t2 : Bool} {a b z TI TO i1 i2 : Addr} (D : ZipApart z TI TO i1 i2 a b) :
  Turn P w K (.Tuple elts kk tpos) (ItzK t1 t2 K a b) [z, TI, TO, i1, i2] z (fun i h => IsZip h z TI TO .none ∧ IsPair h TI (.ref i1) (.ref i2) ∧ (∃ x y, IsPair h TO x y) ∧ IterK t1 h i1 a i ∧ IterK t2 h i2 b i) where
 mem := by simp
 obj := fun i h st c hc => by
  obtain ⟨hz, hTI, ⟨x, y, hTO⟩, h1, h2⟩ := st
  obtain ⟨o1, e1, _, d1⟩ := h1.get
  obtain ⟨o2, e2, _, d2⟩ := h2.get
  have e' : c = z ∨ c = TI ∨ c = TO ∨ c = i1 ∨ c = i2 := by simpa using hc
  rcases e' with q | q | q | q | q
  ·rw [q]; exact ⟨_, hz, fun v q => nomatch q⟩
  ·rw [q]; exact ⟨_, hTI, fun v q => nomatch q⟩
  ·rw [q]; exact ⟨_, hTO, fun v q => nomatch q⟩
  ·rw [q]; exact ⟨o1, e1, fun v q => by rw [d1] at q; cases q⟩
  ·rw [q]; exact ⟨o2, e2, fun v q => by rw [d2] at q; cases q⟩
 keep := fun i h h' st k => by
  obtain ⟨hz, hTI, ⟨x, y, hTO⟩, h1, h2⟩ := st
  exact ⟨k z (by simp) _ hz, k TI (by simp) _ hTI, ⟨x, y, k TO (by simp) _ hTO⟩, h1.at fun o q => k i1 (by simp) o q, h2.at fun o q => k i2 (by simp) o q⟩
 item := by
  intro X hP hw hK hc i pins s σ H E I hf st hg
  subst hP hw hK
  obtain ⟨hz, hTI, ⟨x0, y0, hTO⟩, h1, h2⟩ := st
  obtain ⟨xs, ys, x, y, hqx, hqy, hx, hy⟩ := hg
  obtain ⟨its, rv, p, _⟩ := I.seqK hqx
  obtain ⟨its2, rv2, p2, _⟩ := I.seqK hqy
  obtain ⟨u, hu, ru⟩ := rv.get hx
  obtain ⟨u2, hu2, ru2⟩ := rv2.get hy
  have hzl : z < s.heap.objs.size := Heap.lt_size hz
  refine pyNext_zipK_item D hz hTI hTO h1 h2 p p2 (x := u) (y := u2) (by simpa using hu) (by simpa using hu2) fun h' z' TO' h1' h2' hT hsz hk => ?_
  refine ⟨_, rfl, wpAny_letOwnedTupleGo_zip (s := { s with heap := h' }) z' fun h'' z'' sb => ?_⟩
  have hT2 : h''.get? s.heap.objs.size = some { cls := .type "tuple", data := .seq #[u, u2] } := (sb.2 _ (Nat.ne_of_gt hzl)).trans hT
  have new : ObjOk X.prog X.w (upd H s.heap.objs.size (.tup [x, y])) h'' s.heap.objs.size (.tup [x, y]) :=
   ⟨by show 2 ≤ sizeLine; decide, [u, u2], .cons ru (.cons ru2 .nil), ⟨_, hT2, rfl, _, rfl⟩⟩
  have I1 : Inv X pins σ (upd H s.heap.objs.size (.tup [x, y])) { s with heap := h'' } :=
   I.turnedNew (t' := s.toks) (ch := [z, TI, TO, i1, i2]) (fun c o hb q => (sb.2 c (fun q' => hb (by simp [q']))).trans (hk c o (fun q' => hb (by simp [q'])) (fun q' => hb (by simp [q'])) (fun q' => hb (by simp [q'])) (fun q' => hb (by simp [q'])) q)) hf (Nat.le_refl _) new
  refine ⟨.ref s.heap.objs.size, _, I1, rfl, ⟨_, x, y, rfl, I.hok.fresh (Nat.le_refl _), rfl, fun l hl => by rw [I.seqK_inj hl hqx]; exact hx, fun l hl => by rw [I.seqK_inj hl hqy]; exact hy⟩, ⟨z'', ?_, ⟨u, u2, ?_⟩, ?_, ?_⟩, fun c hcm => ?_⟩
  ·exact (sb.2 _ D.TIz).trans (hk _ _ D.TIz D.TITO D.TIi1 D.TIi2 hTI)
  ·exact (sb.2 _ D.TOz).trans TO'
  ·exact h1'.at fun o q => (sb.2 _ D.i1z).trans q
  ·exact h2'.at fun o q => (sb.2 _ D.i2z).trans q
  ·have hlt : c < s.heap.objs.size := by
    have e' : c = z ∨ c = TI ∨ c = TO ∨ c = i1 ∨ c = i2 := by simpa using hcm
    rcases e' with q | q | q | q | q
    ·rw [q]; exact hzl
    ·rw [q]; exact Heap.lt_size hTI
    ·rw [q]; exact Heap.lt_size hTO
    ·rw [q]; exact h1.lt
    ·rw [q]; exact h2.lt
   rw [upd_ne (Nat.ne_of_lt hlt)]
   exact (hf c hcm).1
 done := by
  intro X hP hw hK hc i pins s σ H E I hf st hg
  subst hP hw hK
  obtain ⟨hz, hTI, ⟨x0, y0, hTO⟩, h1, h2⟩ := st
  obtain ⟨xs, ys, hqx, hqy, hend⟩ := hg
  obtain ⟨its, rv, p, _⟩ := I.seqK hqx
  obtain ⟨its2, rv2, p2, _⟩ := I.seqK hqy
  have l1 := rv.length
  have l2 := rv2.length
  have he : its.toArray[i]? = none ∨ its2.toArray[i]? = none := by
   rcases hend with q | q
   ·exact .inl (by simp; omega)
   ·exact .inr (by simp; omega)
  exact pyNext_zipK_end (I.ok.hd hc) D hz hTI hTO h1 h2 p p2 he fun h' hk => ⟨rfl, I.turnedL (t' := s.toks) (ch := [z, TI, TO, i1, i2]) (fun c o hb q =>
   hk c o (fun q' => hb (by simp [q'])) (fun q' => hb (by simp [q'])) (fun q' => hb (by simp [q'])) (fun q' => hb (by simp [q'])) q) hf⟩
 self := fun A i s Q E st h => wpAny_pyIter_zip st.1 h
def iZipK (t1 t2 : Bool) (K : PySem.W.Frag) (ta : TA) : TI := fun σ H R => ta σ H fun vs H1 => ∃ a b xs ys, vs = [.ref a, .ref b] ∧ SqK t1 K H1 a xs ∧ SqK t2 K H1 b ys ∧ R (ItzK t1 t2 K a b) H1
theorem pi_zipK {X : Cx} (t1 t2 : Bool) {e e2 : Expr} {ta : TA} {p pos tpos : Pos} {elts : List Expr} {kk : Nat} (hg : Gl X "zip") (hm : X.mg "zip" = none) (ha : PA X [e, e2] ta)
  (hs : starEach [e, e2] X.env = (false, eval e X.env) :: starEach [e2] X.env := by rfl) (hpl : (backTo pos (starEach [e2] X.env)).any (·.1) = false := by rfl) :
  PI X (.Tuple elts kk tpos) (.Call (.Name "zip" p) [e, e2] [] pos) (iZipK t1 t2 X.K ta) := by
 intro pins s σ H R I h
 refine Call_ (ld_blt I hg hm boot_zip5 (PyProof.Rows.callWith_type1 (thn (ha pos pins s σ H _ I h) fun us s1 ⟨vs, H1, I1, r1, q1⟩ => ?_) hs hpl))
 obtain ⟨a, b, xs, ys, ex, hqx, hqy, q⟩ := q1
 subst ex
 cases r1 with
 | cons r rr =>
  cases rr with
  | cons r' rr =>
   cases rr
   cases r
   cases r'
   obtain ⟨its, rv, p1, _⟩ := I1.seqK hqx
   obtain ⟨its2, rv2, p2, _⟩ := I1.seqK hqy
   have la : a < s1.heap.objs.size := p1.lt
   have lb : b < s1.heap.objs.size := p2.lt
   refine call_zipK p1 p2 fun h' hz hTI hTO h1 h2 hsz hk => wpAny_pyIter_zip hz ?_
   have I2 : Inv X pins σ H1 { s1 with heap := h' } := I1.kept (t' := s1.toks) hk
   refine ⟨s1.heap.objs.size + 4, [s1.heap.objs.size + 4, s1.heap.objs.size + 2, s1.heap.objs.size + 3, s1.heap.objs.size, s1.heap.objs.size + 1], _, _, H1, rfl, I2, turn_zipK (PySem.W.ktu_apart s1.heap.objs.size a b la lb), ⟨hz, hTI, ⟨_, _, hTO⟩, h1, h2⟩, fun c hcm => ?_, q⟩
   have e' : c = s1.heap.objs.size + 4 ∨ c = s1.heap.objs.size + 2 ∨ c = s1.heap.objs.size + 3 ∨ c = s1.heap.objs.size ∨ c = s1.heap.objs.size + 1 := by simpa using hcm
   have hle : s1.heap.objs.size ≤ c := by
    rcases e' with z | z | z | z | z
    ·rw [z]; exact Nat.le_add_right _ _
    ·rw [z]; exact Nat.le_add_right _ _
    ·rw [z]; exact Nat.le_add_right _ _
    ·rw [z]; exact Nat.le_refl _
    ·rw [z]; exact Nat.le_add_right _ _
   exact I1.fpOk hle (I1.hok.fresh hle)
def IteT (K : PySem.W.Frag) (a : Addr) : It :=
 ⟨fun i H => ∃ (xs : List V) (x : V), SqT K H a xs ∧ xs[i]? = some x, fun i H v H' => ∃ T x, v = .ref T ∧ H T = none ∧ H' = upd H T (.tup [.int (i : Nat), x]) ∧ ∀ xs, SqT K H a xs → xs[i]? = some x, fun i H => ∃ xs : List V, SqT K H a xs ∧ xs.length ≤ i⟩
theorem turn_enumT {P : Program} {w : World} {K : PySem.W.Frag} {elts : List Expr} {kk : Nat} {tpos : Pos} (a e it : Addr) (hae : a ≠ e) (hai : a ≠ it) :
  Turn P w K (.Tuple elts kk tpos) (IteT K a) [e, it] e (fun i h => (∃ old, IsEnum h e it ((i : Nat) : Int) old) ∧ h.IsTupleIter it a i ∧ e ≠ it) where
 mem := by simp
 obj := fun i h st b hb => by
  obtain ⟨⟨old, he⟩, ⟨o, ho, hc, hd⟩, _⟩ := st
  have e' : b = e ∨ b = it := by simpa using hb
  rcases e' with z | z
  ·rw [z]; exact ⟨_, he, fun v q => nomatch q⟩
  ·rw [z]; exact ⟨o, ho, fun v q => by rw [hd] at q; cases q⟩
 keep := fun i h h' st k => let ⟨⟨old, he⟩, hi, hne⟩ := st; ⟨⟨old, k e (by simp) _ he⟩, hi.at fun o q => k it (by simp) o q, hne⟩
 item := by
  intro X hP hw hK hc i pins s σ H E I hf st hg
  subst hP hw hK
  obtain ⟨⟨old, he⟩, hit, hne⟩ := st
  obtain ⟨xs, x, hq, hx⟩ := hg
  obtain ⟨its, rv, p, hz⟩ := I.tuple hq
  have p : s.heap.IsTuple a its.toArray := p
  obtain ⟨u, hu, ru⟩ := rv.get hx
  have hel : e < s.heap.objs.size := Heap.lt_size he
  have hil : it < s.heap.objs.size := by obtain ⟨_, q, _⟩ := hit; exact Heap.lt_size q
  have hh : X.A.handled = none := I.ok.hd hc
  have hlt : i < its.toArray.size := by
   have := (List.getElem?_eq_some_iff.mp hu).1
   simpa using this
  refine wpAny_pyNext_enum_itemD (drawsT (A := X.A.in1) hh it a hai its.toArray) he ⟨hit, p⟩ hlt hne (by simp; exact ⟨hne, Ne.symm hae⟩) fun x' h' tk hP ho hst hT hsz hk => ?_
  have ex : x' = u := by
   have q : its.toArray[i]? = some x' := hP
   have q2 : its.toArray[i]? = some u := by simpa using hu
   rw [q2] at q
   exact (Option.some.inj q).symm
  subst ex
  refine ⟨_, rfl, wpAny_letOwnedTupleGo_enum (s := { s with heap := h', toks := tk + 1 }) ho fun h'' he' sb => ?_⟩
  have hT2 : h''.get? s.heap.objs.size = some { cls := .type "tuple", data := .seq #[.int i tk, x'] } := (sb.2 _ (Nat.ne_of_gt hel)).trans hT
  have new : ObjOk X.prog X.w (upd H s.heap.objs.size (.tup [.int (i : Nat), x])) h'' s.heap.objs.size (.tup [.int (i : Nat), x]) :=
   ⟨by show 2 ≤ sizeLine; decide, [.int i tk, x'], .cons ⟨_, rfl⟩ (.cons ru .nil), ⟨_, hT2, rfl, _, rfl⟩⟩
  have I1 : Inv X pins σ (upd H s.heap.objs.size (.tup [.int (i : Nat), x])) { s with heap := h'', toks := tk + 1 } :=
   I.turnedNew (ch := [e, it]) (fun b ob hb q => (sb.2 b (fun z => hb (by simp [z]))).trans (hk b ob (fun z => hb (by simp [z])) (fun z => hb (by simp [z])) q)) hf (Nat.le_refl _) new
  refine ⟨.ref s.heap.objs.size, _, I1, rfl, ⟨_, x, rfl, I.hok.fresh (Nat.le_refl _), rfl, fun ys hy => by rw [I.tuple_inj hy hq]; exact hx⟩, ⟨⟨x', ?_⟩, hst.1.at fun o q => (sb.2 it (Ne.symm hne)).trans q, hne⟩, fun b hb => ?_⟩
  ·have e1 : ((i + 1 : Nat) : Int) = (i : Int) + 1 := by omega
   rw [e1]; exact he'
  ·have hb' : b < s.heap.objs.size := by
    have e' : b = e ∨ b = it := by simpa using hb
    rcases e' with z | z
    ·rw [z]; exact hel
    ·rw [z]; exact hil
   rw [upd_ne (Nat.ne_of_lt hb')]
   exact (hf b hb).1
 done := by
  intro X hP hw hK hc i pins s σ H E I hf st hg
  subst hP hw hK
  obtain ⟨⟨old, he⟩, hit, hne⟩ := st
  obtain ⟨xs, hq, hx⟩ := hg
  obtain ⟨its, rv, p, hz⟩ := I.tuple hq
  obtain ⟨f0, f1, f2, f3, f4, f5⟩ := hf it (by simp)
  have hl := rv.length
  have hh : X.A.handled = none := I.ok.hd hc
  have hT : s.TypeIs (.ref e) "enumerate" := ⟨_, he, rfl⟩
  unfold pyNext
  refine wpAny_bind (wpAny_attempt (wpAny_callSpecial?_slot (name := Str.ofString "__next__") hT F.slot_enumerate_next
   (wpAny_call_entry F.slot_enumerate_next hT F.entry_enumerate_next ?_ (F.args_enumerate_next_1 _))))
  show wpAny _ _ (field (.ref e) 2 >>= _) _ _ _
  refine wpAny_bind (wpAny_field he rfl (x := .ref it) rfl ?_)
  refine wpAny_bind (nextOf_tuple_end (A := X.A.in1) hh hit p (by simp; omega) fun h' x he' hx' => ?_)
  obtain ⟨o, ho, hc⟩ := hx'
  refine wpAny_bind (wpAny_isInstance (T := "StopIteration") (b := true) ⟨o, ho, hc⟩ isSubtype_stop ?_)
  exact wpAny_pure ⟨rfl, I.turned (t' := s.toks) (fun b o hb q => he' b o hb q) f0 f1 f3 f4 f5⟩
 self := fun A i s Q E st h => let ⟨⟨_, he⟩, _⟩ := st; wpAny_pyIter_enum he h
def iEnumT (K : PySem.W.Frag) (ta : TA) : TI := fun σ H R => ta σ H fun vs H1 => ∃ a xs, vs = [.ref a] ∧ SqT K H1 a xs ∧ R (IteT K a) H1
theorem pi_enumT {X : Cx} {e : Expr} {ta : TA} {p pos tpos : Pos} {elts : List Expr} {kk : Nat} (hg : Gl X "enumerate") (hm : X.mg "enumerate" = none) (ha : PA X [e] ta) (hs : starEach [e] X.env = [(false, eval e X.env)] := by rfl) :
  PI X (.Tuple elts kk tpos) (.Call (.Name "enumerate" p) [e] [] pos) (iEnumT X.K ta) := by
 intro pins s σ H R I h
 refine Call_ (ld_blt I hg hm boot_enumerate (PyProof.Rows.callWith_type1 (thn (ha pos pins s σ H _ I h) fun us s1 ⟨vs, H1, I1, r1, q1⟩ => ?_) hs rfl))
 obtain ⟨a, xs, ex, hq, q⟩ := q1
 subst ex
 cases r1 with
 | cons r rr =>
  cases rr
  cases r
  obtain ⟨its, rv, p', hz⟩ := I1.tuple hq
  have la : a < s1.heap.objs.size := p'.lt
  refine call_enumT p' fun h' he hit hsz hk => wpAny_pyIter_enum he ?_
  have I2 : Inv X pins σ H1 { s1 with heap := h' } := I1.kept (t' := s1.toks) hk
  refine ⟨s1.heap.objs.size + 1, [s1.heap.objs.size + 1, s1.heap.objs.size], _, _, H1, rfl, I2, turn_enumT a (s1.heap.objs.size + 1) s1.heap.objs.size (Nat.ne_of_lt (Nat.lt_succ_of_lt la)) (Nat.ne_of_lt la), ⟨⟨.none, he⟩, hit, Nat.succ_ne_self _⟩, fun b hb => ?_, q⟩
  have e' : b = s1.heap.objs.size + 1 ∨ b = s1.heap.objs.size := by simpa using hb
  have hle : s1.heap.objs.size ≤ b := by
   rcases e' with z | z
   ·rw [z]; exact Nat.le_add_right _ _
   ·rw [z]; exact Nat.le_refl _
  exact I1.fpOk hle (I1.hok.fresh hle)
section
variable {X : Cx}
def rSumK (t : Bool) (K : PySem.W.Frag) : List V → Hp → VK → Prop := fun vs H Q => ∃ (a : Addr) (ns : List Int), vs = [V.ref a] ∧ SqK t K H a (ns.map V.int) ∧ Q (.int ns.sum) H
theorem cr_sumT (hc : X.calm = true) : CallR X (.builtin "sum") (rSumK true X.K) := by
 intro pins s σ H vs us Q I r h
 obtain ⟨a, ns, rfl, hs, q⟩ := h
 obtain ⟨its, rv, hl, _⟩ := I.tuple hs
 rw [Vals.ref1 r]
 exact sumT_raw (I.ok.hd hc) hl rv.ints fun h' tk t' hk => ⟨.int _, H, I.kept hk, ⟨_, rfl⟩, q⟩
def rCatS (K : PySem.W.Frag) : R2 := fun x y H Q => ∃ a b xs zs, x = .ref a ∧ y = .ref b ∧ SqT K H a xs ∧ SqT K H b zs ∧ xs.length + zs.length ≤ sizeLine ∧ ∀ p H', Same H H' → SqT K H' p (xs ++ zs) → Q (.ref p) H'
theorem op_catS : OpR X (binaryOp .Add) (rCatS X.K) := by
 intro pins s σ H x y v u Q I rx ry h
 obtain ⟨a, b, xs, zs, rfl, rfl, hA, hB, hz, q⟩ := h
 cases rx
 cases ry
 obtain ⟨its, r, p, _⟩ := I.tuple hA
 obtain ⟨its2, r2, p2, _⟩ := I.tuple hB
 obtain ⟨⟨cls, dd, data, sl⟩, ho, hc, n, hd⟩ := id p
 obtain ⟨⟨cls2, dd2, data2, sl2⟩, ho2, hc2, n2, hd2⟩ := id p2
 simp only at hc hd hc2 hd2
 subst hc hd hc2 hd2
 have e : its.toArray ++ its2.toArray = (its ++ its2).toArray := by simp
 have l1 := r.length
 have l2 := r2.length
 by_cases hv : its = []
 ·refine concat_meets ⟨_, ho, rfl⟩ ⟨_, ho2, rfl⟩ noFill_tuple_add seq_tuple_add PySem.F.slot_tuple_add PySem.F.entry_tuple_add (PySem.F.args_tuple_add_2 _ _)
   (tuple_addW0 a b its.toArray its2.toArray n n2 dd dd2 sl sl2 (by simp [hv])) ⟨ho, ho2, ?_⟩
  have hx : xs = [] := List.length_eq_zero_iff.mp (by rw [l1, hv]; rfl)
  subst hx
  exact ⟨.ref b, H, I, rfl, q b H (Same.refl H) hB⟩
 ·by_cases hw : its2 = []
  ·refine concat_meets ⟨_, ho, rfl⟩ ⟨_, ho2, rfl⟩ noFill_tuple_add seq_tuple_add PySem.F.slot_tuple_add PySem.F.entry_tuple_add (PySem.F.args_tuple_add_2 _ _)
    (tuple_addW1 a b its.toArray its2.toArray n n2 dd dd2 sl sl2 (by simp [hv]) (by simp [hw])) ⟨ho, ho2, ?_⟩
   have hx : zs = [] := List.length_eq_zero_iff.mp (by rw [l2, hw]; rfl)
   subst hx
   exact ⟨.ref a, H, I, rfl, q a H (Same.refl H) (by rw [List.append_nil]; exact hA)⟩
  ·refine concat_meets ⟨_, ho, rfl⟩ ⟨_, ho2, rfl⟩ noFill_tuple_add seq_tuple_add PySem.F.slot_tuple_add PySem.F.entry_tuple_add (PySem.F.args_tuple_add_2 _ _)
    (tuple_addW2 a b its.toArray its2.toArray n n2 dd dd2 sl sl2 (by simp [hv]) (by simp [hw]) (by simp; omega)) ⟨ho, ho2, ?_⟩
   rw [e]
   have hlen : (xs ++ zs).length ≤ sizeLine := by rw [List.length_append]; exact hz
   have new : ObjOk X.prog X.w (upd H s.heap.objs.size (.tup (xs ++ zs))) (s.heap.push { cls := .type "tuple", data := .seq (its ++ its2).toArray }) s.heap.objs.size (.tup (xs ++ zs)) :=
    ⟨hlen, its ++ its2, r.append r2, ⟨_, Heap.get?_push_size _ rfl, rfl, _, rfl⟩⟩
   have I1 := I.laid (t' := s.toks) (fun b u q => Heap.get?_push_of_some _ q) (Nat.le_refl _) new
   refine ⟨.ref s.heap.objs.size, _, I1, rfl, q _ _ (fun c o hc => ?_) (SqT.of upd_same)⟩
   rw [upd_ne (ne_of_none hc (I.hok.fresh (Nat.le_refl _)))]
   exact hc
def tCallV (P : Program) (w : World) (K : PySem.W.Frag) (mg : Str → Option Value) (base : Heap) (A : Around) (te : TE) (t : TA) : TE := fun σ H Q => te σ H fun v H1 => ∃ (f : Addr) (k : Nat) (fd : FuncData) (ps : List Str) (sp : Sp),
 v = .ref f ∧ FnOk P w K mg base CX0 k f fd ps sp ∧ Room k A ∧ PySem.W.keepIn K (.ref f) = true ∧ Binds K fd ps [] ∧ t σ H1 fun vs H2 => sp vs H2 Q E0
theorem pe_callV {x : Str} {p pos : Pos} {e : Expr} {es : List Expr} {te : TE} {t : TA} (hx : PE X (.Name x p) te) (ha : PA X (e :: es) t)
  (he : starEach (e :: es) X.env = (false, eval e X.env) :: starEach es X.env := by rfl) (hpl : (backTo pos (starEach es X.env)).any (·.1) = false := by rfl) :
  PE X (.Call (.Name x p) (e :: es) [] pos) (tCallV X.prog X.w X.K X.mg X.base X.A te t) := by
 intro pins s σ H Q I h
 refine wpAny_Call_Name_kw (thn (hx pins s σ H _ I h) fun u s1 ⟨v, H1, I1, rv, f, k, fd, ps, sp, ev, F, hr, hk, hb, q⟩ => ?_)
 subst ev
 obtain rfl : u = Value.ref f := rv
 refine PySem.W.callWith_K (h₀ := X.base) I1.ok.mod.kin hk (thn (ha pos pins s1 σ H1 _ I1 q) fun us s2 ⟨vs, H2, I2, r, q2⟩ => ⟨I2.kIn, ?_⟩) he hpl
 exact run_fn (dvs := []) (ds := []) F hr hb .nil pass0 I2 r (by rw [List.append_nil]; exact q2)
end
end L2
end
section
namespace L2
open PySem PySem.Spec PyProof.Rows
open SX
theorem SqT.same {K : PySem.W.Frag} {H H' : Hp} {a : Addr} {xs : List V} (e : Same H H') (h : SqT K H a xs) : SqT K H' a xs := by
 rcases h with (h | ⟨o, h⟩) | h
 ·exact .inl (.inl (e _ _ h))
 ·exact .inl (.inr ⟨o, e _ _ h⟩)
 ·exact .inr h
theorem SqK.same {t : Bool} {K : PySem.W.Frag} {H H' : Hp} {a : Addr} {xs : List V} (e : Same H H') (h : SqK t K H a xs) : SqK t K H' a xs := by
 cases t
 ·exact Same.seq e h
 ·exact SqT.same e h
theorem Same.new {H : Hp} {a : Addr} {o : HO} (h : H a = none) : Same H (upd H a o) := fun b u e => by
 rw [upd_ne (ne_of_none e h)]
 exact e
theorem Same.newKeep {H H1 : Hp} {D : Addr} {o : HO} (hn : H D = none) (s : Same H H1) : Same H (upd H1 D o) := fun b u e => by
 rw [upd_ne (ne_of_none e hn)]
 exact s b u e
section
variable {X : Cx} {s : Shared} {H : Hp} {scope : Scope} {cenv : Env} {fp : List Addr} {pos : Pos}
theorem pg_tupB {es : List Expr} {k : Nat} {t : TGs} {n : Nat} (hc : X.calm = true) (h : PGs (X.blk s H scope cenv fp) es t) (hn : (assignEach es (X.blk s H scope cenv fp).env).length = n := by rfl)
  (hst : (assignEach es (X.blk s H scope cenv fp).env).findIdx? (·.1) = none := by rfl) : PG (X.blk s H scope cenv fp) (.Tuple es k pos) (gTup X.K n t) := pg_tup (X := X.blk s H scope cenv fp) hc h hn hst
end
section
variable {K : PySem.W.Frag} {t1 t2 : Bool} {a b : Addr} {xs ys : List V} {g : TG} {tt : TT} {te : TE} {vs : List Nat} {σ : St} {H1 : Hp} {D : Addr} {Qd : Hp → Prop}
theorem lc_zip (Pv : Nat → Hp → Prop) (h0 : Pv 0 (upd H1 D (.lst []))) (hl : ∀ i H, Pv i H → SqK t1 K H a xs ∧ SqK t2 K H b ys)
  (hs : ∀ i x y T H, xs[i]? = some x → ys[i]? = some y → Pv i H → H T = none → g (.ref T) (wipe σ vs) (upd H T (.tup [x, y])) fun σ2 H2 => wipe σ2 vs = wipe σ vs ∧ tt σ2 H2 fun b H3 =>
   if b = true then te σ2 H3 fun y H4 => ∃ acc, H4 D = some (.lst acc) ∧ acc.length < sizeLine ∧ Pv (i + 1) (upd H4 D (.lst (acc ++ [y]))) else Pv (i + 1) H3)
  (hd : ∀ H, Pv (min xs.length ys.length) H → Qd H) :
  ∃ W : Nat → Nat → Hp → Prop, (∃ m, W 0 m (upd H1 D (.lst []))) ∧ ∀ i m H, W i m H → ((ItzK t1 t2 K a b).stop i H ∧ Qd H) ∨ ((ItzK t1 t2 K a b).go i H ∧ ∃ Nx : Hp → Prop, (∀ H', Nx H' → ∃ m', m' < m ∧ W (i + 1) m' H') ∧ ∀ x H', (ItzK t1 t2 K a b).yld i H x H' →
   g x (wipe σ vs) H' fun σ2 H2 => wipe σ2 vs = wipe σ vs ∧ tt σ2 H2 fun b H3 => if b = true then te σ2 H3 fun y H4 => ∃ acc, H4 D = some (.lst acc) ∧ acc.length < sizeLine ∧ Nx (upd H4 D (.lst (acc ++ [y]))) else Nx H3) := by
 refine ⟨fun i m H => i ≤ min xs.length ys.length ∧ m = min xs.length ys.length - i ∧ Pv i H, ⟨_, Nat.zero_le _, rfl, h0⟩, fun i m H ⟨hi, hm, hp⟩ => ?_⟩
 obtain ⟨q1, q2⟩ := hl i H hp
 by_cases hlt : i < min xs.length ys.length
 ·have hx : i < xs.length := Nat.lt_of_lt_of_le hlt (Nat.min_le_left _ _)
  have hy : i < ys.length := Nat.lt_of_lt_of_le hlt (Nat.min_le_right _ _)
  refine .inr ⟨⟨xs, ys, _, _, q1, q2, List.getElem?_eq_getElem hx, List.getElem?_eq_getElem hy⟩, Pv (i + 1), fun H' h' => ⟨_, ?_, by omega, rfl, h'⟩, ?_⟩
  ·omega
  ·rintro v H' ⟨T, x, y, rfl, hT, rfl, e1, e2⟩
   exact hs i x y T H (e1 xs q1) (e2 ys q2) hp hT
 ·have e : i = min xs.length ys.length := by omega
  refine .inl ⟨⟨xs, ys, q1, q2, ?_⟩, hd H (e ▸ hp)⟩
  omega
theorem lc_zipMap (f : Nat → V) (hn : H1 D = none) (q1 : SqK t1 K H1 a xs) (q2 : SqK t2 K H1 b ys) (hz : min xs.length ys.length < sizeLine)
  (hs : ∀ i x y T H (R : VK) (Z : Hp → Prop), xs[i]? = some x → ys[i]? = some y → Same H1 H → H T = none → (∀ H4, Same (upd H T (.tup [x, y])) H4 → R (f i) H4) →
   g (.ref T) (wipe σ vs) (upd H T (.tup [x, y])) fun σ2 H2 => wipe σ2 vs = wipe σ vs ∧ tt σ2 H2 fun b H3 => if b = true then te σ2 H3 R else Z H3)
  (hd : ∀ H, Same H1 H → H D = some (.lst ((List.range (min xs.length ys.length)).map f)) → Qd H) :
  ∃ W : Nat → Nat → Hp → Prop, (∃ m, W 0 m (upd H1 D (.lst []))) ∧ ∀ i m H, W i m H → ((ItzK t1 t2 K a b).stop i H ∧ Qd H) ∨ ((ItzK t1 t2 K a b).go i H ∧ ∃ Nx : Hp → Prop, (∀ H', Nx H' → ∃ m', m' < m ∧ W (i + 1) m' H') ∧ ∀ x H', (ItzK t1 t2 K a b).yld i H x H' →
   g x (wipe σ vs) H' fun σ2 H2 => wipe σ2 vs = wipe σ vs ∧ tt σ2 H2 fun b H3 => if b = true then te σ2 H3 fun y H4 => ∃ acc, H4 D = some (.lst acc) ∧ acc.length < sizeLine ∧ Nx (upd H4 D (.lst (acc ++ [y]))) else Nx H3) := by
 refine lc_zip (xs := xs) (ys := ys) (fun i H => i ≤ min xs.length ys.length ∧ Same H1 H ∧ H D = some (.lst ((List.range i).map f))) ⟨Nat.zero_le _, Same.new hn, upd_same⟩ (fun i H ⟨_, s, _⟩ => ⟨q1.same s, q2.same s⟩) ?_ (fun H ⟨_, s, h⟩ => hd H s h)
 rintro i x y T H hx hy ⟨hi, s, hD⟩ hT
 have h1 : i < xs.length := (List.getElem?_eq_some_iff.mp hx).1
 have h2 : i < ys.length := (List.getElem?_eq_some_iff.mp hy).1
 refine hs i x y T H _ _ hx hy s hT ?_
 intro H4 s4
 have hTD : D ≠ T := ne_of_none hD hT
 have hD4 : H4 D = some (.lst ((List.range i).map f)) := s4 D _ (by rw [upd_ne hTD]; exact hD)
 refine ⟨_, hD4, ?_, ?_, Same.newKeep hn ((s.trans (Same.new hT)).trans s4), ?_⟩
 ·rw [List.length_map, List.length_range]; omega
 ·omega
 ·rw [upd_same, List.range_succ, List.map_append]
  rfl
end
end L2
end
section
namespace L2
open PySem PySem.Spec PyProof.Rows
open SX
structure FnRec where
 f : Addr
 d : FuncData
structure FnAt (K : PySem.W.Frag) (mg : Str → Option Value) (x : Str) (st : Stmt) (ps : List Str) (r : FnRec) : Prop where
 fn : Fun K x x st r.f r.d
 b : Binds K r.d ps []
 g : mg x = some (.ref r.f)
structure MtAt (K : PySem.W.Frag) (C : Addr) (m qual : Str) (st : Stmt) (ps : List Str) (r : FnRec) : Prop where
 fn : Fun K m qual st r.f r.d
 b : Binds K r.d ps []
 m : Meth K C m r.f
structure ClAt (K : PySem.W.Frag) (mg : Str → Option Value) (x : Str) (C init : Addr) : Prop where
 cl : Cls K C
 g : mg x = some (.ref C)
 mkr : Mk K C init
def GInt (mg : Str → Option Value) (x : Str) (v : Int) : Prop := ∃ t, mg x = some (.int v t)
def KTup (K : PySem.W.Frag) (a : Addr) (xs : List V) : Prop := ∃ (o : Obj) (its : Array Value) (n : Nat), K.lookup a = some o ∧ o.cls = .type "tuple" ∧ o.data = .seq its n ∧ its.size ≤ sizeLine ∧ Vals xs its.toList
theorem KTup.sq {K : PySem.W.Frag} {a : Addr} {xs : List V} (h : KTup K a xs) (H : Hp) : SqT K H a xs := .inr h
section
variable {X : Cx} {K : PySem.W.Frag} {a b e o value : Expr} {es : List Expr} {ta tb te tv : TE} {t : TA} {pos pos' apos p tpos : Pos} {x m f qual : Str} {st : Stmt} {ps : List Str} {r : FnRec} {k : Nat} {sp : Sp} {C : Addr}
theorem pgI {v : Int} (h : GInt X.mg x v) (hg : Gl X x := by rfl) (hd : (x == ("__debug__" : Str)) = false := by decide) : PE X (.Name x pos) (tC (.int v)) := by
 obtain ⟨tk, h⟩ := h
 exact pe_glob hg h ⟨_, rfl⟩ hd
theorem pgR {a : Addr} (h : X.mg x = some (.ref a)) (hg : Gl X x := by rfl) (hd : (x == ("__debug__" : Str)) = false := by decide) : PE X (.Name x pos) (tC (.ref a)) := pe_glob hg h rfl hd
theorem pfld (he : PE X e ta) (h : X.K = K := by rfl) (hb : attributeBase e f X.env (eval e X.env) = eval e X.env := by rfl) : PE X (.Attribute e f pos) (tFld K ta f) := h ▸ pe_fld he hb
theorem psfld (ha : PE X o ta) (hv : PE X value tv) (h : X.K = K := by rfl) (hs : swapsWith value (some (.Attribute o f pos')) pos.line X.env = pure false := by rfl) : PS X (.Assign [.Attribute o f pos'] value pos) (sFld K ta tv f) := h ▸ ps_fld ha hv hs
theorem psfldaug {op : Operator} {rd : V → V → Hp → VK → Prop} (ha : PE X o ta) (hv : PE X value tv) (hop : InOp X op rd) (h : X.K = K := by rfl) : PS X (.AugAssign (.Attribute o f tpos) op value pos) (sFldAug K ta tv rd f) := h ▸ ps_fldaug ha hv hop
theorem ix_listK (h : X.K = K := by rfl) : IxR X (rIxL K) := h ▸ ix_list
theorem ix_tupK (h : X.K = K := by rfl) : IxR X (rIxT K) := h ▸ ix_tup
theorem sl_listK (h : X.K = K := by rfl) : SlR X (rSlL K) := h ▸ sl_list
def rLenK (K : PySem.W.Frag) : List V → Hp → VK → Prop := fun xs H Q => ∃ p ys, xs = [.ref p] ∧ (SqL K H p ys ∨ SqT K H p ys) ∧ Q (.int ys.length) H
theorem call_lenK (h : X.K = K := by rfl) : CallR X (.builtin "len") (rLenK K) := h ▸ call_len_seq
theorem cr_sumTK (hc : X.calm = true) (h : X.K = K := by rfl) : CallR X (.builtin "sum") (rSumK true K) := h ▸ cr_sumT hc
theorem cr_sumK (hc : X.calm = true) (h : X.K = K := by rfl) : CallR X (.builtin "sum") (rSum K) := h ▸ cr_sum hc
theorem cr_maxK (hc : X.calm = true) (h : X.K = K := by rfl) : CallR X (.builtin "max") (rMax K) := h ▸ cr_max hc
theorem cr_allK (hc : X.calm = true) (h : X.K = K := by rfl) : CallR X (.builtin "all") (rAll K) := h ▸ cr_all hc
def rListOf (K : PySem.W.Frag) : List V → Hp → VK → Prop := fun xs H Q => ∃ p ys, xs = [.ref p] ∧ (SqL K H p ys ∨ SqT K H p ys) ∧ ∀ l, H l = none → Q (.ref l) (upd H l (.lst ys))
theorem call_listK (h : X.K = K := by rfl) : CallR X (.type "list") (rListOf K) := h ▸ call_list_of
def rTupOf (K : PySem.W.Frag) : List V → Hp → VK → Prop := fun xs H Q => ∃ p ys, xs = [.ref p] ∧ ((SqL K H p ys ∧ ∀ l, H l = none → Q (.ref l) (upd H l (.tup ys))) ∨ (SqT K H p ys ∧ Q (.ref p) H))
theorem call_tupleK (h : X.K = K := by rfl) : CallR X (.type "tuple") (rTupOf K) := h ▸ call_tuple_of
theorem op_catK (h : X.K = K := by rfl) : OpR X (binaryOp .Add) (rCatS K) := h ▸ op_catS
def tTruth (K : PySem.W.Frag) (ta : TE) : TT := fun σ H Q => ta σ H fun x H' => ∃ k, TruV K x H' k ∧ Q k H'
theorem ptruth (ha : PE X a ta) (he : ∀ whole, isTrue a X.env whole = (do let v ← whole; standAt a.pos; holding [v] (truthy v))) (h : X.K = K := by rfl) : PT X a (tTruth K ta) := h ▸ pt_truth ha he
theorem plistI {tg l : Expr} {tl : TE} (hl : PE X l tl) (h : X.K = K := by rfl) : PI X tg l (iList K tl) := h ▸ pi_list hl
theorem pzip (t1 t2 : Bool) {e e2 : Expr} {elts : List Expr} {kk : Nat} (hg : Gl X "zip") (hm : X.mg "zip" = none) (ha : PA X [e, e2] t) (h : X.K = K := by rfl)
  (hs : starEach [e, e2] X.env = (false, eval e X.env) :: starEach [e2] X.env := by rfl) (hpl : (backTo pos (starEach [e2] X.env)).any (·.1) = false := by rfl) :
  PI X (.Tuple elts kk tpos) (.Call (.Name "zip" p) [e, e2] [] pos) (iZipK t1 t2 K t) := h ▸ pi_zipK t1 t2 hg hm ha hs hpl
theorem penumT {elts : List Expr} {kk : Nat} (hg : Gl X "enumerate") (hm : X.mg "enumerate" = none) (ha : PA X [e] t) (h : X.K = K := by rfl) (hs : starEach [e] X.env = [(false, eval e X.env)] := by rfl) :
  PI X (.Tuple elts kk tpos) (.Call (.Name "enumerate" p) [e] [] pos) (iEnumT K t) := h ▸ pi_enumT hg hm ha hs
theorem penumL {elts : List Expr} {kk : Nat} (hg : Gl X "enumerate") (hm : X.mg "enumerate" = none) (ha : PA X [e] t) (h : X.K = K := by rfl) (hs : starEach [e] X.env = [(false, eval e X.env)] := by rfl) :
  PI X (.Tuple elts kk tpos) (.Call (.Name "enumerate" p) [e] [] pos) (iEnum K t) := h ▸ pi_enum hg hm ha hs
theorem ptupG {es : List Expr} {kk : Nat} {tg : TGs} {n : Nat} (hc : X.calm = true) (hh : PGs X es tg) (h : X.K = K := by rfl) (hn : (assignEach es X.env).length = n := by rfl) (hst : (assignEach es X.env).findIdx? (·.1) = none := by rfl) : PG X (.Tuple es kk pos) (gTup K n tg) := h ▸ pg_tup hc hh hn hst
theorem pcall (R : FnAt X.K X.mg x st ps r) (F : FnOk X.prog X.w X.K X.mg X.base CX0 k r.f r.d ps sp) (hr : Room k X.A) (ha : PA X (e :: es) t) (hg : Gl X x := by rfl) (hdb : (x == ("__debug__" : Str)) = false := by decide)
  (he : starEach (e :: es) X.env = (false, eval e X.env) :: starEach es X.env := by rfl) (hpl : (backTo pos (starEach es X.env)).any (·.1) = false := by rfl) : PE X (.Call (.Name x p) (e :: es) [] pos) (tCall sp [] E0 t) :=
 pe_call F hr hg R.g R.fn.kp R.b .nil pass0 ha hdb he hpl
theorem pmake (R : ClAt X.K X.mg x C r.f) (I : MtAt X.K C m qual st ps r) (F : FnOk X.prog X.w X.K X.mg X.base CX0 k r.f r.d ps sp) (hr : Room (k + 1) X.A) (ha : PA X (e :: es) t) (hg : Gl X x := by rfl) (hdb : (x == ("__debug__" : Str)) = false := by decide)
  (he : starEach (e :: es) X.env = (false, eval e X.env) :: starEach es X.env := by rfl) (hpl : (backTo pos (starEach es X.env)).any (·.1) = false := by rfl) : PE X (.Call (.Name x p) (e :: es) [] pos) (tMake C sp [] E0 t) :=
 pe_make R.mkr F hr hg R.g I.b .nil pass0 ha hdb he hpl
theorem pmake0 (R : ClAt X.K X.mg x C r.f) (I : MtAt X.K C m qual st ps r) (F : FnOk X.prog X.w X.K X.mg X.base CX0 k r.f r.d ps sp) (hr : Room (k + 1) X.A) (hg : Gl X x := by rfl) (hdb : (x == ("__debug__" : Str)) = false := by decide) : PE X (.Call (.Name x p) [] [] pos) (tMake C sp [] E0 tNil) :=
 pe_make0 R.mkr F hr hg R.g I.b .nil pass0 hdb
theorem pmeth {pl : Sem Bool} {init : Addr} {xc : Str} (R : ClAt X.K X.mg xc C init) (I : MtAt X.K C m qual st ps r) (F : FnOk X.prog X.w X.K X.mg X.base CX0 k r.f r.d ps sp) (hr : Room k X.A) (ho : PE X o ta) (ha : PA X (e :: es) t)
  (hst : starEach (e :: es) X.env = (false, eval e X.env) :: starEach es X.env := by rfl) (hpl : (backTo pos (starEach es X.env)).any (·.1) = false := by rfl)
  (ht : eval (.Call (.Attribute o m apos) (e :: es) [] pos) X.env = (do
   let ov ← eval o X.env
   standAt apos.atName
   let (f, first) ← holding [ov] (getMethod ov m pl)
   callWith pos f first (backTo pos (starEach (e :: es) X.env)) (backToKw pos (keywordEach [] X.env))) := by rfl) : PE X (.Call (.Attribute o m apos) (e :: es) [] pos) (tMeth C m sp [] E0 ta t) :=
 pe_meth (pl := pl) ho R.cl I.m F hr I.b .nil pass0 ha hst hpl ht
theorem pmeth0 {pl : Sem Bool} {init : Addr} {xc : Str} (R : ClAt X.K X.mg xc C init) (I : MtAt X.K C m qual st ps r) (F : FnOk X.prog X.w X.K X.mg X.base CX0 k r.f r.d ps sp) (hr : Room k X.A) (ho : PE X o ta)
  (ht : eval (.Call (.Attribute o m apos) [] [] pos) X.env = (do
   let ov ← eval o X.env
   standAt apos.atName
   let (f, first) ← holding [ov] (getMethod ov m pl)
   callWith pos f first (backTo pos (starEach [] X.env)) (backToKw pos (keywordEach [] X.env))) := by rfl) : PE X (.Call (.Attribute o m apos) [] [] pos) (tMeth C m sp [] E0 ta tNil) :=
 pe_meth0 (pl := pl) ho R.cl I.m F hr I.b .nil pass0 ht
theorem pcallV (hx : PE X (.Name x p) te) (ha : PA X (e :: es) t) (h : X.K = K := by rfl)
  (he : starEach (e :: es) X.env = (false, eval e X.env) :: starEach es X.env := by rfl) (hpl : (backTo pos (starEach es X.env)).any (·.1) = false := by rfl) :
  PE X (.Call (.Name x p) (e :: es) [] pos) (tCallV X.prog X.w K X.mg X.base X.A te t) := h ▸ pe_callV hx ha he hpl
end
end L2
end
section
namespace L2
open PySem PySem.Spec PyProof.Rows
open SX
section
variable {K : PySem.W.Frag} {t1 t2 : Bool} {a b : Addr} {xs ys : List V} {g : TG} {tb : TS} {D : Ends} {σ : St} {H : Hp}
theorem for_zip (Pv : Nat → St → Hp → Prop) (h0 : Pv 0 σ H) (hl : ∀ i σ H, Pv i σ H → SqK t1 K H a xs ∧ SqK t2 K H b ys)
  (hs : ∀ i x y T σ H, xs[i]? = some x → ys[i]? = some y → Pv i σ H → H T = none → g (.ref T) σ (upd H T (.tup [x, y])) fun σ2 H2 => tb { D with nx := Pv (i + 1), ct := Pv (i + 1), bk := D.nx } σ2 H2)
  (hd : ∀ σ H, Pv (min xs.length ys.length) σ H → D.nx σ H) :
  ∃ W : Nat → Nat → St → Hp → Prop, (∃ m, W 0 m σ H) ∧ ∀ i m σ H, W i m σ H → ((ItzK t1 t2 K a b).stop i H ∧ D.nx σ H) ∨ ((ItzK t1 t2 K a b).go i H ∧ ∃ N : St → Hp → Prop, (∀ σ' H', N σ' H' → ∃ m', m' < m ∧ W (i + 1) m' σ' H') ∧
   ∀ x H', (ItzK t1 t2 K a b).yld i H x H' → g x σ H' fun σ2 H2 => tb { D with nx := N, ct := N, bk := D.nx } σ2 H2) := by
 refine ⟨fun i m σ H => i ≤ min xs.length ys.length ∧ m = min xs.length ys.length - i ∧ Pv i σ H, ⟨_, Nat.zero_le _, rfl, h0⟩, fun i m σ H ⟨hi, hm, hp⟩ => ?_⟩
 obtain ⟨q1, q2⟩ := hl i σ H hp
 by_cases hlt : i < min xs.length ys.length
 ·have hx : i < xs.length := Nat.lt_of_lt_of_le hlt (Nat.min_le_left _ _)
  have hy : i < ys.length := Nat.lt_of_lt_of_le hlt (Nat.min_le_right _ _)
  refine .inr ⟨⟨xs, ys, _, _, q1, q2, List.getElem?_eq_getElem hx, List.getElem?_eq_getElem hy⟩, Pv (i + 1), fun σ' H' h' => ⟨_, ?_, by omega, rfl, h'⟩, ?_⟩
  ·omega
  ·rintro v H' ⟨T, x, y, rfl, hT, rfl, e1, e2⟩
   exact hs i x y T σ H (e1 xs q1) (e2 ys q2) hp hT
 ·have e : i = min xs.length ys.length := by omega
  refine .inl ⟨⟨xs, ys, q1, q2, ?_⟩, hd σ H (e ▸ hp)⟩
  omega
theorem for_enumL (Pv : Nat → St → Hp → Prop) (h0 : Pv 0 σ H) (hl : ∀ i σ H, Pv i σ H → SqL K H a xs)
  (hs : ∀ i x T σ H, xs[i]? = some x → Pv i σ H → H T = none → g (.ref T) σ (upd H T (.tup [.int (i : Nat), x])) fun σ2 H2 => tb { D with nx := Pv (i + 1), ct := Pv (i + 1), bk := D.nx } σ2 H2)
  (hd : ∀ σ H, Pv xs.length σ H → D.nx σ H) :
  ∃ W : Nat → Nat → St → Hp → Prop, (∃ m, W 0 m σ H) ∧ ∀ i m σ H, W i m σ H → ((Ite K a).stop i H ∧ D.nx σ H) ∨ ((Ite K a).go i H ∧ ∃ N : St → Hp → Prop, (∀ σ' H', N σ' H' → ∃ m', m' < m ∧ W (i + 1) m' σ' H') ∧
   ∀ x H', (Ite K a).yld i H x H' → g x σ H' fun σ2 H2 => tb { D with nx := N, ct := N, bk := D.nx } σ2 H2) := by
 refine ⟨fun i m σ H => i ≤ xs.length ∧ m = xs.length - i ∧ Pv i σ H, ⟨_, Nat.zero_le _, rfl, h0⟩, fun i m σ H ⟨hi, hm, hp⟩ => ?_⟩
 have q1 := hl i σ H hp
 by_cases hlt : i < xs.length
 ·refine .inr ⟨⟨xs, _, q1, List.getElem?_eq_getElem hlt⟩, Pv (i + 1), fun σ' H' h' => ⟨_, ?_, by omega, rfl, h'⟩, ?_⟩
  ·omega
  ·rintro v H' ⟨T, x, rfl, hT, rfl, e1⟩
   exact hs i x T σ H (e1 xs q1) hp hT
 ·have e : i = xs.length := by omega
  exact .inl ⟨⟨xs, q1, by omega⟩, hd σ H (e ▸ hp)⟩
theorem for_enumT (Pv : Nat → St → Hp → Prop) (h0 : Pv 0 σ H) (hl : ∀ i σ H, Pv i σ H → SqT K H a xs)
  (hs : ∀ i x T σ H, xs[i]? = some x → Pv i σ H → H T = none → g (.ref T) σ (upd H T (.tup [.int (i : Nat), x])) fun σ2 H2 => tb { D with nx := Pv (i + 1), ct := Pv (i + 1), bk := D.nx } σ2 H2)
  (hd : ∀ σ H, Pv xs.length σ H → D.nx σ H) :
  ∃ W : Nat → Nat → St → Hp → Prop, (∃ m, W 0 m σ H) ∧ ∀ i m σ H, W i m σ H → ((IteT K a).stop i H ∧ D.nx σ H) ∨ ((IteT K a).go i H ∧ ∃ N : St → Hp → Prop, (∀ σ' H', N σ' H' → ∃ m', m' < m ∧ W (i + 1) m' σ' H') ∧
   ∀ x H', (IteT K a).yld i H x H' → g x σ H' fun σ2 H2 => tb { D with nx := N, ct := N, bk := D.nx } σ2 H2) := by
 refine ⟨fun i m σ H => i ≤ xs.length ∧ m = xs.length - i ∧ Pv i σ H, ⟨_, Nat.zero_le _, rfl, h0⟩, fun i m σ H ⟨hi, hm, hp⟩ => ?_⟩
 have q1 := hl i σ H hp
 by_cases hlt : i < xs.length
 ·refine .inr ⟨⟨xs, _, q1, List.getElem?_eq_getElem hlt⟩, Pv (i + 1), fun σ' H' h' => ⟨_, ?_, by omega, rfl, h'⟩, ?_⟩
  ·omega
  ·rintro v H' ⟨T, x, rfl, hT, rfl, e1⟩
   exact hs i x T σ H (e1 xs q1) hp hT
 ·have e : i = xs.length := by omega
  exact .inl ⟨⟨xs, q1, by omega⟩, hd σ H (e ▸ hp)⟩
end
section
variable {K : PySem.W.Frag} {a : Addr} {xs : List V} {g : TG} {tt : TT} {te : TE} {vs : List Nat} {σ : St} {H1 : Hp} {D : Addr} {Qd : Hp → Prop}
theorem lc_listMap (f : Nat → V) (hn : H1 D = none) (q1 : SqL K H1 a xs) (hz : xs.length < sizeLine)
  (hs : ∀ i x H (R : VK) (Z : Hp → Prop), xs[i]? = some x → Same H1 H → (∀ H4, Same H H4 → R (f i) H4) → g x (wipe σ vs) H fun σ2 H2 => wipe σ2 vs = wipe σ vs ∧ tt σ2 H2 fun b H3 => if b = true then te σ2 H3 R else Z H3)
  (hd : ∀ H, Same H1 H → H D = some (.lst ((List.range xs.length).map f)) → Qd H) :
  ∃ W : Nat → Nat → Hp → Prop, (∃ m, W 0 m (upd H1 D (.lst []))) ∧ ∀ i m H, W i m H → ((Itl K a).stop i H ∧ Qd H) ∨ ((Itl K a).go i H ∧ ∃ Nx : Hp → Prop, (∀ H', Nx H' → ∃ m', m' < m ∧ W (i + 1) m' H') ∧ ∀ x H', (Itl K a).yld i H x H' →
   g x (wipe σ vs) H' fun σ2 H2 => wipe σ2 vs = wipe σ vs ∧ tt σ2 H2 fun b H3 => if b = true then te σ2 H3 fun y H4 => ∃ acc, H4 D = some (.lst acc) ∧ acc.length < sizeLine ∧ Nx (upd H4 D (.lst (acc ++ [y]))) else Nx H3) := by
 refine lc_list (xs := xs) (fun i H => i ≤ xs.length ∧ Same H1 H ∧ H D = some (.lst ((List.range i).map f))) ⟨Nat.zero_le _, Same.new hn, upd_same⟩ (fun i H _ ⟨_, s, _⟩ => Same.seq s q1) ?_ (fun H ⟨_, s, h⟩ => hd H s h)
 rintro i x H hx ⟨hi, s, hD⟩
 have h1 : i < xs.length := (List.getElem?_eq_some_iff.mp hx).1
 refine hs i x H _ _ hx s ?_
 intro H4 s4
 have hD4 : H4 D = some (.lst ((List.range i).map f)) := s4 D _ hD
 refine ⟨_, hD4, ?_, by omega, Same.newKeep hn (s.trans s4), ?_⟩
 ·rw [List.length_map, List.length_range]; omega
 ·rw [upd_same, List.range_succ, List.map_append]
  rfl
theorem lc_rangeMap {lo : Int} {n : Nat} (f : Nat → V) (hn : H1 D = none) (hz : n < sizeLine)
  (hs : ∀ i H (R : VK) (Z : Hp → Prop), i < n → Same H1 H → (∀ H4, Same H H4 → R (f i) H4) → g (.int (lo + i)) (wipe σ vs) H fun σ2 H2 => wipe σ2 vs = wipe σ vs ∧ tt σ2 H2 fun b H3 => if b = true then te σ2 H3 R else Z H3)
  (hd : ∀ H, Same H1 H → H D = some (.lst ((List.range n).map f)) → Qd H) :
  ∃ W : Nat → Nat → Hp → Prop, (∃ m, W 0 m (upd H1 D (.lst []))) ∧ ∀ i m H, W i m H → ((Itr lo n).stop i H ∧ Qd H) ∨ ((Itr lo n).go i H ∧ ∃ Nx : Hp → Prop, (∀ H', Nx H' → ∃ m', m' < m ∧ W (i + 1) m' H') ∧ ∀ x H', (Itr lo n).yld i H x H' →
   g x (wipe σ vs) H' fun σ2 H2 => wipe σ2 vs = wipe σ vs ∧ tt σ2 H2 fun b H3 => if b = true then te σ2 H3 fun y H4 => ∃ acc, H4 D = some (.lst acc) ∧ acc.length < sizeLine ∧ Nx (upd H4 D (.lst (acc ++ [y]))) else Nx H3) := by
 refine lc_range (fun i H => i ≤ n ∧ Same H1 H ∧ H D = some (.lst ((List.range i).map f))) ⟨Nat.zero_le _, Same.new hn, upd_same⟩ ?_ (fun H ⟨_, s, h⟩ => hd H s h)
 rintro i H hx ⟨hi, s, hD⟩
 refine hs i H _ _ hx s ?_
 intro H4 s4
 have hD4 : H4 D = some (.lst ((List.range i).map f)) := s4 D _ hD
 refine ⟨_, hD4, ?_, by omega, Same.newKeep hn (s.trans s4), ?_⟩
 ·rw [List.length_map, List.length_range]; omega
 ·rw [upd_same, List.range_succ, List.map_append]
  rfl
end
end L2
end
section
namespace L2
open PySem PySem.Spec PyProof.Rows
open SX
theorem Room.m {j k : Nat} {A : Around} (r : Room k A) (h : j ≤ k := by decide) : Room j A := r.mono h
theorem FnScope.by_ {N P : List Str} {sc : Scope} (a : sc.kind = .function := by rfl) (b : sc.isCoroutine = false := by rfl) (c : sc.isGenerator = false := by rfl) (d : N.Nodup := by decide +kernel) (e : N.take P.length = P := by rfl)
  (f : ∀ x ∈ P, sc.names.lookup x = some .local ∨ sc.names.lookup x = some .cell := by decide +kernel) (g : ∀ y ∈ sc.names, y.2 ≠ .free := by decide +kernel) : FnScope N P sc := ⟨a, b, c, d, e, f, g⟩
theorem ext_tuple {l b : Addr} {xs zs : Array Value} {n m : Nat} {dc : Option Addr} {sl : Array (Option Value)} (h0 : ¬ (!xs.isEmpty && Builtin.List.listTooLong (xs.size + zs.size)) = true) (h1 : xs.size ≤ sizeLine) (h2 : xs.size + zs.size ≤ sizeLine + 1) :
  Meets (Builtin.«list.extend» ⟨[.ref l, .ref b], []⟩) (fun _ R s => s.heap.get? l = some { cls := .type "list", data := .seq xs n } ∧ s.heap.get? b = some { cls := .type "tuple", dict := dc, data := .seq zs m, slots := sl } ∧ R (.ok (.ret Value.none)) { s with heap := s.heap.update l (Obj.mapSeq fun x => x ++ zs) }) :=
 .of_wp fun prog w A R s h => by
  obtain ⟨hp, g, d, tk, os⟩ := s
  obtain ⟨hl, hb, h⟩ := h
  have f1 := AutoSeq1.idx_int
  have h3 : (xs ++ zs).size ≤ sizeLine + 1 := by rw [Array.size_append]; exact h2
  wp_walk using (wpAny_updateSeq hl rfl (hz := h1) (_hz' := h3)), AutoSeq1.wpAny_loadPart' hl, AutoSeq1.wpAny_loadPart' hb
  exact ⟨_, rfl, h⟩
section
variable {X : Cx}
def ipMul : TIp := fun x y H Q => ∃ i j, x = .int i ∧ y = .int j ∧ CMul i j ∧ Q (.int (i * j)) H
theorem ip_mul : PIp X .Mult ipMul := by
 intro pins s σ H x y v u Q I r1 r2 h
 obtain ⟨i, j, e1, e2, hc, q⟩ := h
 subst e1; subst e2
 obtain ⟨t, rfl⟩ := r1
 obtain ⟨t', rfl⟩ := r2
 exact imul_int ⟨.int _, H, I.tok _, ⟨_, rfl⟩, q⟩ hc.ok
def rExtendT (K : PySem.W.Frag) : V → List V → Hp → VK → Prop := fun x vs H Q => ∃ l b xs zs, x = .ref l ∧ vs = [.ref b] ∧ H l = some (.lst xs) ∧ SqT K H b zs ∧ xs.length + zs.length ≤ sizeLine ∧ Q .non (upd H l (.lst (xs ++ zs)))
theorem mt_extendT {K : PySem.W.Frag} (hK : X.K = K := by rfl) : MtM X "list.extend" (rExtendT K) := by
 subst hK
 intro pins s σ H x vs v us Q I rx rv h
 obtain ⟨l, b, xs, zs, rfl, rfl, hH, hB, hz, q⟩ := h
 cases rx
 obtain ⟨u, rfl, ru⟩ := rv.one
 cases ru
 obtain ⟨z, its, n, r, hl, e⟩ := I.lstM hH
 obtain ⟨its2, r2, ⟨o2, g2, c2, n2, d2⟩, z2⟩ := I.tuple hB
 have hl2 := r2.length
 have e2 : s.heap.get? b = some { cls := .type "tuple", dict := o2.dict, data := .seq its2.toArray n2, slots := o2.slots } := by
  obtain ⟨a1, a2, a3, a4⟩ := o2
  subst c2; subst d2
  exact g2
 have hsz : its.toArray.size + its2.toArray.size ≤ sizeLine := by rw [List.size_toArray, List.size_toArray]; omega
 have hlong : ¬ (!its.toArray.isEmpty && Builtin.List.listTooLong (its.toArray.size + its2.toArray.size)) = true := by
  rw [notLongL hsz, Bool.and_false]
  exact Bool.false_ne_true
 refine call_meets F.slot_list_extend ⟨_, e, rfl⟩ F.entry_list_extend (F.args_list_extend_2 _ _)
  (ext_tuple (n := n) (m := n2) hlong (by rw [List.size_toArray]; omega) (by omega)) ⟨e, e2, ?_⟩
 refine ⟨.non, _, I.lset (its' := its ++ its2) hH e (by simp) (r.append r2) ?_, rfl, q⟩
 rw [List.length_append]
 omega
end
end L2
end
section
namespace Sb
open PySem PySem.Spec L2 SX PyProof.Rows
def top (i : Nat) : Stmt := PySem.Challenge.pw_sortingbelts_s01_answers.main.body.getD i (.Pass ⟨0, 0, 0, 0⟩)
abbrev s_only : Stmt := top 4
abbrev s_added : Stmt := top 5
abbrev s_lessened : Stmt := top 6
abbrev s_parted : Stmt := top 7
abbrev s_Machine_init : Stmt := inClass (top 12) 0
abbrev s_Machine_copied : Stmt := inClass (top 12) 1
abbrev s_Bay_init : Stmt := inClass (top 13) 0
abbrev s_Bay_copied : Stmt := inClass (top 13) 1
abbrev s_State_init : Stmt := inClass (top 14) 0
abbrev s_State_copied : Stmt := inClass (top 14) 1
abbrev s_is_good : Stmt := top 16
abbrev s_brought : Stmt := top 17
abbrev s_mixes_of : Stmt := top 18
abbrev s_worth_of_all : Stmt := top 19
abbrev s_entered : Stmt := top 22
abbrev s_part_at : Stmt := top 23
abbrev s_put_through : Stmt := top 24
abbrev s_put_through_alone : Stmt := top 25
abbrev s_put_hopper_through : Stmt := top 26
abbrev s_again_till_good : Stmt := top 27
abbrev s_machine_loads : Stmt := top 28
abbrev s_machines_part : Stmt := top 29
abbrev s_bays_hold : Stmt := top 30
abbrev s_fits : Stmt := top 31
abbrev s_branched : Stmt := top 32
abbrev s_ways_through : Stmt := top 33
abbrev s_best_settings : Stmt := top 34
abbrev s_most_is_right : Stmt := top 49
abbrev s_hopper_takes : Stmt := top 50
abbrev s_so_machine : Stmt := top 51
abbrev s_so_setting : Stmt := top 52
abbrev s_so_turn : Stmt := top 53
abbrev s_leads_on : Stmt := top 54
abbrev s_so_belt : Stmt := top 55
abbrev s_so_bay : Stmt := top 56
abbrev s_so_feed : Stmt := top 57
abbrev s_so_run : Stmt := top 58
abbrev s_so_bale : Stmt := top 59
abbrev s_so_dump : Stmt := top 60
abbrev s_so_return : Stmt := top 61
abbrev s_so_take : Stmt := top 62
abbrev s_called : Stmt := top 67
abbrev s_History_init : Stmt := inClass (top 68) 0
abbrev s_History_begin : Stmt := inClass (top 68) 1
abbrev s_History_change : Stmt := inClass (top 68) 2
abbrev s_History_ask : Stmt := inClass (top 68) 3
abbrev s_History_back : Stmt := inClass (top 68) 4
abbrev s_History_again : Stmt := inClass (top 68) 5
abbrev s_History_standing : Stmt := inClass (top 68) 6
abbrev s_filled_up : Stmt := top 71
abbrev s_for_each_machine : Stmt := top 72
abbrev s_with_sum : Stmt := top 73
abbrev s_so_would : Stmt := top 74
abbrev s_so_loads : Stmt := top 75
abbrev s_so_pure : Stmt := top 76
abbrev s_so_best : Stmt := top 77
abbrev s_so_often : Stmt := top 78
abbrev s_so_goes : Stmt := top 79
abbrev s_so_split : Stmt := top 80
abbrev s_so_hopper : Stmt := top 81
abbrev s_so_in : Stmt := top 82
abbrev s_so_sets : Stmt := top 83
abbrev s_so_belts : Stmt := top 84
abbrev s_brought_by_bales : Stmt := top 85
abbrev s_so_bales : Stmt := top 86
abbrev s_so_look : Stmt := top 87
abbrev s_so_worth : Stmt := top 88
abbrev s_so_sums : Stmt := top 89
abbrev s_so_money : Stmt := top 90
abbrev s_Tape_init : Stmt := inClass (top 99) 0
abbrev s_Tape_ended : Stmt := inClass (top 99) 1
abbrev s_Tape_take : Stmt := inClass (top 99) 2
abbrev s_Tape_number : Stmt := inClass (top 99) 3
abbrev s_Tape_row : Stmt := inClass (top 99) 4
abbrev s_told_behind : Stmt := top 100
abbrev s_answer_to : Stmt := top 101
abbrev s_answers : Stmt := top 102
theorem sc_only : FnScope ["kind", "kg", "other"] ["kind", "kg"] (defScope s_only) := .by_
theorem sc_added : FnScope ["mix", "other", "kg", "more"] ["mix", "other"] (defScope s_added) := .by_
theorem sc_lessened : FnScope ["mix", "part", "kg", "gone"] ["mix", "part"] (defScope s_lessened) := .by_
theorem sc_parted : FnScope ["mix", "setting", "kg", "share"] ["mix", "setting"] (defScope s_parted) := .by_
theorem sc_Machine_init : FnScope ["self", "most", "setting"] ["self", "most", "setting"] (defScope s_Machine_init) := .by_
theorem sc_Machine_copied : FnScope ["self", "twin"] ["self"] (defScope s_Machine_copied) := .by_
theorem sc_Bay_init : FnScope ["self"] ["self"] (defScope s_Bay_init) := .by_
theorem sc_Bay_copied : FnScope ["self", "twin"] ["self"] (defScope s_Bay_copied) := .by_
theorem sc_State_init : FnScope ["self", "harm", "i"] ["self", "harm"] (defScope s_State_init) := .by_
theorem sc_State_copied : FnScope ["self", "twin", "machine", "bay"] ["self"] (defScope s_State_copied) := .by_
theorem sc_is_good : FnScope ["bay", "mix", "harm", "kg"] ["bay", "mix", "harm"] (defScope s_is_good) := .by_
theorem sc_brought : FnScope ["bay", "mix"] ["bay", "mix"] (defScope s_brought) := .by_
theorem sc_mixes_of : FnScope ["bays", "bay"] ["bays"] (defScope s_mixes_of) := .by_
theorem sc_worth_of_all : FnScope ["bays", "mixes", "harm", "money", "bay", "mix"] ["bays", "mixes", "harm"] (defScope s_worth_of_all) := .by_
theorem sc_entered : FnScope ["had", "machines", "mix", "places", "machine", "first"] ["had", "machines", "mix"] (defScope s_entered) := .by_
theorem sc_part_at : FnScope ["places", "k", "belts", "setting", "mix", "side"] ["places", "k", "belts", "setting"] (defScope s_part_at) := .by_
theorem sc_put_through : FnScope ["had", "machines", "mix", "places", "k", "machine"] ["had", "machines", "mix"] (defScope s_put_through) := .by_
theorem sc_put_through_alone : FnScope ["machines", "mix", "i"] ["machines", "mix"] (defScope s_put_through_alone) := .by_
theorem sc_put_hopper_through : FnScope ["state"] ["state"] (defScope s_put_hopper_through) := .by_
theorem sc_again_till_good : FnScope ["state", "i", "bay", "mix", "times"] ["state", "i"] (defScope s_again_till_good) := .by_
theorem sc_machine_loads : FnScope ["places", "mix"] ["places"] (defScope s_machine_loads) := .by_
theorem sc_machines_part : FnScope ["machines", "places", "machine", "load"] ["machines", "places"] (defScope s_machines_part) := .by_
theorem sc_bays_hold : FnScope ["bays", "places", "bay", "mix"] ["bays", "places"] (defScope s_bays_hold) := .by_
theorem sc_fits : FnScope ["state", "places"] ["state", "places"] (defScope s_fits) := .by_
theorem sc_branched : FnScope ["ways", "k", "machine", "further", "way", "number", "setting", "places"] ["ways", "k", "machine"] (defScope s_branched) := .by_
theorem sc_ways_through : FnScope ["state", "ways", "k", "machine", "able", "way"] ["state"] (defScope s_ways_through) := .by_
theorem sc_best_settings : FnScope ["state", "best", "way", "money"] ["state"] (defScope s_best_settings) := .by_
theorem sc_most_is_right : FnScope ["most"] ["most"] (defScope s_most_is_right) := .by_
theorem sc_hopper_takes : FnScope ["state", "kg"] ["state", "kg"] (defScope s_hopper_takes) := .by_
theorem sc_so_machine : FnScope ["state", "most", "p"] ["state", "most", "p"] (defScope s_so_machine) := .by_
theorem sc_so_setting : FnScope ["state", "k", "p", "machine"] ["state", "k", "p"] (defScope s_so_setting) := .by_
theorem sc_so_turn : FnScope ["state", "k", "s", "machine", "before"] ["state", "k", "s"] (defScope s_so_turn) := .by_
theorem sc_leads_on : FnScope ["state", "k", "to"] ["state", "k", "to"] (defScope s_leads_on) := .by_
theorem sc_so_belt : FnScope ["state", "k", "side", "to", "machine", "before"] ["state", "k", "side", "to"] (defScope s_so_belt) := .by_
theorem sc_so_bay : FnScope ["state", "i", "kind", "pure", "price", "most", "bay"] ["state", "i", "kind", "pure", "price", "most"] (defScope s_so_bay) := .by_
theorem sc_so_feed : FnScope ["state", "m", "kg"] ["state", "m"] (defScope s_so_feed) := .by_
theorem sc_so_run : FnScope ["state", "kg", "places", "bay", "mix"] ["state"] (defScope s_so_run) := .by_
theorem sc_so_bale : FnScope ["state", "i", "bay", "kg", "money"] ["state", "i"] (defScope s_so_bale) := .by_
theorem sc_so_dump : FnScope ["state", "i", "price", "bay", "kg", "cost"] ["state", "i", "price"] (defScope s_so_dump) := .by_
theorem sc_so_return : FnScope ["state", "i", "bay", "kg"] ["state", "i"] (defScope s_so_return) := .by_
theorem sc_so_take : FnScope ["state", "best", "machine", "number"] ["state"] (defScope s_so_take) := .by_
theorem sc_called : FnScope ["call", "state", "told"] ["call", "state", "told"] (defScope s_called) := .by_
theorem sc_History_init : FnScope ["self"] ["self"] (defScope s_History_init) := .by_
theorem sc_History_begin : FnScope ["self", "harm"] ["self", "harm"] (defScope s_History_begin) := .by_
theorem sc_History_change : FnScope ["self", "call", "told", "changed", "answer"] ["self", "call", "told"] (defScope s_History_change) := .by_
theorem sc_History_ask : FnScope ["self", "call", "told"] ["self", "call", "told"] (defScope s_History_ask) := .by_
theorem sc_History_back : FnScope ["self"] ["self"] (defScope s_History_back) := .by_
theorem sc_History_again : FnScope ["self"] ["self"] (defScope s_History_again) := .by_
theorem sc_History_standing : FnScope ["self", "state"] ["self"] (defScope s_History_standing) := .by_
theorem sc_filled_up : FnScope ["numbers", "length", "place"] ["numbers", "length"] (defScope s_filled_up) := .by_
theorem sc_for_each_machine : FnScope ["numbers"] ["numbers"] (defScope s_for_each_machine) := .by_
theorem sc_with_sum : FnScope ["mix"] ["mix"] (defScope s_with_sum) := .by_
theorem sc_so_would : FnScope ["state", "i"] ["state", "i"] (defScope s_so_would) := .by_
theorem sc_so_loads : FnScope ["state", "places"] ["state"] (defScope s_so_loads) := .by_
theorem sc_so_pure : FnScope ["state", "i", "bay", "kg"] ["state", "i"] (defScope s_so_pure) := .by_
theorem sc_so_best : FnScope ["state", "best"] ["state"] (defScope s_so_best) := .by_
theorem sc_so_often : FnScope ["state", "i", "good"] ["state", "i"] (defScope s_so_often) := .by_
theorem sc_so_goes : FnScope ["state", "kind", "kg", "places", "mix"] ["state", "kind", "kg"] (defScope s_so_goes) := .by_
theorem sc_so_split : FnScope ["state", "k", "side", "kind", "kg", "machine", "first"] ["state", "k", "side", "kind", "kg"] (defScope s_so_split) := .by_
theorem sc_so_hopper : FnScope ["state"] ["state"] (defScope s_so_hopper) := .by_
theorem sc_so_in : FnScope ["state", "i"] ["state", "i"] (defScope s_so_in) := .by_
theorem sc_so_sets : FnScope ["state", "choices", "machine"] ["state"] (defScope s_so_sets) := .by_
theorem sc_so_belts : FnScope ["state", "belts", "machine"] ["state"] (defScope s_so_belts) := .by_
theorem sc_brought_by_bales : FnScope ["state", "bale"] ["state"] (defScope s_brought_by_bales) := .by_
theorem sc_so_bales : FnScope ["state", "bale"] ["state"] (defScope s_so_bales) := .by_
theorem sc_so_look : FnScope ["state", "n", "bale"] ["state", "n"] (defScope s_so_look) := .by_
theorem sc_so_worth : FnScope ["state"] ["state"] (defScope s_so_worth) := .by_
theorem sc_so_sums : FnScope ["state", "kind", "in_bays", "bay", "baled", "bale"] ["state", "kind"] (defScope s_so_sums) := .by_
theorem sc_so_money : FnScope ["state"] ["state"] (defScope s_so_money) := .by_
theorem sc_Tape_init : FnScope ["self", "numbers"] ["self", "numbers"] (defScope s_Tape_init) := .by_
theorem sc_Tape_ended : FnScope ["self"] ["self"] (defScope s_Tape_ended) := .by_
theorem sc_Tape_take : FnScope ["self", "length"] ["self", "length"] (defScope s_Tape_take) := .by_
theorem sc_Tape_number : FnScope ["self"] ["self"] (defScope s_Tape_number) := .by_
theorem sc_Tape_row : FnScope ["self"] ["self"] (defScope s_Tape_row) := .by_
theorem sc_told_behind : FnScope ["tape", "call", "shape", "numbers", "rows", "place"] ["tape", "call"] (defScope s_told_behind) := .by_
theorem sc_answer_to : FnScope ["history", "call", "told"] ["history", "call", "told"] (defScope s_answer_to) := .by_
theorem sc_answers : FnScope ["calls", "tape", "history", "answered", "call", "answer"] ["calls"] (defScope s_answers) := .by_
structure Ad where
 only : FnRec
 added : FnRec
 lessened : FnRec
 parted : FnRec
 Machine_init : FnRec
 Machine_copied : FnRec
 Bay_init : FnRec
 Bay_copied : FnRec
 State_init : FnRec
 State_copied : FnRec
 is_good : FnRec
 brought : FnRec
 mixes_of : FnRec
 worth_of_all : FnRec
 entered : FnRec
 part_at : FnRec
 put_through : FnRec
 put_through_alone : FnRec
 put_hopper_through : FnRec
 again_till_good : FnRec
 machine_loads : FnRec
 machines_part : FnRec
 bays_hold : FnRec
 fits : FnRec
 branched : FnRec
 ways_through : FnRec
 best_settings : FnRec
 most_is_right : FnRec
 hopper_takes : FnRec
 so_machine : FnRec
 so_setting : FnRec
 so_turn : FnRec
 leads_on : FnRec
 so_belt : FnRec
 so_bay : FnRec
 so_feed : FnRec
 so_run : FnRec
 so_bale : FnRec
 so_dump : FnRec
 so_return : FnRec
 so_take : FnRec
 called : FnRec
 History_init : FnRec
 History_begin : FnRec
 History_change : FnRec
 History_ask : FnRec
 History_back : FnRec
 History_again : FnRec
 History_standing : FnRec
 filled_up : FnRec
 for_each_machine : FnRec
 with_sum : FnRec
 so_would : FnRec
 so_loads : FnRec
 so_pure : FnRec
 so_best : FnRec
 so_often : FnRec
 so_goes : FnRec
 so_split : FnRec
 so_hopper : FnRec
 so_in : FnRec
 so_sets : FnRec
 so_belts : FnRec
 brought_by_bales : FnRec
 so_bales : FnRec
 so_look : FnRec
 so_worth : FnRec
 so_sums : FnRec
 so_money : FnRec
 Tape_init : FnRec
 Tape_ended : FnRec
 Tape_take : FnRec
 Tape_number : FnRec
 Tape_row : FnRec
 told_behind : FnRec
 answer_to : FnRec
 answers : FnRec
 c_Machine : Addr
 c_Bay : Addr
 c_State : Addr
 c_History : Addr
 c_Tape : Addr
 c_NOTHING : Addr
 c_CHANGES : Addr
 c_QUESTIONS : Addr
 c_SHAPES : Addr
 e_SHAPES : List Addr
structure Txt (K : PySem.W.Frag) (mg : Str → Option Value) (t : Ad) : Prop where
 only : FnAt K mg "only" s_only ["kind", "kg"] t.only
 added : FnAt K mg "added" s_added ["mix", "other"] t.added
 lessened : FnAt K mg "lessened" s_lessened ["mix", "part"] t.lessened
 parted : FnAt K mg "parted" s_parted ["mix", "setting"] t.parted
 Machine_init : MtAt K t.c_Machine "__init__" "Machine.__init__" s_Machine_init ["self", "most", "setting"] t.Machine_init
 Machine_copied : MtAt K t.c_Machine "copied" "Machine.copied" s_Machine_copied ["self"] t.Machine_copied
 Bay_init : MtAt K t.c_Bay "__init__" "Bay.__init__" s_Bay_init ["self"] t.Bay_init
 Bay_copied : MtAt K t.c_Bay "copied" "Bay.copied" s_Bay_copied ["self"] t.Bay_copied
 State_init : MtAt K t.c_State "__init__" "State.__init__" s_State_init ["self", "harm"] t.State_init
 State_copied : MtAt K t.c_State "copied" "State.copied" s_State_copied ["self"] t.State_copied
 is_good : FnAt K mg "is_good" s_is_good ["bay", "mix", "harm"] t.is_good
 brought : FnAt K mg "brought" s_brought ["bay", "mix"] t.brought
 mixes_of : FnAt K mg "mixes_of" s_mixes_of ["bays"] t.mixes_of
 worth_of_all : FnAt K mg "worth_of_all" s_worth_of_all ["bays", "mixes", "harm"] t.worth_of_all
 entered : FnAt K mg "entered" s_entered ["had", "machines", "mix"] t.entered
 part_at : FnAt K mg "part_at" s_part_at ["places", "k", "belts", "setting"] t.part_at
 put_through : FnAt K mg "put_through" s_put_through ["had", "machines", "mix"] t.put_through
 put_through_alone : FnAt K mg "put_through_alone" s_put_through_alone ["machines", "mix"] t.put_through_alone
 put_hopper_through : FnAt K mg "put_hopper_through" s_put_hopper_through ["state"] t.put_hopper_through
 again_till_good : FnAt K mg "again_till_good" s_again_till_good ["state", "i"] t.again_till_good
 machine_loads : FnAt K mg "machine_loads" s_machine_loads ["places"] t.machine_loads
 machines_part : FnAt K mg "machines_part" s_machines_part ["machines", "places"] t.machines_part
 bays_hold : FnAt K mg "bays_hold" s_bays_hold ["bays", "places"] t.bays_hold
 fits : FnAt K mg "fits" s_fits ["state", "places"] t.fits
 branched : FnAt K mg "branched" s_branched ["ways", "k", "machine"] t.branched
 ways_through : FnAt K mg "ways_through" s_ways_through ["state"] t.ways_through
 best_settings : FnAt K mg "best_settings" s_best_settings ["state"] t.best_settings
 most_is_right : FnAt K mg "most_is_right" s_most_is_right ["most"] t.most_is_right
 hopper_takes : FnAt K mg "hopper_takes" s_hopper_takes ["state", "kg"] t.hopper_takes
 so_machine : FnAt K mg "so_machine" s_so_machine ["state", "most", "p"] t.so_machine
 so_setting : FnAt K mg "so_setting" s_so_setting ["state", "k", "p"] t.so_setting
 so_turn : FnAt K mg "so_turn" s_so_turn ["state", "k", "s"] t.so_turn
 leads_on : FnAt K mg "leads_on" s_leads_on ["state", "k", "to"] t.leads_on
 so_belt : FnAt K mg "so_belt" s_so_belt ["state", "k", "side", "to"] t.so_belt
 so_bay : FnAt K mg "so_bay" s_so_bay ["state", "i", "kind", "pure", "price", "most"] t.so_bay
 so_feed : FnAt K mg "so_feed" s_so_feed ["state", "m"] t.so_feed
 so_run : FnAt K mg "so_run" s_so_run ["state"] t.so_run
 so_bale : FnAt K mg "so_bale" s_so_bale ["state", "i"] t.so_bale
 so_dump : FnAt K mg "so_dump" s_so_dump ["state", "i", "price"] t.so_dump
 so_return : FnAt K mg "so_return" s_so_return ["state", "i"] t.so_return
 so_take : FnAt K mg "so_take" s_so_take ["state"] t.so_take
 called : FnAt K mg "called" s_called ["call", "state", "told"] t.called
 History_init : MtAt K t.c_History "__init__" "History.__init__" s_History_init ["self"] t.History_init
 History_begin : MtAt K t.c_History "begin" "History.begin" s_History_begin ["self", "harm"] t.History_begin
 History_change : MtAt K t.c_History "change" "History.change" s_History_change ["self", "call", "told"] t.History_change
 History_ask : MtAt K t.c_History "ask" "History.ask" s_History_ask ["self", "call", "told"] t.History_ask
 History_back : MtAt K t.c_History "back" "History.back" s_History_back ["self"] t.History_back
 History_again : MtAt K t.c_History "again" "History.again" s_History_again ["self"] t.History_again
 History_standing : MtAt K t.c_History "standing" "History.standing" s_History_standing ["self"] t.History_standing
 filled_up : FnAt K mg "filled_up" s_filled_up ["numbers", "length"] t.filled_up
 for_each_machine : FnAt K mg "for_each_machine" s_for_each_machine ["numbers"] t.for_each_machine
 with_sum : FnAt K mg "with_sum" s_with_sum ["mix"] t.with_sum
 so_would : FnAt K mg "so_would" s_so_would ["state", "i"] t.so_would
 so_loads : FnAt K mg "so_loads" s_so_loads ["state"] t.so_loads
 so_pure : FnAt K mg "so_pure" s_so_pure ["state", "i"] t.so_pure
 so_best : FnAt K mg "so_best" s_so_best ["state"] t.so_best
 so_often : FnAt K mg "so_often" s_so_often ["state", "i"] t.so_often
 so_goes : FnAt K mg "so_goes" s_so_goes ["state", "kind", "kg"] t.so_goes
 so_split : FnAt K mg "so_split" s_so_split ["state", "k", "side", "kind", "kg"] t.so_split
 so_hopper : FnAt K mg "so_hopper" s_so_hopper ["state"] t.so_hopper
 so_in : FnAt K mg "so_in" s_so_in ["state", "i"] t.so_in
 so_sets : FnAt K mg "so_sets" s_so_sets ["state"] t.so_sets
 so_belts : FnAt K mg "so_belts" s_so_belts ["state"] t.so_belts
 brought_by_bales : FnAt K mg "brought_by_bales" s_brought_by_bales ["state"] t.brought_by_bales
 so_bales : FnAt K mg "so_bales" s_so_bales ["state"] t.so_bales
 so_look : FnAt K mg "so_look" s_so_look ["state", "n"] t.so_look
 so_worth : FnAt K mg "so_worth" s_so_worth ["state"] t.so_worth
 so_sums : FnAt K mg "so_sums" s_so_sums ["state", "kind"] t.so_sums
 so_money : FnAt K mg "so_money" s_so_money ["state"] t.so_money
 Tape_init : MtAt K t.c_Tape "__init__" "Tape.__init__" s_Tape_init ["self", "numbers"] t.Tape_init
 Tape_ended : MtAt K t.c_Tape "ended" "Tape.ended" s_Tape_ended ["self"] t.Tape_ended
 Tape_take : MtAt K t.c_Tape "take" "Tape.take" s_Tape_take ["self", "length"] t.Tape_take
 Tape_number : MtAt K t.c_Tape "number" "Tape.number" s_Tape_number ["self"] t.Tape_number
 Tape_row : MtAt K t.c_Tape "row" "Tape.row" s_Tape_row ["self"] t.Tape_row
 told_behind : FnAt K mg "told_behind" s_told_behind ["tape", "call"] t.told_behind
 answer_to : FnAt K mg "answer_to" s_answer_to ["history", "call", "told"] t.answer_to
 answers : FnAt K mg "answers" s_answers ["calls"] t.answers
 Machine : ClAt K mg "Machine" t.c_Machine t.Machine_init.f
 Bay : ClAt K mg "Bay" t.c_Bay t.Bay_init.f
 State : ClAt K mg "State" t.c_State t.State_init.f
 History : ClAt K mg "History" t.c_History t.History_init.f
 Tape : ClAt K mg "Tape" t.c_Tape t.Tape_init.f
 na_Machine_most : NoAttr K t.c_Machine "most"
 na_Machine_settings : NoAttr K t.c_Machine "settings"
 na_Machine_chosen : NoAttr K t.c_Machine "chosen"
 na_Machine_belts : NoAttr K t.c_Machine "belts"
 na_Bay_kind : NoAttr K t.c_Bay "kind"
 na_Bay_pure : NoAttr K t.c_Bay "pure"
 na_Bay_price : NoAttr K t.c_Bay "price"
 na_Bay_most : NoAttr K t.c_Bay "most"
 na_Bay_mix : NoAttr K t.c_Bay "mix"
 na_State_harm : NoAttr K t.c_State "harm"
 na_State_hopper : NoAttr K t.c_State "hopper"
 na_State_machines : NoAttr K t.c_State "machines"
 na_State_bays : NoAttr K t.c_State "bays"
 na_State_bales : NoAttr K t.c_State "bales"
 na_State_fed : NoAttr K t.c_State "fed"
 na_State_dumped : NoAttr K t.c_State "dumped"
 na_State_cost : NoAttr K t.c_State "cost"
 na_History_state : NoAttr K t.c_History "state"
 na_History_past : NoAttr K t.c_History "past"
 na_History_undone : NoAttr K t.c_History "undone"
 na_Tape_numbers : NoAttr K t.c_Tape "numbers"
 na_Tape_at : NoAttr K t.c_Tape "at"
 g_KINDS : GInt mg "KINDS" (6)
 g_THOUSAND : GInt mg "THOUSAND" (1000)
 g_BAYS : GInt mg "BAYS" (6)
 g_MACHINES : GInt mg "MACHINES" (5)
 g_MOST_HELD : GInt mg "MOST_HELD" (1000000)
 g_MOST_TIMES : GInt mg "MOST_TIMES" (20)
 g_MISSING : GInt mg "MISSING" (-2)
 g_EMPTY : GInt mg "EMPTY" (-6)
 g_WRONG : GInt mg "WRONG" (-22)
 g_FULL : GInt mg "FULL" (-28)
 g_UNFIT : GInt mg "UNFIT" (-33)
 g_NO_ROOM : GInt mg "NO_ROOM" (-62)
 g_MOST_SETTINGS : GInt mg "MOST_SETTINGS" (3)
 g_MOST_FED_OF_A_KIND : GInt mg "MOST_FED_OF_A_KIND" (10000)
 g_MOST_IN_HOPPER : GInt mg "MOST_IN_HOPPER" (100000)
 g_MOST_EVER_FED : GInt mg "MOST_EVER_FED" (100000000)
 g_MOST_BALES : GInt mg "MOST_BALES" (40)
 g_HIGHEST_PRICE : GInt mg "HIGHEST_PRICE" (10000)
 g_HIGHEST_DUMP_PRICE : GInt mg "HIGHEST_DUMP_PRICE" (1000)
 g_MOST_TAKEN_BACK : GInt mg "MOST_TAKEN_BACK" (30)
 g_NO_HARM : GInt mg "NO_HARM" (6)
 g_MOST_ASKED_OF : GInt mg "MOST_ASKED_OF" (100000)
 g_START : GInt mg "START" (0)
 g_FIRST_CHANGE : GInt mg "FIRST_CHANGE" (1)
 g_FIRST_QUESTION : GInt mg "FIRST_QUESTION" (12)
 g_BACK : GInt mg "BACK" (28)
 g_AGAIN : GInt mg "AGAIN" (29)
 g_NOTHING : mg "NOTHING" = some (.ref t.c_NOTHING)
 g_CHANGES : mg "CHANGES" = some (.ref t.c_CHANGES)
 g_QUESTIONS : mg "QUESTIONS" = some (.ref t.c_QUESTIONS)
 g_SHAPES : mg "SHAPES" = some (.ref t.c_SHAPES)
 q_NOTHING : KTup K t.c_NOTHING [.int 0, .int 0, .int 0, .int 0, .int 0, .int 0]
 q_CHANGES : KTup K t.c_CHANGES [.ref t.so_machine.f, .ref t.so_setting.f, .ref t.so_turn.f, .ref t.so_belt.f, .ref t.so_bay.f, .ref t.so_feed.f, .ref t.so_run.f, .ref t.so_bale.f, .ref t.so_dump.f, .ref t.so_return.f, .ref t.so_take.f]
 q_QUESTIONS : KTup K t.c_QUESTIONS [.ref t.so_would.f, .ref t.so_loads.f, .ref t.so_pure.f, .ref t.so_best.f, .ref t.so_often.f, .ref t.so_goes.f, .ref t.so_split.f, .ref t.so_hopper.f, .ref t.so_in.f, .ref t.so_sets.f, .ref t.so_belts.f, .ref t.so_bales.f, .ref t.so_look.f, .ref t.so_worth.f, .ref t.so_sums.f, .ref t.so_money.f]
 q_SHAPES : KTup K t.c_SHAPES (t.e_SHAPES.map V.ref)
 qe_SHAPES : Paired (fun a (p : List Int) => KTup K a (p.map V.int)) t.e_SHAPES [[1, 0], [1, 1], [1, 1], [2, 0], [3, 0], [5, 0], [0, 1], [0, 0], [1, 0], [2, 0], [1, 0], [0, 0], [1, 0], [0, 0], [1, 0], [0, 0], [1, 0], [2, 0], [4, 0], [0, 0], [1, 0], [0, 0], [0, 0], [0, 0], [1, 0], [0, 0], [1, 0], [0, 0], [0, 0], [0, 0], [0, 0]]
 n_all : mg "all" = none
 n_enumerate : mg "enumerate" = none
 n_len : mg "len" = none
 n_list : mg "list" = none
 n_max : mg "max" = none
 n_range : mg "range" = none
 n_sum : mg "sum" = none
 n_tuple : mg "tuple" = none
 n_zip : mg "zip" = none
end Sb
end
section
namespace Sb
open Km414 (Mix none6 plus side0 side1 putAt parts through Machine Bay Works)
def partC (ms : List Mix) (k a b : Nat) (s : List Nat) : List Mix :=
 (ms.set a (plus (ms.getD a none6) (side0 s (ms.getD (6 + k) none6)))).set b (plus ((ms.set a (plus (ms.getD a none6) (side0 s (ms.getD (6 + k) none6)))).getD b none6) (side1 s (ms.getD (6 + k) none6)))
def thruC (sets : List Nat) : List Machine → Nat → List Mix → List Mix
 | [], _, p => p
 | x :: l, k, p => thruC sets l (k + 1) (partC p k x.a x.b (x.settings.getD (sets.getD k 0) []))
def enterC (n : Nat) (m : Mix) : List Mix := (List.replicate (6 + n) none6).set (if n = 0 then 0 else 6) m
def putC (ms : List Machine) (sets : List Nat) (m : Mix) : List Mix := thruC sets ms 0 (enterC ms.length m)
def Leads (n k to_ : Nat) : Prop := to_ < 6 ∨ (6 + k < to_ ∧ to_ < 6 + n)
structure BeltsOk (ms : List Machine) : Prop where
 a : ∀ k x, ms[k]? = some x → Leads ms.length k x.a
 b : ∀ k x, ms[k]? = some x → Leads ms.length k x.b
theorem getD_set (l : List Mix) (j i : Nat) (v : Mix) : (l.set j v).getD i none6 = if i = j ∧ j < l.length then v else l.getD i none6 := by
 rw [List.getD_eq_getElem?_getD, List.getD_eq_getElem?_getD, List.getElem?_set]
 by_cases h : j = i
 ·subst h
  by_cases h2 : j < l.length
  ·simp [h2]
  ·simp [h2]
 ·have h' : ¬ i = j := fun e => h e.symm
  simp [h, h']
theorem partC_len (ms : List Mix) (k a b : Nat) (s : List Nat) : (partC ms k a b s).length = ms.length := by simp [partC]
theorem thruC_len (sets : List Nat) : ∀ (l : List Machine) (k : Nat) (p : List Mix), (thruC sets l k p).length = p.length
 | [], _, _ => rfl
 | x :: l, k, p => by rw [thruC, thruC_len sets l, partC_len]
theorem enterC_len (n : Nat) (m : Mix) : (enterC n m).length = 6 + n := by simp [enterC]
theorem putC_len (ms : List Machine) (sets : List Nat) (m : Mix) : (putC ms sets m).length = 6 + ms.length := by rw [putC, thruC_len, enterC_len]
def All6 (ms : List Mix) : Prop := ∀ m ∈ ms, m.length = 6
theorem none6_len : none6.length = 6 := by simp [none6, Km414.KINDS]
theorem plus6 (x y : Mix) : (plus x y).length = 6 := by simp [plus, Km414.KINDS]
theorem All6.set {ms : List Mix} (h : All6 ms) {m : Mix} (hm : m.length = 6) (i : Nat) : All6 (ms.set i m) := fun x hx => by
 rcases List.mem_or_eq_of_mem_set hx with q | q
 ·exact h x q
 ·rw [q]; exact hm
theorem All6.getD {ms : List Mix} (h : All6 ms) (i : Nat) : (ms.getD i none6).length = 6 := by
 rw [List.getD_eq_getElem?_getD]
 cases e : ms[i]? with
 | none => exact none6_len
 | some x => exact h x (List.mem_of_getElem? e)
theorem All6.partC {ms : List Mix} (h : All6 ms) (k a b : Nat) (s : List Nat) : All6 (Sb.partC ms k a b s) := (h.set (plus6 _ _) _).set (plus6 _ _) _
theorem All6.thruC (sets : List Nat) : ∀ (l : List Machine) (k : Nat) {p : List Mix}, All6 p → All6 (Sb.thruC sets l k p)
 | [], _, _, h => h
 | x :: l, k, p, h => All6.thruC sets l (k + 1) (h.partC k x.a x.b _)
theorem All6.enterC (n : Nat) {m : Mix} (hm : m.length = 6) : All6 (Sb.enterC n m) := by
 refine All6.set (fun x hx => ?_) hm _
 rw [(List.mem_replicate.mp hx).2]; exact none6_len
theorem All6.putC (ms : List Machine) (sets : List Nat) {m : Mix} (hm : m.length = 6) : All6 (Sb.putC ms sets m) := All6.thruC sets ms 0 (All6.enterC _ hm)
structure Agree (n k : Nat) (p c : List Mix) : Prop where
 lp : p.length = 11
 lc : c.length = 6 + n
 bay : ∀ i, i < 6 → p.getD i none6 = c.getD i none6
 mac : ∀ j, k ≤ j → j < n → p.getD (6 + j) none6 = c.getD (6 + j) none6
theorem Agree.step {n k : Nat} {p c : List Mix} (h : Agree n k p c) (hn : n ≤ 5) (hk : k < n) {x : Machine} {set_ : Nat} (ha : Leads n k x.a) (hb : Leads n k x.b) :
  Agree n (k + 1) (parts x k set_ p) (partC c k x.a x.b (x.settings.getD set_ [])) := by
 have e := h.mac k (Nat.le_refl k) hk
 have hlp := h.lp
 have hlc := h.lc
 have main : ∀ i, (i < 6 ∨ (6 + k < i ∧ i < 6 + n)) → (parts x k set_ p).getD i none6 = (partC c k x.a x.b (x.settings.getD set_ [])).getD i none6 := by
  intro i hi
  have hpc : ∀ i, (i < 6 ∨ (6 + k < i ∧ i < 6 + n)) → p.getD i none6 = c.getD i none6 := by
   intro i hi
   rcases hi with hi | hi
   ·exact h.bay i hi
   ·have := h.mac (i - 6) (by omega) (by omega)
    have e6 : 6 + (i - 6) = i := by omega
    rw [e6] at this; exact this
  unfold parts partC putAt Leads at *
  simp only [Km414.BAYS, getD_set, List.length_set, e, hlp, hlc]
  rw [hpc i hi, hpc x.a ha, hpc x.b hb]
  have n1 : ¬ i = 6 + k := by omega
  have n2 : ¬ x.a = 6 + k := by omega
  have n3 : ¬ x.b = 6 + k := by omega
  have a1 : x.a < 11 := by omega
  have a2 : x.a < 6 + n := by omega
  have b1 : x.b < 11 := by omega
  have b2 : x.b < 6 + n := by omega
  simp only [n1, n2, n3, a1, a2, b1, b2, false_and, and_true, if_false]
 refine ⟨?_, ?_, fun i hi => main i (.inl hi), fun j h1 h2 => main (6 + j) (.inr ⟨by omega, by omega⟩)⟩
 ·simp [parts, putAt, hlp]
 ·rw [partC_len, hlc]
theorem part_keep {c : List Mix} {k a b : Nat} {s : List Nat} {i : Nat} (ha : a ≠ i) (hb : b ≠ i) : (partC c k a b s).getD i none6 = c.getD i none6 := by
 unfold partC
 have h1 : ¬ i = a := fun z => ha z.symm
 have h2 : ¬ i = b := fun z => hb z.symm
 rw [getD_set, if_neg (fun z => h2 z.1), getD_set, if_neg (fun z => h1 z.1)]
theorem thru_keep (sets : List Nat) (n j : Nat) : ∀ (l : List Machine) (k : Nat) (c : List Mix), j < k → (∀ i x, l[i]? = some x → Leads n (k + i) x.a ∧ Leads n (k + i) x.b) → (thruC sets l k c).getD (6 + j) none6 = c.getD (6 + j) none6
 | [], _, _, _, _ => rfl
 | x :: l, k, c, hj, hl => by
  rw [thruC, thru_keep sets n j l (k + 1) _ (by omega) fun i y hy => ?_]
  ·obtain ⟨h1, h2⟩ := hl 0 x rfl
   refine part_keep ?_ ?_
   ·intro z; unfold Leads at h1; omega
   ·intro z; unfold Leads at h2; omega
  ·have := hl (i + 1) y (by simpa using hy)
   have e : k + (i + 1) = k + 1 + i := by omega
   rw [e] at this; exact this
theorem drop_at {l : List Mix} {i : Nat} (h : i < l.length) : l.drop i = l.getD i none6 :: l.drop (i + 1) := by
 rw [List.drop_eq_getElem_cons h, List.getD_eq_getElem?_getD, List.getElem?_eq_getElem h]; rfl
theorem through_eq (sets : List Nat) (n : Nat) (hn : n ≤ 5) : ∀ (l : List Machine) (k : Nat) (p c : List Mix), k + l.length = n → Agree n k p c → (∀ i x, l[i]? = some x → Leads n (k + i) x.a ∧ Leads n (k + i) x.b) →
  (through sets l k p).2.take 6 = (thruC sets l k c).take 6 ∧ (through sets l k p).1 = ((thruC sets l k c).drop (6 + k)).map Km414.sum
 | [], k, p, c, hk, h, _ => by
  simp at hk
  subst hk
  refine ⟨?_, ?_⟩
  ·show p.take 6 = c.take 6
   apply List.ext_getElem?
   intro i
   by_cases hi : i < 6
   ·have e := h.bay i hi
    have l1 : i < p.length := by rw [h.lp]; omega
    have l2 : i < c.length := by rw [h.lc]; omega
    rw [List.getD_eq_getElem?_getD, List.getD_eq_getElem?_getD, List.getElem?_eq_getElem l1, List.getElem?_eq_getElem l2] at e
    rw [List.getElem?_take_of_lt hi, List.getElem?_take_of_lt hi, List.getElem?_eq_getElem l1, List.getElem?_eq_getElem l2]
    exact congrArg some e
   ·rw [List.getElem?_eq_none (by simp; omega), List.getElem?_eq_none (by simp; omega)]
  ·show [] = (c.drop (6 + k)).map Km414.sum
   rw [List.drop_eq_nil_of_le (by rw [h.lc]; exact Nat.le_refl _)]; rfl
 | x :: l, k, p, c, hk, h, hl => by
  have hk' : k + 1 + l.length = n := by simp at hk; omega
  have hkn : k < n := by omega
  obtain ⟨h1, h2⟩ := hl 0 x rfl
  have hl' : ∀ i y, l[i]? = some y → Leads n (k + 1 + i) y.a ∧ Leads n (k + 1 + i) y.b := fun i y hy => by
   have := hl (i + 1) y (by simpa using hy)
   have e : k + (i + 1) = k + 1 + i := by omega
   rw [e] at this; exact this
  have st := h.step hn hkn (x := x) (set_ := sets.getD k 0) h1 h2
  obtain ⟨e1, e2⟩ := through_eq sets n hn l (k + 1) _ _ hk' st hl'
  refine ⟨e1, ?_⟩
  show Km414.sum (p.getD (Km414.BAYS + k) none6) :: (through sets l (k + 1) (parts x k (sets.getD k 0) p)).1 = _
  rw [e2]
  have hlen : 6 + k < (thruC sets (x :: l) k c).length := by rw [thruC_len, h.lc]; omega
  rw [drop_at hlen, List.map_cons]
  have e3 : (thruC sets (x :: l) k c).getD (6 + k) none6 = p.getD (Km414.BAYS + k) none6 := by
   rw [thruC, thru_keep sets n k l (k + 1) _ (by omega) hl', part_keep (by intro z; unfold Leads at h1; omega) (by intro z; unfold Leads at h2; omega)]
   exact (h.mac k (Nat.le_refl k) hkn).symm
  rw [e3]
  rfl
theorem plus_none {m : Mix} (hm : m.length = 6) : plus none6 m = m := by
 match m, hm with
 | [a0, a1, a2, a3, a4, a5], _ => simp [plus, none6, Km414.KINDS, List.range, List.range.loop, List.replicate]
theorem flow_eq {w : Works} (hn : w.machines.length ≤ 5) (hb : BeltsOk w.machines) (sets : List Nat) {m : Mix} (hm : m.length = 6) :
  (w.flow sets m).2 = (putC w.machines sets m).take 6 ∧ (w.flow sets m).1 = ((putC w.machines sets m).drop 6).map Km414.sum := by
 have e0 : Agree w.machines.length 0 (putAt (List.replicate (Km414.BAYS + Km414.MACHINES) none6) (if w.machines.length = 0 then 0 else Km414.BAYS) m) (enterC w.machines.length m) := by
  have hr : ∀ (n i : Nat), (List.replicate n none6).getD i none6 = none6 := fun n i => by
   rw [List.getD_eq_getElem?_getD, List.getElem?_replicate]; split <;> rfl
  refine ⟨by simp [putAt, Km414.BAYS, Km414.MACHINES], enterC_len _ _, fun i hi => ?_, fun j h1 h2 => ?_⟩
  ·unfold putAt enterC
   rw [getD_set, getD_set, hr, hr, hr, plus_none hm]
   simp only [List.length_replicate, Km414.BAYS, Km414.MACHINES]
   by_cases c : w.machines.length = 0
   ·simp [c]
   ·have c1 : 0 < w.machines.length := by omega
    have c2 : ¬ i = 6 := by omega
    simp [c, c1, c2]
  ·unfold putAt enterC
   rw [getD_set, getD_set, hr, hr, hr, plus_none hm]
   simp only [List.length_replicate, Km414.BAYS, Km414.MACHINES]
   by_cases c : w.machines.length = 0
   ·omega
   ·have c1 : 6 < 6 + w.machines.length := by omega
    simp [c, c1]
 have := through_eq sets w.machines.length hn w.machines 0 _ _ (by omega) e0 fun i x hx => by
  rw [Nat.zero_add]; exact ⟨hb.a i x hx, hb.b i x hx⟩
 exact this
structure MOk (n k : Nat) (x : Machine) : Prop where
 la : Leads n k x.a
 lb : Leads n k x.b
 s1 : 1 ≤ x.settings.length
 s3 : x.settings.length ≤ 3
 now : x.now < x.settings.length
 most : 1 ≤ x.most ∧ x.most ≤ 1000000
 six : ∀ s ∈ x.settings, s.length = 6
 thou : ∀ s ∈ x.settings, ∀ i, s.getD i 0 ≤ 1000
structure MsOk (ms : List Machine) : Prop where
 n5 : ms.length ≤ 5
 each : ∀ k x, ms[k]? = some x → MOk ms.length k x
theorem MsOk.belts {ms : List Machine} (h : MsOk ms) : BeltsOk ms := ⟨fun k x e => (h.each k x e).la, fun k x e => (h.each k x e).lb⟩
theorem thruC_snoc (sets : List Nat) (x : Machine) : ∀ (l : List Machine) (k : Nat) (p : List Mix), thruC sets (l ++ [x]) k p = partC (thruC sets l k p) (k + l.length) x.a x.b (x.settings.getD (sets.getD (k + l.length) 0) [])
 | [], k, p => rfl
 | y :: l, k, p => by
  rw [List.cons_append, thruC, thruC_snoc sets x l (k + 1), thruC]
  have e : k + 1 + l.length = k + (y :: l).length := by simp; omega
  rw [e]
theorem take_snoc {α : Type} {l : List α} {i : Nat} {x : α} (h : l[i]? = some x) : l.take (i + 1) = l.take i ++ [x] := by
 rw [List.take_add_one, h]; rfl
def partOk (ms : List Machine) (loads : List Nat) : Bool := (List.range (min ms.length loads.length)).all fun i => decide (loads.getD i 0 ≤ (ms.getD i ⟨[], 0, 0, 0, 0⟩).most)
def holdOk (bs : List Bay) (ms : List Mix) : Bool := (List.range (min bs.length ms.length)).all fun i => decide (Km414.sum (bs.getD i ⟨0, 0, 0, 0, none6⟩).mix + Km414.sum (ms.getD i none6) ≤ (bs.getD i ⟨0, 0, 0, 0, none6⟩).most)
structure BOk (b : Bay) : Prop where
 kind : b.kind < 6
 pure : b.pure_ ≤ 1000
 price : b.price ≤ 10000
 most : 1 ≤ b.most ∧ b.most ≤ 1000000
 six : b.mix.length = 6
 hold : Km414.sum b.mix ≤ b.most
def worthAt (h : Nat) (b : Bay) (m : Mix) : Nat := if b.good h (plus b.mix m) = true then b.money (plus b.mix m) else 0
def worthC (h : Nat) (bs : List Bay) (ms : List Mix) : Nat := Km414.sum ((List.range (min bs.length ms.length)).map fun i => worthAt h (bs.getD i ⟨0, 0, 0, 0, none6⟩) (ms.getD i none6))
abbrev Way := List Nat × List Mix
def branch1 (k : Nat) (x : Machine) (w : Way) (j : Nat) : Way := (w.1 ++ [j], partC w.2 k x.a x.b (x.settings.getD j []))
def branchC (k : Nat) (x : Machine) (ws : List Way) : List Way := ws.flatMap fun w => (List.range x.settings.length).map fun j => branch1 k x w j
theorem branch_len (k : Nat) (x : Machine) : ∀ ws : List Way, (branchC k x ws).length = ws.length * x.settings.length
 | [] => by simp [branchC]
 | w :: r => by
  have ih := branch_len k x r
  unfold branchC at ih ⊢
  rw [List.flatMap_cons, List.length_append, ih, List.length_map, List.length_range, List.length_cons, Nat.add_mul]
  omega
def isAble (k : Nat) (x : Machine) (w : Way) : Bool := decide (Km414.sum (w.2.getD (6 + k) none6) ≤ x.most)
def ableC (k : Nat) (x : Machine) (ws : List Way) : List Way := ws.filter (isAble k x)
def waysFrom : List Machine → Nat → List Way → List Way
 | [], _, ws => ws
 | x :: l, k, ws => waysFrom l (k + 1) (branchC k x (ableC k x ws))
def waysC (ms : List Machine) (m : Mix) : List Way := waysFrom ms 0 [([], enterC ms.length m)]
theorem waysFrom_snoc (x : Machine) : ∀ (l : List Machine) (k : Nat) (ws : List Way), waysFrom (l ++ [x]) k ws = branchC (k + l.length) x (ableC (k + l.length) x (waysFrom l k ws))
 | [], k, ws => rfl
 | y :: l, k, ws => by
  rw [List.cons_append, waysFrom, waysFrom_snoc x l (k + 1), waysFrom]
  have e : k + 1 + l.length = k + (y :: l).length := by simp; omega
  rw [e]
structure WsOk (n k : Nat) (ws : List Way) : Prop where
 len : ws.length ≤ 3 ^ k
 each : ∀ w ∈ ws, w.2.length = 6 + n ∧ w.1.length = k
theorem WsOk.step {n k : Nat} {ws : List Way} (h : WsOk n k ws) {x : Machine} (hx : x.settings.length ≤ 3) : WsOk n (k + 1) (branchC k x (ableC k x ws)) := by
 refine ⟨?_, fun w hw => ?_⟩
 ·rw [branch_len]
  have h1 : (ableC k x ws).length ≤ 3 ^ k := Nat.le_trans (List.length_filter_le _ _) h.len
  calc (ableC k x ws).length * x.settings.length ≤ 3 ^ k * 3 := Nat.mul_le_mul h1 hx
   _ = 3 ^ (k + 1) := (Nat.pow_succ ..).symm
 ·obtain ⟨w0, h0, h1⟩ := List.mem_flatMap.mp hw
  obtain ⟨j, hj, rfl⟩ := List.mem_map.mp h1
  obtain ⟨a, b⟩ := h.each w0 (List.mem_filter.mp h0).1
  refine ⟨?_, ?_⟩
  ·show (partC _ _ _ _ _).length = _
   rw [partC_len]; exact a
  ·show (w0.1 ++ [j]).length = _
   rw [List.length_append, b]; rfl
theorem pow3 {i : Nat} (h : i ≤ 5) : 3 ^ i ≤ 300 := by
 have : i = 0 ∨ i = 1 ∨ i = 2 ∨ i = 3 ∨ i = 4 ∨ i = 5 := by omega
 rcases this with rfl | rfl | rfl | rfl | rfl | rfl <;> decide
structure WOk (w : Works) : Prop where
 harm : w.harm ≤ 6
 ms : MsOk w.machines
 bays : ∀ b ∈ w.bays, BOk b
 b6 : w.bays.length = 6
 hop : w.hopper.length = 6
 fed : w.fed.length = 6
 dum : w.dumped.length = 6
 bal : w.bales.length ≤ 40
def bestC (h : Nat) (bs : List Bay) (ws : List Way) : Option (List Nat × Nat) := ws.foldl (fun r w => if holdOk bs w.2 = true then (match r with
 | none => some (w.1, worthC h bs w.2)
 | some (s, u) => if u < worthC h bs w.2 then some (w.1, worthC h bs w.2) else some (s, u)) else r) none
theorem waysC_ok {ms : List Machine} (ok : MsOk ms) (m : Mix) : WsOk ms.length ms.length (waysC ms m) := by
 have : ∀ (l : List Machine) (k : Nat) (ws : List Way), WsOk ms.length k ws → (∀ x ∈ l, x.settings.length ≤ 3) → WsOk ms.length (k + l.length) (waysFrom l k ws) := by
  intro l
  induction l with
  | nil => intro k ws h _; exact h
  | cons x l ih =>
   intro k ws h hx
   have := ih (k + 1) _ (h.step (hx x (by simp))) (fun y hy => hx y (by simp [hy]))
   have e : k + (x :: l).length = k + 1 + l.length := by simp; omega
   rw [e]; exact this
 have := this ms 0 [([], enterC ms.length m)] ⟨Nat.le_refl 1, fun w hw => by rw [List.mem_singleton.mp hw]; exact ⟨enterC_len _ _, rfl⟩⟩ (fun x hx => by
  obtain ⟨k, hk⟩ := List.getElem?_of_mem hx
  exact (ok.each k x hk).s3)
 rw [Nat.zero_add] at this
 exact this
end Sb
end
section
namespace Sb
open Km414 (Mix none6 plus side0 side1 putAt parts through Machine Bay Works)
def allFrom : List Machine → Nat → List Way → List Way
 | [], _, ws => ws
 | x :: l, k, ws => allFrom l (k + 1) (branchC k x ws)
theorem branch_app (k : Nat) (x : Machine) (a b : List Way) : branchC k x (a ++ b) = branchC k x a ++ branchC k x b := by unfold branchC; rw [List.flatMap_append]
theorem all_app : ∀ (l : List Machine) (k : Nat) (a b : List Way), allFrom l k (a ++ b) = allFrom l k a ++ allFrom l k b
 | [], _, _, _ => rfl
 | x :: l, k, a, b => by rw [allFrom, branch_app, all_app l (k + 1)]; rfl
theorem all_nil : ∀ (l : List Machine) (k : Nat), allFrom l k [] = []
 | [], _ => rfl
 | x :: l, k => by rw [allFrom]; exact all_nil l (k + 1)
def LeadsFrom (n : Nat) (l : List Machine) (k : Nat) : Prop := ∀ i x, l[i]? = some x → Leads n (k + i) x.a ∧ Leads n (k + i) x.b
theorem LeadsFrom.tail {n : Nat} {x : Machine} {l : List Machine} {k : Nat} (h : LeadsFrom n (x :: l) k) : LeadsFrom n l (k + 1) := fun i y hy => by
 have := h (i + 1) y (by simpa using hy)
 have e : k + (i + 1) = k + 1 + i := by omega
 rw [e] at this; exact this
theorem LeadsFrom.head {n : Nat} {x : Machine} {l : List Machine} {k : Nat} (h : LeadsFrom n (x :: l) k) : Leads n k x.a ∧ Leads n k x.b := h 0 x rfl
theorem branch_keep {n k j : Nat} {x : Machine} {w0 : Way} (hj : j ≤ k) (h : Leads n k x.a ∧ Leads n k x.b) : ∀ w ∈ branchC k x [w0], w.2.getD (6 + j) none6 = w0.2.getD (6 + j) none6 := by
 intro w hw
 obtain ⟨w1, h1, h2⟩ := List.mem_flatMap.mp hw
 rw [List.mem_singleton.mp h1] at h2
 obtain ⟨s, _, rfl⟩ := List.mem_map.mp h2
 obtain ⟨ha, hb⟩ := h
 unfold Leads at ha hb
 exact part_keep (by omega) (by omega)
theorem all_flat (l : List Machine) (k : Nat) : ∀ ws : List Way, allFrom l k ws = ws.flatMap fun w => allFrom l k [w]
 | [] => all_nil l k
 | w :: r => by
  have e : w :: r = [w] ++ r := rfl
  rw [e, all_app, all_flat l k r, List.flatMap_append]; simp
theorem all_keep {n : Nat} : ∀ (l : List Machine) (k j : Nat) (w0 : Way), j < k → LeadsFrom n l k → ∀ w ∈ allFrom l k [w0], w.2.getD (6 + j) none6 = w0.2.getD (6 + j) none6
 | [], _, _, w0, _, _, w, hw => by rw [List.mem_singleton.mp hw]
 | x :: l, k, j, w0, hj, hl, w, hw => by
  rw [allFrom, all_flat] at hw
  obtain ⟨w1, h1, h2⟩ := List.mem_flatMap.mp hw
  rw [all_keep l (k + 1) j w1 (by omega) hl.tail w h2]
  exact branch_keep (by omega) hl.head w1 h1
theorem filter_const {α : Type} {p : α → Bool} {b : Bool} : ∀ {l : List α}, (∀ x ∈ l, p x = b) → l.filter p = if b = true then l else []
 | [], _ => by split <;> rfl
 | x :: r, h => by
  have ih := filter_const (p := p) (b := b) (l := r) fun y hy => h y (by simp [hy])
  have hx := h x (by simp)
  rw [List.filter_cons, hx, ih]
  cases b <;> simp
theorem all_filter {n : Nat} {l : List Machine} {k : Nat} {x : Machine} (h : LeadsFrom n (x :: l) k) : ∀ ws : List Way, allFrom l (k + 1) (branchC k x (ableC k x ws)) = (allFrom l (k + 1) (branchC k x ws)).filter (isAble k x)
 | [] => by simp [ableC, branchC, all_nil]
 | w :: r => by
  have ih := all_filter (x := x) h r
  have e : w :: r = [w] ++ r := rfl
  have e2 : ableC k x (w :: r) = ableC k x [w] ++ ableC k x r := by rw [e]; unfold ableC; rw [List.filter_append]
  rw [e2, branch_app, all_app, ih, e, branch_app, all_app, List.filter_append]
  congr 1
  have keep : ∀ w' ∈ allFrom l (k + 1) (branchC k x [w]), isAble k x w' = isAble k x w := by
   intro w' hw'
   rw [all_flat] at hw'
   obtain ⟨w1, h1, h2⟩ := List.mem_flatMap.mp hw'
   unfold isAble
   rw [all_keep l (k + 1) k w1 (by omega) h.tail w' h2, branch_keep (Nat.le_refl k) h.head w1 h1]
  rw [filter_const keep]
  unfold ableC
  by_cases c : isAble k x w = true
  ·simp [c]
  ·simp [c, branchC, all_nil]
def okFrom : List Machine → Nat → Way → Bool
 | [], _, _ => true
 | x :: l, k, w => isAble k x w && okFrom l (k + 1) w
theorem waysFrom_eq {n : Nat} : ∀ (l : List Machine) (k : Nat) (ws : List Way), LeadsFrom n l k → waysFrom l k ws = (allFrom l k ws).filter (okFrom l k)
 | [], _, ws, _ => by
  exact (List.filter_eq_self.mpr (fun _ _ => rfl)).symm
 | x :: l, k, ws, h => by
  rw [waysFrom, waysFrom_eq l (k + 1) _ h.tail, all_filter h, allFrom, List.filter_filter]
  congr 1
  funext w
  show (okFrom l (k + 1) w && isAble k x w) = (isAble k x w && okFrom l (k + 1) w)
  exact Bool.and_comm _ _
theorem all_snoc (x : Machine) : ∀ (l : List Machine) (k : Nat) (ws : List Way), allFrom (l ++ [x]) k ws = branchC (k + l.length) x (allFrom l k ws)
 | [], k, ws => rfl
 | y :: l, k, ws => by
  rw [List.cons_append, allFrom, all_snoc x l (k + 1), allFrom]
  have e : k + 1 + l.length = k + (y :: l).length := by simp; omega
  rw [e]
theorem thruC_pre (sets extra : List Nat) : ∀ (l : List Machine) (k : Nat) (p : List Mix), k + l.length ≤ sets.length → thruC (sets ++ extra) l k p = thruC sets l k p
 | [], _, _, _ => rfl
 | x :: l, k, p, h => by
  rw [thruC, thruC, thruC_pre sets extra l (k + 1) _ (by simp at h; omega)]
  have e : (sets ++ extra).getD k 0 = sets.getD k 0 := by
   rw [List.getD_eq_getElem?_getD, List.getD_eq_getElem?_getD, List.getElem?_append_left (by simp at h; omega)]
  rw [e]
theorem all_thru (c0 : List Mix) : ∀ (r : List Machine), let l := r.reverse
  ∀ w ∈ allFrom l 0 [([], c0)], w.1.length = l.length ∧ w.2 = thruC w.1 l 0 c0
 | [] => by
  intro l w hw
  have e : w = ([], c0) := List.mem_singleton.mp hw
  subst e
  exact ⟨rfl, rfl⟩
 | x :: r => by
  intro l w hw
  have ih := all_thru c0 r
  have el : l = r.reverse ++ [x] := by simp [l]
  rw [el] at hw ⊢
  rw [all_snoc, Nat.zero_add] at hw
  obtain ⟨w1, h1, h2⟩ := List.mem_flatMap.mp hw
  obtain ⟨j, hj, rfl⟩ := List.mem_map.mp h2
  obtain ⟨i1, i2⟩ := ih w1 h1
  refine ⟨?_, ?_⟩
  ·show (w1.1 ++ [j]).length = _
   rw [List.length_append, i1, List.length_append]; rfl
  ·show partC w1.2 _ _ _ _ = thruC (w1.1 ++ [j]) _ _ _
   rw [thruC_snoc, Nat.zero_add, thruC_pre _ _ _ _ _ (by rw [i1]; omega), i2]
   have e : (w1.1 ++ [j]).getD r.reverse.length 0 = j := by
    rw [← i1, List.getD_eq_getElem?_getD, List.getElem?_append_right (Nat.le_refl _)]; simp
   rw [e]
theorem all_choices (c0 : List Mix) : ∀ (l : List Machine) (k : Nat) (ws : List Way), (allFrom l k ws).map (·.1) = l.foldl (fun r x => r.flatMap fun s => (List.range x.settings.length).map fun k => s ++ [k]) (ws.map (·.1))
 | [], _, _ => rfl
 | x :: l, k, ws => by
  rw [allFrom, all_choices c0 l (k + 1), List.foldl_cons]
  congr 1
  unfold branchC
  rw [List.map_flatMap, List.flatMap_map]
  congr 1
  funext w
  rw [List.map_map]
  rfl
end Sb
end
section
namespace Sb
open Km414 (Mix none6 plus side0 side1 putAt parts through Machine Bay Works)
theorem sum6 (a0 a1 a2 a3 a4 a5 : Nat) : Km414.sum [a0, a1, a2, a3, a4, a5] = a0 + a1 + a2 + a3 + a4 + a5 := by
 simp [Km414.sum]
theorem sum_plus {x y : Mix} (hx : x.length = 6) (hy : y.length = 6) : Km414.sum (plus x y) = Km414.sum x + Km414.sum y := by
 match x, hx, y, hy with
 | [a0, a1, a2, a3, a4, a5], _, [b0, b1, b2, b3, b4, b5], _ =>
  have e : plus [a0, a1, a2, a3, a4, a5] [b0, b1, b2, b3, b4, b5] = [a0 + b0, a1 + b1, a2 + b2, a3 + b3, a4 + b4, a5 + b5] := rfl
  rw [e, sum6, sum6, sum6]; omega
abbrev bay0 : Bay := ⟨0, 0, 0, 0, none6⟩
theorem take_getD (c : List Mix) {i : Nat} (h : i < 6) : (c.take 6).getD i none6 = c.getD i none6 := by
 rw [List.getD_eq_getElem?_getD, List.getD_eq_getElem?_getD, List.getElem?_take_of_lt h]
theorem getD_mem {bs : List Bay} {i : Nat} (h : i < bs.length) : bs.getD i bay0 ∈ bs := by
 rw [List.getD_eq_getElem?_getD, List.getElem?_eq_getElem h]; exact List.getElem_mem h
theorem holdOk_eq {w : Works} (hb : w.bays.length = 6) (ok : ∀ b ∈ w.bays, b.mix.length = 6) {c : List Mix} (hc : 6 ≤ c.length) (h6 : All6 c) : holdOk w.bays c = (w.with_ (c.take 6)).all fun b => decide (Km414.sum b.mix ≤ b.most) := by
 unfold holdOk Km414.Works.with_
 rw [List.all_map, hb]
 have e : min 6 c.length = 6 := by omega
 rw [e]
 show (List.range 6).all _ = (List.range 6).all _
 rw [Bool.eq_iff_iff, List.all_eq_true, List.all_eq_true]
 have key : ∀ i ∈ List.range 6, decide (Km414.sum (w.bays.getD i bay0).mix + Km414.sum (c.getD i none6) ≤ (w.bays.getD i bay0).most) = ((fun b : Bay => decide (Km414.sum b.mix ≤ b.most)) ∘ fun i => let b := w.bays.getD i bay0; { b with mix := plus b.mix ((c.take 6).getD i none6) }) i := by
  intro i hi
  have hi : i < 6 := List.mem_range.mp hi
  show _ = decide (Km414.sum (plus (w.bays.getD i bay0).mix ((c.take 6).getD i none6)) ≤ (w.bays.getD i bay0).most)
  rw [take_getD c hi, sum_plus (ok _ (getD_mem (by omega))) (h6.getD i)]
 constructor
 ·intro h i hi
  have := h i hi
  exact (key i hi) ▸ this
 ·intro h i hi
  have := h i hi
  exact (key i hi).symm ▸ this
theorem partOk_eq (ms : List Machine) (loads : List Nat) (h : loads.length = ms.length) : partOk ms loads = (List.range ms.length).all fun k => match ms[k]? with
  | some x => decide (loads.getD k 0 ≤ x.most)
  | none => true := by
 unfold partOk
 have e : min ms.length loads.length = ms.length := by omega
 rw [e]
 rw [Bool.eq_iff_iff, List.all_eq_true, List.all_eq_true]
 have key : ∀ i ∈ List.range ms.length, decide (loads.getD i 0 ≤ (ms.getD i ⟨[], 0, 0, 0, 0⟩).most) = (match ms[i]? with
  | some x => decide (loads.getD i 0 ≤ x.most)
  | none => true) := by
  intro i hi
  have hi : i < ms.length := List.mem_range.mp hi
  rw [List.getD_eq_getElem?_getD (l := ms), List.getElem?_eq_getElem hi]; rfl
 constructor
 ·intro h i hi
  have := h i hi
  exact (key i hi) ▸ this
 ·intro h i hi
  have := h i hi
  exact (key i hi).symm ▸ this
theorem worthC_eq {w : Works} (hb : w.bays.length = 6) {c : List Mix} (hc : 6 ≤ c.length) : worthC w.harm w.bays c = w.worth (w.with_ (c.take 6)) := by
 unfold worthC Km414.Works.worth Km414.Works.with_
 rw [List.map_map, hb]
 have e : min 6 c.length = 6 := by omega
 rw [e]
 congr 1
 refine List.map_congr_left fun i hi => ?_
 have hi : i < 6 := List.mem_range.mp hi
 show worthAt w.harm (w.bays.getD i bay0) (c.getD i none6) = _
 rw [← take_getD c hi]
 rfl
theorem fits_eq {w : Works} (ok : WOk w) (sets : List Nat) {m : Mix} (hm : m.length = 6) :
  w.fits (w.flow sets m) = (partOk w.machines (((putC w.machines sets m).drop 6).map Km414.sum) && holdOk w.bays (putC w.machines sets m)) := by
 obtain ⟨e2, e1⟩ := flow_eq ok.ms.n5 ok.ms.belts sets hm
 have hl := putC_len w.machines sets m
 unfold Km414.Works.fits
 rw [e1, e2, holdOk_eq ok.b6 (fun b hb => (ok.bays b hb).six) (by rw [hl]; omega) (All6.putC _ _ hm), partOk_eq _ _ (by rw [List.length_map, List.length_drop, hl]; omega)]
 rfl
theorem okFrom_loads : ∀ (l : List Machine) (k : Nat) (w : Way), 6 + k + l.length ≤ w.2.length → (okFrom l k w = true ↔ ∀ i x, l[i]? = some x → Km414.sum (w.2.getD (6 + (k + i)) none6) ≤ x.most)
 | [], k, w, _ => by simp [okFrom]
 | y :: l, k, w, h => by
  have ih := okFrom_loads l (k + 1) w (by simp at h; omega)
  unfold okFrom
  rw [Bool.and_eq_true, ih]
  unfold isAble
  rw [decide_eq_true_eq]
  constructor
  ·rintro ⟨h1, h2⟩ i x hx
   cases i with
   | zero => simp at hx; subst hx; exact h1
   | succ i =>
    have := h2 i x (by simpa using hx)
    have e : 6 + (k + 1 + i) = 6 + (k + (i + 1)) := by omega
    rw [e] at this; exact this
  ·intro h2
   refine ⟨h2 0 y rfl, fun i x hx => ?_⟩
   have := h2 (i + 1) x (by simpa using hx)
   have e : 6 + (k + 1 + i) = 6 + (k + (i + 1)) := by omega
   rw [e]; exact this
theorem okFrom_part {ms : List Machine} {w : Way} (hl : w.2.length = 6 + ms.length) : okFrom ms 0 w = partOk ms ((w.2.drop 6).map Km414.sum) := by
 rw [Bool.eq_iff_iff, okFrom_loads ms 0 w (by omega), partOk_eq _ _ (by rw [List.length_map, List.length_drop, hl]; omega), List.all_eq_true]
 have gl : ∀ k, k < ms.length → ((w.2.drop 6).map Km414.sum).getD k 0 = Km414.sum (w.2.getD (6 + k) none6) := by
  intro k hk
  have h1 : 6 + k < w.2.length := by omega
  rw [List.getD_eq_getElem?_getD, List.getElem?_map, List.getElem?_drop, List.getElem?_eq_getElem h1, List.getD_eq_getElem?_getD, List.getElem?_eq_getElem h1]; rfl
 constructor
 ·intro h k hk
  have hk : k < ms.length := List.mem_range.mp hk
  rw [List.getElem?_eq_getElem hk]
  show decide _ = true
  rw [decide_eq_true_eq, gl k hk]
  have := h k _ (List.getElem?_eq_getElem hk)
  rw [Nat.zero_add] at this; exact this
 ·intro h i x hx
  have hi : i < ms.length := (List.getElem?_eq_some_iff.mp hx).1
  have := h i (List.mem_range.mpr hi)
  rw [hx] at this
  have this : decide (((w.2.drop 6).map Km414.sum).getD i 0 ≤ x.most) = true := this
  rw [decide_eq_true_eq, gl i hi] at this
  rw [Nat.zero_add]; exact this
theorem foldl_swap {α β γ : Type} (g : β → γ) (f : β → α → β) (f' : γ → α → γ) : ∀ (l : List α) (b : β), (∀ b, ∀ x ∈ l, g (f b x) = f' (g b) x) → g (l.foldl f b) = l.foldl f' (g b)
 | [], _, _ => rfl
 | x :: r, b, h => by
  rw [List.foldl_cons, foldl_swap g f f' r _ fun b y hy => h b y (by simp [hy]), List.foldl_cons, h b x (by simp)]
theorem foldl_filt {α β : Type} (p : α → Bool) (f : β → α → β) : ∀ (l : List α) (b : β), (l.filter p).foldl f b = l.foldl (fun b x => if p x = true then f b x else b) b
 | [], _ => rfl
 | x :: r, b => by
  rw [List.filter_cons]
  by_cases h : p x = true
  ·rw [if_pos h, List.foldl_cons, foldl_filt p f r, List.foldl_cons, if_pos h]
  ·rw [if_neg h, foldl_filt p f r, List.foldl_cons, if_neg h]
def swapB (o : Option (List Nat × Nat)) : Option (Nat × List Nat) := o.map fun p => (p.2, p.1)
theorem best_eq {w : Works} (ok : WOk w) : w.best = swapB (bestC w.harm w.bays (waysC w.machines w.hopper)) := by
 have hlf : LeadsFrom w.machines.length w.machines 0 := fun i x hx => by
  rw [Nat.zero_add]; exact ⟨ok.ms.belts.a i x hx, ok.ms.belts.b i x hx⟩
 have hall := all_thru (enterC w.machines.length w.hopper) w.machines.reverse
 rw [List.reverse_reverse] at hall
 unfold Km414.Works.best Km414.Works.choices waysC bestC
 have hc := all_choices [] w.machines 0 [([], enterC w.machines.length w.hopper)]
 have hc' : w.machines.foldl (fun r x => r.flatMap fun s => (List.range x.settings.length).map fun k => s ++ [k]) [[]] = (allFrom w.machines 0 [([], enterC w.machines.length w.hopper)]).map (·.1) := hc.symm
 rw [hc', waysFrom_eq w.machines 0 _ hlf, foldl_filt, List.foldl_map]
 refine (foldl_swap swapB _ _ _ none fun b x hx => ?_).symm
 obtain ⟨h1, h2⟩ := hall x hx
 have h3 : x.2 = putC w.machines x.1 w.hopper := h2
 have hl : x.2.length = 6 + w.machines.length := by rw [h3, putC_len]
 obtain ⟨f2, f1⟩ := flow_eq ok.ms.n5 ok.ms.belts x.1 ok.hop
 have hfit := fits_eq ok x.1 ok.hop
 rw [← h3] at hfit f1 f2
 have hworth : w.worth (w.with_ (w.flow x.1 w.hopper).2) = worthC w.harm w.bays x.2 := by
  rw [f2, worthC_eq ok.b6 (by omega)]
 rw [okFrom_part hl]
 show swapB _ = (if w.fits (w.flow x.1 w.hopper) = false then _ else _)
 rw [hfit]
 cases c1 : partOk w.machines ((x.2.drop 6).map Km414.sum) with
 | false => simp
 | true =>
  cases c2 : holdOk w.bays x.2 with
  | false => simp
  | true =>
   simp only [Bool.and_self, if_true]
   rw [if_neg (by decide)]
   simp only [hworth]
   cases b with
   | none => rfl
   | some p =>
    obtain ⟨s, u⟩ := p
    simp only [swapB, Option.map_some]
    split <;> rfl
end Sb
end
section
namespace Sb
open Km414 (Mix none6 plus side0 side1 Machine Bay Works)
def upTo {α : Type} (l : List α) (f : Nat → α → α) (i : Nat) : List α := l.mapIdx fun j x => if j < i then f j x else x
theorem upTo_len {α : Type} (l : List α) (f : Nat → α → α) (i : Nat) : (upTo l f i).length = l.length := by simp [upTo]
theorem upTo_zero {α : Type} (l : List α) (f : Nat → α → α) : upTo l f 0 = l := by
 apply List.ext_getElem?
 intro j
 unfold upTo
 rw [List.getElem?_mapIdx]
 cases l[j]? <;> simp
theorem upTo_at {α : Type} {l : List α} {f : Nat → α → α} {i : Nat} {x : α} (h : l[i]? = some x) : (upTo l f i)[i]? = some x := by
 unfold upTo
 rw [List.getElem?_mapIdx, h]; simp
theorem upTo_succ {α : Type} {l : List α} {f : Nat → α → α} {i : Nat} {x : α} (h : l[i]? = some x) : (upTo l f i).set i (f i x) = upTo l f (i + 1) := by
 apply List.ext_getElem?
 intro j
 have hi : i < l.length := (List.getElem?_eq_some_iff.mp h).1
 rw [List.getElem?_set, upTo_len]
 unfold upTo
 rw [List.getElem?_mapIdx, List.getElem?_mapIdx]
 by_cases e : i = j
 ·subst e
  rw [if_pos rfl, if_pos hi, h]; simp
 ·rw [if_neg e]
  cases hj : l[j]? with
  | none => rfl
  | some y =>
   have : (j < i + 1) ↔ (j < i) := by omega
   simp [this]
theorem upTo_full {α : Type} (l : List α) (f : Nat → α → α) (n : Nat) (hn : l.length ≤ n) : upTo l f n = l.mapIdx f := by
 apply List.ext_getElem?
 intro j
 unfold upTo
 rw [List.getElem?_mapIdx, List.getElem?_mapIdx]
 cases hj : l[j]? with
 | none => rfl
 | some y =>
  have : j < n := Nat.lt_of_lt_of_le (List.getElem?_eq_some_iff.mp hj).1 hn
  simp [this]
theorem with_eq {w : Works} (hb : w.bays.length = 6) {c : List Mix} : w.with_ (c.take 6) = w.bays.mapIdx fun i b => { b with mix := plus b.mix (c.getD i none6) } := by
 apply List.ext_getElem?
 intro j
 unfold Km414.Works.with_
 rw [List.getElem?_map, List.getElem?_mapIdx]
 by_cases hj : j < 6
 ·have hj' : j < w.bays.length := by omega
  show Option.map _ (List.range 6)[j]? = _
  rw [List.getElem?_range hj, List.getElem?_eq_getElem hj']
  have e1 := take_getD c hj
  have e2 : w.bays.getD j ⟨0, 0, 0, 0, none6⟩ = w.bays[j] := by rw [List.getD_eq_getElem?_getD, List.getElem?_eq_getElem hj']; rfl
  show some ({ (w.bays.getD j ⟨0, 0, 0, 0, none6⟩) with mix := plus (w.bays.getD j ⟨0, 0, 0, 0, none6⟩).mix ((c.take 6).getD j none6) } : Bay) = some { w.bays[j] with mix := plus w.bays[j].mix (c.getD j none6) }
  rw [e1, e2]
 ·show Option.map _ (List.range 6)[j]? = _
  rw [List.getElem?_eq_none (by simp; omega), List.getElem?_eq_none (by omega)]; rfl
theorem fm_map {α β : Type} {f : α → Option β} {g : α → β} : ∀ {l : List α}, (∀ x ∈ l, f x = some (g x)) → l.filterMap f = l.map g
 | [], _ => rfl
 | x :: r, h => by
  rw [List.filterMap_cons, h x (by simp), List.map_cons, fm_map fun y hy => h y (by simp [hy])]
theorem taken_eq (ms : List Machine) (g : Nat → Machine → Machine) : ((List.range ms.length).filterMap fun k => ms[k]?.map fun x => g k x) = ms.mapIdx g := by
 have e : ∀ k ∈ List.range ms.length, (ms[k]?.map fun x => g k x) = some (g k (ms.getD k ⟨[], 0, 0, 0, 0⟩)) := fun k hk => by
  have hk : k < ms.length := List.mem_range.mp hk
  rw [List.getElem?_eq_getElem hk, List.getD_eq_getElem?_getD, List.getElem?_eq_getElem hk]; rfl
 rw [fm_map e]
 apply List.ext_getElem?
 intro j
 rw [List.getElem?_map, List.getElem?_mapIdx]
 by_cases hj : j < ms.length
 ·rw [List.getElem?_range hj, List.getElem?_eq_getElem hj]
  show some (g j (ms.getD j ⟨[], 0, 0, 0, 0⟩)) = some (g j ms[j])
  rw [List.getD_eq_getElem?_getD, List.getElem?_eq_getElem hj]; rfl
 ·rw [List.getElem?_eq_none (by simp; omega), List.getElem?_eq_none (by omega)]; rfl
theorem best_mem {h : Nat} {bs : List Bay} : ∀ {ws : List Way} {s : List Nat} {u : Nat}, bestC h bs ws = some (s, u) → ∃ w ∈ ws, s = w.1 := by
 have gen : ∀ (ws : List Way) (r : Option (List Nat × Nat)) (s : List Nat) (u : Nat), ws.foldl (fun r w => if holdOk bs w.2 = true then (match r with
   | none => some (w.1, worthC h bs w.2)
   | some (s, u) => if u < worthC h bs w.2 then some (w.1, worthC h bs w.2) else some (s, u)) else r) r = some (s, u) → r = some (s, u) ∨ ∃ w ∈ ws, s = w.1 := by
  intro ws
  induction ws with
  | nil => intro r s u h; exact .inl h
  | cons w l ih =>
   intro r s u hh
   rw [List.foldl_cons] at hh
   rcases ih _ s u hh with h1 | ⟨w', hw, e⟩
   ·split at h1
    ·cases r with
     | none =>
      simp at h1
      exact .inr ⟨w, by simp, h1.1.symm⟩
     | some p =>
      obtain ⟨s0, u0⟩ := p
      simp only at h1
      split at h1
      ·simp at h1
       exact .inr ⟨w, by simp, h1.1.symm⟩
      ·exact .inl h1
    ·exact .inl h1
   ·exact .inr ⟨w', by simp [hw], e⟩
 intro ws s u hh
 rcases gen ws none s u hh with h1 | h1
 ·cases h1
 ·exact h1
end Sb
end
section
namespace Sb
open Km414 (Mix none6 plus side0 side1 Machine Bay Works Desk Call act)
def chg (w : Works) (c : Km414.Call) : Works × Km414.Ans := ((Km414.act ⟨w, [], []⟩ c).1.now, (Km414.act ⟨w, [], []⟩ c).2)
def isChg : Call → Bool
 | .machine .. => true | .setting .. => true | .turn .. => true | .belt .. => true | .bay .. => true | .feed .. => true
 | .run => true | .bale .. => true | .dump .. => true | .back_ .. => true | .take => true
 | _ => false
def isAsk : Call → Bool
 | .would .. => true | .loads => true | .pure_ .. => true | .best => true | .often .. => true | .goes .. => true | .split .. => true
 | .hopper => true | .in_ .. => true | .sets => true | .belts => true | .bales => true | .look .. => true | .worth => true | .sums .. => true | .money => true
 | _ => false
theorem act_ask (d : Desk) (c : Call) (h : isAsk c = true) : act d c = (d, (chg d.now c).2) := by
 cases c <;> simp [isAsk] at h <;> rfl
theorem act_chg (d : Desk) (c : Call) (h : isChg c = true) : act d c = if (chg d.now c).2.value < 0 then (d, (chg d.now c).2) else (d.become (chg d.now c).1, (chg d.now c).2) := by
 have nn : ∀ n : Nat, ¬ ((n : Nat) : Int) < 0 := fun n => by omega
 cases c with
 | machine m p =>
  unfold chg act
  dsimp only
  split
  ·simp [Km414.only]
  ·split
   ·simp [Km414.only]
   ·simp [Km414.only, Km414.Desk.become, nn]
 | setting k p =>
  cases hx : d.now.machines[k]? with
  | none =>
   unfold chg act
   simp only [hx]
   simp [Km414.only]
  | some x =>
   unfold chg act
   simp only [hx]
   split
   ·simp [Km414.only]
   ·split
    ·simp [Km414.only]
    ·simp only [Km414.only, Km414.Desk.become, nn, if_false]
 | turn k s =>
  cases hx : d.now.machines[k]? with
  | none =>
   unfold chg act
   simp only [hx]
   simp [Km414.only]
  | some x =>
   unfold chg act
   simp only [hx]
   split
   ·simp [Km414.only]
   ·simp only [Km414.only, Km414.Desk.become, nn, if_false]
 | belt k e t =>
  cases hx : d.now.machines[k]? with
  | none =>
   unfold chg act
   simp only [hx]
   simp [Km414.only]
  | some x =>
   unfold chg act
   simp only [hx]
   split
   ·simp [Km414.only]
   ·simp only [Km414.only, Km414.Desk.become, nn, if_false]
 | bay i k p c m =>
  unfold chg act
  dsimp only
  split
  ·simp [Km414.only]
  ·split
   ·simp [Km414.only]
   ·split
    ·simp [Km414.only]
    ·simp [Km414.only, Km414.Desk.become]
 | feed m =>
  unfold chg act
  dsimp only
  split
  ·simp [Km414.only]
  ·split
   ·simp [Km414.only]
   ·split
    ·simp [Km414.only]
    ·simp only [Km414.only, Km414.Desk.become, nn, if_false]
 | run =>
  unfold chg act
  dsimp only
  split
  ·simp [Km414.only]
  ·split
   ·simp [Km414.only]
   ·simp only [Km414.only, Km414.Desk.become, nn, if_false]
 | bale i =>
  unfold chg act
  dsimp only
  split
  ·simp [Km414.only]
  ·split
   ·simp [Km414.only]
   ·split
    ·simp [Km414.only]
    ·split
     ·simp [Km414.only]
     ·simp only [Km414.only, Km414.Desk.become, nn, if_false]
 | dump i c =>
  unfold chg act
  dsimp only
  split
  ·simp [Km414.only]
  ·split
   ·simp [Km414.only]
   ·split
    ·simp [Km414.only]
    ·simp only [Km414.only, Km414.Desk.become, nn, if_false]
 | back_ i =>
  unfold chg act
  dsimp only
  split
  ·simp [Km414.only]
  ·split
   ·simp [Km414.only]
   ·split
    ·simp [Km414.only]
    ·simp only [Km414.only, Km414.Desk.become, nn, if_false]
 | take =>
  cases hx : d.now.best with
  | none =>
   unfold chg act
   simp only [hx]
   simp [Km414.only]
  | some x =>
   unfold chg act
   simp only [hx]
   simp only [Km414.only, Km414.Desk.become, nn, if_false]
 | _ => simp [isChg] at h
def fitCall : Call → Prop
 | .machine _ p => p.length = 6
 | .setting _ p => p.length = 6
 | .feed m => m.length = 6
 | _ => True
theorem newB_ok : BOk ⟨0, 0, 0, 1000000, none6⟩ := ⟨by decide, by decide, by decide, by decide, none6_len, by simp [Km414.sum, none6, Km414.KINDS, List.replicate]⟩
theorem opened_ok {h : Nat} (hh : h ≤ 6) : WOk (Km414.opened h) := by
 refine ⟨hh, ⟨by simp [Km414.opened], fun k x e => by simp [Km414.opened] at e⟩, fun b hb => ?_, by simp [Km414.opened, Km414.BAYS], none6_len, none6_len, none6_len, by simp [Km414.opened]⟩
 have : b ∈ List.replicate 6 (⟨0, 0, 0, 1000000, none6⟩ : Bay) := hb
 rw [(List.mem_replicate.mp this).2]
 exact newB_ok
theorem okParts_le {p : List Nat} (h : ¬ Km414.okParts p = false) (i : Nat) : p.getD i 0 ≤ 1000 := by
 have h : Km414.okParts p = true := by simpa using h
 unfold Km414.okParts at h
 rw [List.all_eq_true] at h
 rw [List.getD_eq_getElem?_getD]
 cases e : p[i]? with
 | none => simp
 | some x => simpa using h x (List.mem_of_getElem? e)
theorem MOk.grow {n n' k : Nat} {x : Machine} (h : MOk n k x) (hn : n ≤ n') : MOk n' k x := by
 refine ⟨?_, ?_, h.s1, h.s3, h.now, h.most, h.six, h.thou⟩
 ·have := h.la; unfold Leads at *; omega
 ·have := h.lb; unfold Leads at *; omega
theorem MsOk.set {ms : List Machine} (h : MsOk ms) {k : Nat} {x : Machine} (hx : MOk ms.length k x) : MsOk (ms.set k x) := by
 refine ⟨by rw [List.length_set]; exact h.n5, fun j y hy => ?_⟩
 rw [List.length_set]
 rw [List.getElem?_set] at hy
 split at hy
 ·rename_i e
  split at hy
  ·cases hy; rw [← e]; exact hx
  ·cases hy
 ·exact h.each j y hy
theorem bays_set {bs : List Bay} (h : ∀ b ∈ bs, BOk b) {i : Nat} {b : Bay} (hb : BOk b) : ∀ c ∈ bs.set i b, BOk c := fun c hc => by
 rcases List.mem_or_eq_of_mem_set hc with q | q
 ·exact h c q
 ·rw [q]; exact hb
theorem clear_ok {b : Bay} (h : BOk b) : BOk { b with mix := none6 } := ⟨h.kind, h.pure, h.price, h.most, none6_len, by
 show Km414.sum none6 ≤ b.most
 have : Km414.sum none6 = 0 := by simp [Km414.sum, none6, Km414.KINDS, List.replicate]
 omega⟩
theorem bay_ok {w : Works} (ok : WOk w) {i : Nat} (hi : ¬ Km414.BAYS ≤ i) : BOk (w.bay i) := by
 have hi : i < w.bays.length := by rw [ok.b6]; unfold Km414.BAYS at hi; omega
 unfold Km414.Works.bay
 rw [List.getD_eq_getElem?_getD, List.getElem?_eq_getElem hi]
 exact ok.bays _ (List.getElem_mem hi)
theorem all_valid (c0 : List Mix) : ∀ (r : List Machine), let l := r.reverse
  ∀ w ∈ allFrom l 0 [([], c0)], w.1.length = l.length ∧ ∀ (k : Nat) x, l[k]? = some x → w.1.getD k 0 < x.settings.length
 | [] => by
  intro l w hw
  have e : w = ([], c0) := List.mem_singleton.mp hw
  subst e
  exact ⟨rfl, fun k x h => by simp [l] at h⟩
 | y :: r => by
  intro l w hw
  have ih := all_valid c0 r
  have el : l = r.reverse ++ [y] := by simp [l]
  rw [el] at hw ⊢
  rw [all_snoc, Nat.zero_add] at hw
  obtain ⟨w1, h1, h2⟩ := List.mem_flatMap.mp hw
  obtain ⟨j, hj, rfl⟩ := List.mem_map.mp h2
  obtain ⟨i1, i2⟩ := ih w1 h1
  have hj : j < y.settings.length := List.mem_range.mp hj
  refine ⟨?_, fun k x hx => ?_⟩
  ·show (w1.1 ++ [j]).length = _
   rw [List.length_append, i1, List.length_append]; rfl
  ·show (w1.1 ++ [j]).getD k 0 < _
   rw [List.getD_eq_getElem?_getD]
   by_cases hk : k < r.reverse.length
   ·rw [List.getElem?_append_left hk] at hx
    rw [List.getElem?_append_left (by rw [i1]; exact hk), ← List.getD_eq_getElem?_getD]
    exact i2 k x hx
   ·rw [List.getElem?_append_right (by omega)] at hx
    have e0 : k - r.reverse.length = 0 := by
     rcases Nat.eq_zero_or_pos (k - r.reverse.length) with z | z
     ·exact z
     ·rw [List.getElem?_eq_none (by simp at z ⊢; omega)] at hx; cases hx
    rw [e0] at hx
    cases hx
    rw [List.getElem?_append_right (by rw [i1]; omega), i1, e0]
    exact hj
theorem best_valid {w : Works} (ok : WOk w) {v : Nat} {s : List Nat} (h : w.best = some (v, s)) : ∀ (k : Nat) x, w.machines[k]? = some x → s.getD k 0 < x.settings.length := by
 rw [best_eq ok] at h
 cases hb : bestC w.harm w.bays (waysC w.machines w.hopper) with
 | none => rw [hb] at h; cases h
 | some p =>
  rw [hb] at h
  obtain ⟨s', u⟩ := p
  have e : (u, s') = (v, s) := Option.some.inj h
  cases e
  obtain ⟨wy, hwy, e⟩ := best_mem hb
  have hlf : LeadsFrom w.machines.length w.machines 0 := fun i x hx => by
   rw [Nat.zero_add]; exact ⟨ok.ms.belts.a i x hx, ok.ms.belts.b i x hx⟩
  unfold waysC at hwy
  rw [waysFrom_eq _ _ _ hlf] at hwy
  have := all_valid (enterC w.machines.length w.hopper) w.machines.reverse
  rw [List.reverse_reverse] at this
  rw [e]
  exact (this wy (List.mem_filter.mp hwy).1).2
theorem chg_ok {w : Works} (ok : WOk w) {c : Call} (hc : isChg c = true) (hf : fitCall c) : WOk (chg w c).1 := by
 cases c with
 | machine m p =>
  unfold chg act
  dsimp only
  split
  ·exact ok
  ·rename_i h1
   split
   ·exact ok
   ·rename_i h2
    have h2 : w.machines.length < 5 := by unfold Km414.MACHINES at h2; omega
    refine ⟨ok.harm, ⟨?_, fun k x e => ?_⟩, ok.bays, ok.b6, ok.hop, ok.fed, ok.dum, ok.bal⟩
    ·show (w.machines ++ [_]).length ≤ 5
     rw [List.length_append]; simp; omega
    ·have e : (w.machines ++ [(⟨[p], 0, m, 0, 1⟩ : Machine)])[k]? = some x := e
     show MOk (w.machines ++ [(⟨[p], 0, m, 0, 1⟩ : Machine)]).length k x
     rw [List.length_append]
     by_cases hk : k < w.machines.length
     ·rw [List.getElem?_append_left hk] at e
      exact (ok.ms.each k x e).grow (by simp)
     ·rw [List.getElem?_append_right (by omega)] at e
      have : k - w.machines.length = 0 := by
       rcases Nat.eq_zero_or_pos (k - w.machines.length) with z | z
       ·exact z
       ·rw [List.getElem?_eq_none (by simp; omega)] at e; cases e
      rw [this] at e
      cases e
      refine ⟨.inl (by show 0 < 6; decide), .inl (by show 1 < 6; decide), by show 1 ≤ 1; decide, by show 1 ≤ 3; decide, by show 0 < 1; decide, ⟨by show 1 ≤ m; omega, by show m ≤ 1000000; omega⟩, fun s hs => ?_, fun s hs i => ?_⟩
      ·rw [List.mem_singleton.mp hs]; exact hf
      ·rw [List.mem_singleton.mp hs]; exact okParts_le (fun z => h1 (.inr (.inr z))) i
 | setting k p =>
  unfold chg act
  dsimp only
  split
  ·exact ok
  ·rename_i x hx
   split
   ·exact ok
   ·rename_i h1
    split
    ·exact ok
    ·rename_i h2
     have h2 : x.settings.length < 3 := by unfold Km414.SETTINGS at h2; omega
     have ox := ok.ms.each k x hx
     refine ⟨ok.harm, ok.ms.set ⟨ox.la, ox.lb, ?_, ?_, ?_, ox.most, fun s hs => ?_, fun s hs i => ?_⟩, ok.bays, ok.b6, ok.hop, ok.fed, ok.dum, ok.bal⟩
     ·show 1 ≤ (x.settings ++ [p]).length; rw [List.length_append]; simp
     ·show (x.settings ++ [p]).length ≤ 3; rw [List.length_append]; simp; omega
     ·show x.now < (x.settings ++ [p]).length; rw [List.length_append]; have := ox.now; omega
     ·rcases List.mem_append.mp hs with z | z
      ·exact ox.six s z
      ·rw [List.mem_singleton.mp z]; exact hf
     ·rcases List.mem_append.mp hs with z | z
      ·exact ox.thou s z i
      ·rw [List.mem_singleton.mp z]; exact okParts_le h1 i
 | turn k s =>
  unfold chg act
  dsimp only
  split
  ·exact ok
  ·rename_i x hx
   split
   ·exact ok
   ·rename_i h1
    have ox := ok.ms.each k x hx
    exact ⟨ok.harm, ok.ms.set ⟨ox.la, ox.lb, ox.s1, ox.s3, by show s < x.settings.length; omega, ox.most, ox.six, ox.thou⟩, ok.bays, ok.b6, ok.hop, ok.fed, ok.dum, ok.bal⟩
 | belt k e t =>
  unfold chg act
  dsimp only
  split
  ·exact ok
  ·rename_i x hx
   split
   ·exact ok
   ·rename_i h1
    have ox := ok.ms.each k x hx
    have lt : Leads w.machines.length k t := by unfold Leads; unfold Km414.BAYS at h1; omega
    refine ⟨ok.harm, ok.ms.set ?_, ok.bays, ok.b6, ok.hop, ok.fed, ok.dum, ok.bal⟩
    split
    ·exact ⟨lt, ox.lb, ox.s1, ox.s3, ox.now, ox.most, ox.six, ox.thou⟩
    ·exact ⟨ox.la, lt, ox.s1, ox.s3, ox.now, ox.most, ox.six, ox.thou⟩
 | bay i k p c m =>
  unfold chg act
  dsimp only
  split
  ·exact ok
  ·rename_i h1
   split
   ·exact ok
   ·rename_i h2
    split
    ·exact ok
    ·rename_i h3
     have ob := bay_ok ok h1
     unfold Km414.KINDS at h2
     exact ⟨ok.harm, ok.ms, bays_set ok.bays ⟨by show k < 6; omega, by show p ≤ 1000; omega, by show c ≤ 10000; omega, ⟨by show 1 ≤ m; omega, by show m ≤ 1000000; omega⟩, ob.six, by show Km414.sum (w.bay i).mix ≤ m; omega⟩, by show (w.bays.set i _).length = 6; rw [List.length_set]; exact ok.b6, ok.hop, ok.fed, ok.dum, ok.bal⟩
 | feed m =>
  unfold chg act
  dsimp only
  split
  ·exact ok
  ·split
   ·exact ok
   ·split
    ·exact ok
    ·exact ⟨ok.harm, ok.ms, ok.bays, ok.b6, plus6 _ _, plus6 _ _, ok.dum, ok.bal⟩
 | run =>
  unfold chg act
  dsimp only
  split
  ·exact ok
  ·split
   ·exact ok
   ·rename_i h1 h2
    have hf : w.fits (w.flow w.sets w.hopper) = true := by simpa using h2
    have hflow := (flow_eq ok.ms.n5 ok.ms.belts w.sets ok.hop).1
    refine ⟨ok.harm, ok.ms, fun b hb => ?_, ?_, none6_len, ok.fed, ok.dum, ok.bal⟩
    ·have hb : b ∈ w.with_ (w.flow w.sets w.hopper).2 := hb
     have hh : Km414.sum b.mix ≤ b.most := by
      unfold Km414.Works.fits at hf
      rw [Bool.and_eq_true, List.all_eq_true, List.all_eq_true] at hf
      have := hf.2 b hb
      simpa using this
     rw [hflow, with_eq ok.b6] at hb
     obtain ⟨j, hj⟩ := List.getElem?_of_mem hb
     rw [List.getElem?_mapIdx] at hj
     cases e : w.bays[j]? with
     | none => rw [e] at hj; cases hj
     | some b0 =>
      rw [e] at hj
      have o := ok.bays b0 (List.mem_of_getElem? e)
      have hj := Option.some.inj hj
      rw [← hj] at hh ⊢
      exact ⟨o.kind, o.pure, o.price, o.most, plus6 _ _, hh⟩
    ·show (w.with_ _).length = 6
     rw [hflow, with_eq ok.b6, List.length_mapIdx]; exact ok.b6
 | bale i =>
  unfold chg act
  dsimp only
  split
  ·exact ok
  ·rename_i h1
   split
   ·exact ok
   ·split
    ·exact ok
    ·split
     ·exact ok
     ·rename_i h4
      refine ⟨ok.harm, ok.ms, bays_set ok.bays (clear_ok (bay_ok ok h1)), by show (w.bays.set i _).length = 6; rw [List.length_set]; exact ok.b6, ok.hop, ok.fed, ok.dum, ?_⟩
      show (w.bales ++ [_]).length ≤ 40
      rw [List.length_append]; simp; omega
 | dump i c =>
  unfold chg act
  dsimp only
  split
  ·exact ok
  ·rename_i h1
   split
   ·exact ok
   ·split
    ·exact ok
    ·exact ⟨ok.harm, ok.ms, bays_set ok.bays (clear_ok (bay_ok ok h1)), by show (w.bays.set i _).length = 6; rw [List.length_set]; exact ok.b6, ok.hop, ok.fed, plus6 _ _, ok.bal⟩
 | back_ i =>
  unfold chg act
  dsimp only
  split
  ·exact ok
  ·rename_i h1
   split
   ·exact ok
   ·split
    ·exact ok
    ·exact ⟨ok.harm, ok.ms, bays_set ok.bays (clear_ok (bay_ok ok h1)), by show (w.bays.set i _).length = 6; rw [List.length_set]; exact ok.b6, plus6 _ _, ok.fed, ok.dum, ok.bal⟩
 | take =>
  have hb := best_eq ok
  have hw := waysC_ok ok.ms w.hopper
  unfold chg act
  dsimp only
  split
  ·exact ok
  ·rename_i v s hbs
   have hv := best_valid ok hbs
   refine ⟨ok.harm, ?_, ok.bays, ok.b6, ok.hop, ok.fed, ok.dum, ok.bal⟩
   show MsOk ((List.range w.machines.length).filterMap fun k => w.machines[k]?.map fun x => { x with now := s.getD k 0 })
   rw [taken_eq w.machines (fun k x => { x with now := s.getD k 0 })]
   refine ⟨by rw [List.length_mapIdx]; exact ok.ms.n5, fun k y hy => ?_⟩
   rw [List.length_mapIdx]
   rw [List.getElem?_mapIdx] at hy
   cases e : w.machines[k]? with
   | none => rw [e] at hy; cases hy
   | some x =>
    rw [e] at hy
    have hy := Option.some.inj hy
    have ox := ok.ms.each k x e
    rw [← hy]
    exact ⟨ox.la, ox.lb, ox.s1, ox.s3, hv k x e, ox.most, ox.six, ox.thou⟩
 | _ => simp [isChg] at hc
end Sb
end
section
namespace Sb
open Km414 (Works Desk Call act)
theorem calls_nil {sh : Int → Option (Nat × Nat)} {f : Nat} {cs : List (List (List Int))} (h : PyFlat.calls sh f [] = some cs) : cs = [] := by
 cases f <;> exact (Option.some.inj h).symm
theorem calls_cons {sh : Int → Option (Nat × Nat)} {f : Nat} {p : Int} {r : List Int} {cs : List (List (List Int))} (h : PyFlat.calls sh f (p :: r) = some cs) :
  ∃ f' n k xs t cs', sh p = some (n, k) ∧ n ≤ r.length ∧ PyFlat.rows k (r.drop n) = some (xs, t) ∧ cs = ((p :: r.take n) :: xs) :: cs' ∧ PyFlat.calls sh f' t = some cs' := by
 cases f with
 | zero => cases h
 | succ f =>
  unfold PyFlat.calls at h
  cases hc : PyFlat.call sh (p :: r) with
  | none => rw [hc] at h; cases h
  | some ct =>
   obtain ⟨c, t⟩ := ct
   rw [hc] at h
   dsimp only at h
   cases ht : PyFlat.calls sh f t with
   | none => rw [ht] at h; cases h
   | some cs' =>
    rw [ht] at h
    have h := Option.some.inj h
    unfold PyFlat.call at hc
    dsimp only at hc
    cases hs : sh p with
    | none => rw [hs] at hc; cases hc
    | some nk =>
     obtain ⟨n, k⟩ := nk
     rw [hs] at hc
     dsimp only at hc
     split at hc
     ·cases hc
     ·rename_i hn
      cases hr : PyFlat.rows k (r.drop n) with
      | none => rw [hr] at hc; cases hc
      | some xt =>
       obtain ⟨xs, t'⟩ := xt
       rw [hr] at hc
       have hc := Option.some.inj hc
       have e1 : (p :: r.take n) :: xs = c := congrArg Prod.fst hc
       have e2 : t' = t := congrArg Prod.snd hc
       rw [← e1] at h
       rw [← e2] at ht
       exact ⟨f, n, k, xs, t', cs', rfl, by omega, hr, h.symm, ht⟩
theorem rows0 {r : List Int} {xs : List (List Int)} {t : List Int} (h : PyFlat.rows 0 r = some (xs, t)) : xs = [] ∧ t = r := by
 have h := Option.some.inj h
 cases h
 exact ⟨rfl, rfl⟩
theorem rows1 {r : List Int} {xs : List (List Int)} {t : List Int} (h : PyFlat.rows 1 r = some (xs, t)) : ∃ (n : Nat) (q : List Int), r = ((n : Nat) : Int) :: q ∧ n ≤ q.length ∧ xs = [q.take n] ∧ t = q.drop n := by
 cases r with
 | nil => cases h
 | cons z q =>
  by_cases hz : 0 ≤ z ∧ z.toNat ≤ q.length
  ·have e : PyFlat.row (z :: q) = some (q.take z.toNat, q.drop z.toNat) := by unfold PyFlat.row; dsimp only; rw [if_pos hz]
   have e2 : PyFlat.rows 1 (z :: q) = some ([q.take z.toNat], q.drop z.toNat) := by
    unfold PyFlat.rows; rw [e]; rfl
   rw [e2] at h
   have h := Option.some.inj h
   have h1 : [q.take z.toNat] = xs := congrArg Prod.fst h
   have h2 : q.drop z.toNat = t := congrArg Prod.snd h
   exact ⟨z.toNat, q, by rw [Int.toNat_of_nonneg hz.1], hz.2, h1.symm, h2.symm⟩
  ·have e : PyFlat.row (z :: q) = none := by unfold PyFlat.row; dsimp only; rw [if_neg hz]
   have e2 : PyFlat.rows 1 (z :: q) = none := by unfold PyFlat.rows; rw [e]
   rw [e2] at h; cases h
theorem asked_parts {l : List Int} (h : PyKm414.answers_asked l = true) : ∃ cs, PyFlat.calls PyKm414.shape l.length l = some cs ∧ cs.length ≤ 1000 ∧ (∀ c ∈ cs, Km414Neutral.asked1 (PyKm414.whole c) = true) ∧ Km414Neutral.may Km414Neutral.start (cs.map PyKm414.whole) = true ∧
  PyKm414.answers l = PyFlat.told (PyFlat.played Km414Neutral.step Km414Neutral.start (cs.map PyKm414.whole)) := by
 unfold PyKm414.answers_asked at h
 cases hc : PyFlat.calls PyKm414.shape l.length l with
 | none => rw [hc] at h; cases h
 | some cs =>
  rw [hc] at h
  dsimp only at h
  simp only [Bool.and_eq_true] at h
  obtain ⟨⟨⟨⟨_, h1⟩, _⟩, h2⟩, _⟩ := h
  unfold Km414Neutral.asked at h2
  simp only [Bool.and_eq_true] at h2
  obtain ⟨_, _, h3, h4⟩ := h2
  refine ⟨cs, rfl, by simpa [PyFlat.atMost] using h1, fun c hc => List.all_eq_true.mp h3 _ (List.mem_map.mpr ⟨c, hc, rfl⟩), h4, ?_⟩
  unfold PyKm414.answers PyKm414.calls
  rw [hc]
theorem told_cons (a : List Int) (r : List (List Int)) : PyFlat.told (a :: r) = ((a.length : Nat) : Int) :: a ++ PyFlat.told r := by
 unfold PyFlat.told; simp
theorem may_cons {s : Km414Neutral.S} {c : Km414Neutral.Call} {l : List Km414Neutral.Call} (h : Km414Neutral.may s (c :: l) = true) : (Km414Neutral.step s c).2 ≠ [] ∧ Km414Neutral.may (Km414Neutral.step s c).1 l = true := by
 unfold Km414Neutral.may at h
 rw [Bool.and_eq_true] at h
 refine ⟨fun z => ?_, h.2⟩
 rw [z] at h
 simp at h
end Sb
end
section
namespace Sb
open Km414 (Mix none6 plus side0 side1 putAt parts through Machine Bay Works)
def enterH (had : List Mix) (n : Nat) (m : Mix) : List Mix := (had ++ List.replicate n none6).set (if n = 0 then 0 else 6) (plus ((had ++ List.replicate n none6).getD (if n = 0 then 0 else 6) none6) m)
def putH (had : List Mix) (ms : List Machine) (sets : List Nat) (m : Mix) : List Mix := thruC sets ms 0 (enterH had ms.length m)
theorem enterH_len (had : List Mix) (n : Nat) (m : Mix) : (enterH had n m).length = had.length + n := by simp [enterH]
theorem plus_getD (a b : Mix) {k : Nat} (h : k < 6) : (plus a b).getD k 0 = a.getD k 0 + b.getD k 0 := by
 unfold plus
 rw [List.getD_eq_getElem?_getD, List.getElem?_map, show Km414.KINDS = 6 from rfl, List.getElem?_range h]; rfl
theorem plus_assoc6 (a b c : Mix) : plus (plus a b) c = plus a (plus b c) := by
 show (List.range 6).map _ = (List.range 6).map _
 refine List.map_congr_left fun k hk => ?_
 have h := List.mem_range.mp hk
 rw [plus_getD a b h, plus_getD b c h]; omega
theorem none_plus {m : Mix} (hm : m.length = 6) : plus m none6 = m := by
 match m, hm with
 | [a0, a1, a2, a3, a4, a5], _ => simp [plus, none6, Km414.KINDS, List.range, List.range.loop, List.replicate]
theorem rep_getD (n i : Nat) : (List.replicate n none6).getD i none6 = none6 := by
 rw [List.getD_eq_getElem?_getD, List.getElem?_replicate]; split <;> rfl
def shiftF (had p : List Mix) : List Mix := (List.range p.length).map fun i => if i < 6 then plus (had.getD i none6) (p.getD i none6) else p.getD i none6
theorem shiftF_len (had p : List Mix) : (shiftF had p).length = p.length := by simp [shiftF]
theorem shiftF_at (had p : List Mix) {i : Nat} (h : i < p.length) : (shiftF had p).getD i none6 = if i < 6 then plus (had.getD i none6) (p.getD i none6) else p.getD i none6 := by
 unfold shiftF
 rw [List.getD_eq_getElem?_getD, List.getElem?_map, List.getElem?_range h]; rfl
theorem shiftF_hi (had p : List Mix) {i : Nat} (h : 6 ≤ i) : (shiftF had p).getD i none6 = p.getD i none6 := by
 by_cases c : i < p.length
 ·rw [shiftF_at had p c, if_neg (by omega)]
 ·rw [List.getD_eq_getElem?_getD, List.getElem?_eq_none (by rw [shiftF_len]; omega), List.getD_eq_getElem?_getD, List.getElem?_eq_none (by omega)]
theorem ext_getD {p q : List Mix} (hl : p.length = q.length) (h : ∀ i, i < p.length → p.getD i none6 = q.getD i none6) : p = q := by
 apply List.ext_getElem?
 intro i
 by_cases c : i < p.length
 ·have := h i c
  rw [List.getD_eq_getElem?_getD, List.getD_eq_getElem?_getD, List.getElem?_eq_getElem c, List.getElem?_eq_getElem (hl ▸ c)] at this
  rw [List.getElem?_eq_getElem c, List.getElem?_eq_getElem (hl ▸ c)]
  exact congrArg some this
 ·rw [List.getElem?_eq_none (by omega), List.getElem?_eq_none (by omega)]
theorem shiftF_set (had p : List Mix) (j : Nat) (x : Mix) : (shiftF had p).set j (plus ((shiftF had p).getD j none6) x) = shiftF had (p.set j (plus (p.getD j none6) x)) := by
 refine ext_getD (by simp [shiftF_len]) fun i hi => ?_
 rw [List.length_set, shiftF_len] at hi
 have e1 : (shiftF had (p.set j (plus (p.getD j none6) x))).getD i none6 = _ := shiftF_at had _ (by rw [List.length_set]; exact hi)
 rw [e1, getD_set, shiftF_len]
 by_cases c : i = j ∧ j < p.length
 ·obtain ⟨rfl, h⟩ := c
  have e2 : (p.set i (plus (p.getD i none6) x)).getD i none6 = plus (p.getD i none6) x := by rw [getD_set, if_pos ⟨rfl, h⟩]
  rw [e2, if_pos ⟨rfl, h⟩, shiftF_at had p h]
  by_cases d : i < 6
  ·simp only [d, if_true]; exact plus_assoc6 _ _ _
  ·simp only [d, if_false]
 ·have e2 : (p.set j (plus (p.getD j none6) x)).getD i none6 = p.getD i none6 := by rw [getD_set, if_neg c]
  rw [e2, if_neg c, shiftF_at had p hi]
theorem shiftF_part (had p : List Mix) (k a b : Nat) (s : List Nat) : partC (shiftF had p) k a b s = shiftF had (partC p k a b s) := by
 unfold partC
 rw [shiftF_hi had p (show 6 ≤ 6 + k by omega), shiftF_set, shiftF_set]
theorem shiftF_thru (had : List Mix) (sets : List Nat) : ∀ (l : List Machine) (k : Nat) (p : List Mix), thruC sets l k (shiftF had p) = shiftF had (thruC sets l k p)
 | [], _, _ => rfl
 | x :: l, k, p => by rw [thruC, shiftF_part, shiftF_thru had sets l, thruC]
theorem shiftF_enter {had : List Mix} (h6 : had.length = 6) (ha : All6 had) (n : Nat) {m : Mix} (hm : m.length = 6) : enterH had n m = shiftF had (enterC n m) := by
 have e0 : had ++ List.replicate n none6 = shiftF had (List.replicate (6 + n) none6) := by
  refine ext_getD (by simp [shiftF_len, h6]) fun i hi => ?_
  have hi' : i < 6 + n := by simpa [h6] using hi
  rw [shiftF_at had _ (by rw [List.length_replicate]; exact hi'), rep_getD]
  by_cases c : i < 6
  ·rw [if_pos c, none_plus (ha.getD i), List.getD_eq_getElem?_getD, List.getElem?_append_left (by omega), ← List.getD_eq_getElem?_getD]
  ·rw [if_neg c, List.getD_eq_getElem?_getD, List.getElem?_append_right (by omega), ← List.getD_eq_getElem?_getD, rep_getD]
 unfold enterH
 rw [e0, shiftF_set]
 unfold enterC
 rw [rep_getD, plus_none hm]
theorem putH_eq {had : List Mix} (h6 : had.length = 6) (ha : All6 had) (ms : List Machine) (sets : List Nat) {m : Mix} (hm : m.length = 6) : putH had ms sets m = shiftF had (putC ms sets m) := by
 unfold putH putC
 rw [shiftF_enter h6 ha _ hm, shiftF_thru]
theorem enterH_none (n : Nat) {m : Mix} (hm : m.length = 6) : enterH (List.replicate 6 none6) n m = enterC n m := by
 unfold enterH enterC
 have e : List.replicate 6 none6 ++ List.replicate n none6 = List.replicate (6 + n) none6 := by rw [List.replicate_append_replicate]
 rw [e, rep_getD, plus_none hm]
theorem putH_none (ms : List Machine) (sets : List Nat) {m : Mix} (hm : m.length = 6) : putH (List.replicate 6 none6) ms sets m = putC ms sets m := by
 unfold putH putC
 rw [enterH_none _ hm]
theorem shiftF_drop (had : List Mix) (p : List Mix) : (shiftF had p).drop 6 = p.drop 6 := by
 refine ext_getD (by simp [shiftF_len]) fun i hi => ?_
 rw [List.getD_eq_getElem?_getD, List.getElem?_drop, List.getD_eq_getElem?_getD, List.getElem?_drop, ← List.getD_eq_getElem?_getD, ← List.getD_eq_getElem?_getD, shiftF_hi had p (by omega)]
def holdH (bs : List Bay) (ms : List Mix) : Bool := (List.range (min bs.length ms.length)).all fun i => decide (Km414.sum (ms.getD i none6) ≤ (bs.getD i bay0).most)
def worthM (h : Nat) (b : Bay) (m : Mix) : Nat := if b.good h m = true then b.money m else 0
def worthH (h : Nat) (bs : List Bay) (ms : List Mix) : Nat := Km414.sum ((List.range (min bs.length ms.length)).map fun i => worthM h (bs.getD i bay0) (ms.getD i none6))
def bMixes (bs : List Bay) : List Mix := bs.map fun b => b.mix
theorem bMixes_at (bs : List Bay) (i : Nat) : (bMixes bs).getD i none6 = (bs.getD i bay0).mix := by
 unfold bMixes
 rw [List.getD_eq_getElem?_getD, List.getElem?_map, List.getD_eq_getElem?_getD]
 cases bs[i]? <;> rfl
theorem bMixes_six {bs : List Bay} (ok : ∀ b ∈ bs, b.mix.length = 6) : All6 (bMixes bs) := fun m hm => by
 obtain ⟨b, hb, rfl⟩ := List.mem_map.mp hm
 exact ok b hb
theorem holdH_eq {bs : List Bay} (h6 : bs.length = 6) (ok : ∀ b ∈ bs, b.mix.length = 6) {p : List Mix} (hp : 6 ≤ p.length) (hA : All6 p) : holdH bs (shiftF (bMixes bs) p) = holdOk bs p := by
 unfold holdH holdOk
 rw [shiftF_len]
 refine all_congr' fun i hi => ?_
 have hi' : i < 6 := by have := List.mem_range.mp hi; omega
 rw [shiftF_at _ p (by omega), if_pos hi', bMixes_at, sum_plus (ok _ (getD_mem (by omega))) (hA.getD i)]
where
 all_congr' {l : List Nat} {f g : Nat → Bool} (h : ∀ x ∈ l, f x = g x) : l.all f = l.all g := by
  induction l with
  | nil => rfl
  | cons x r ih => rw [List.all_cons, List.all_cons, h x (by simp), ih fun y hy => h y (by simp [hy])]
theorem worthH_eq {bs : List Bay} (h : Nat) (h6 : bs.length = 6) {p : List Mix} (hp : 6 ≤ p.length) : worthH h bs (shiftF (bMixes bs) p) = worthC h bs p := by
 unfold worthH worthC
 rw [shiftF_len]
 refine congrArg Km414.sum (List.map_congr_left fun i hi => ?_)
 have hi' : i < 6 := by have := List.mem_range.mp hi; omega
 rw [shiftF_at _ p (by omega), if_pos hi', bMixes_at]
 rfl
theorem worthH_now (w : Works) : worthH w.harm w.bays (bMixes w.bays) = w.worth w.bays := by
 unfold worthH Works.worth
 have e : min w.bays.length (bMixes w.bays).length = w.bays.length := by simp [bMixes]
 rw [e]
 refine congrArg Km414.sum ?_
 apply List.ext_getElem?
 intro i
 rw [List.getElem?_map, List.getElem?_map]
 by_cases c : i < w.bays.length
 ·rw [List.getElem?_range c, List.getElem?_eq_getElem c]
  show some (worthM _ (w.bays.getD i bay0) ((bMixes w.bays).getD i none6)) = some _
  rw [bMixes_at, List.getD_eq_getElem?_getD, List.getElem?_eq_getElem c]; rfl
 ·rw [List.getElem?_eq_none (by simp; omega), List.getElem?_eq_none (by omega)]; rfl
def wayH (had : List Mix) (w : Way) : Way := (w.1, shiftF had w.2)
def waysH (had : List Mix) (ms : List Machine) (m : Mix) : List Way := waysFrom ms 0 [([], enterH had ms.length m)]
theorem wayH_branch (had : List Mix) (k : Nat) (x : Machine) : ∀ ws : List Way, branchC k x (ws.map (wayH had)) = (branchC k x ws).map (wayH had)
 | [] => rfl
 | w :: r => by
  have ih := wayH_branch had k x r
  unfold branchC at ih ⊢
  rw [List.map_cons, List.flatMap_cons, List.flatMap_cons, List.map_append, ih, List.map_map]
  refine congrArg (· ++ _) (List.map_congr_left fun j _ => ?_)
  show branch1 k x (wayH had w) j = wayH had (branch1 k x w j)
  unfold branch1 wayH
  rw [shiftF_part]
theorem wayH_able (had : List Mix) (k : Nat) (x : Machine) (ws : List Way) : ableC k x (ws.map (wayH had)) = (ableC k x ws).map (wayH had) := by
 unfold ableC
 rw [List.filter_map]
 refine congrArg _ (List.filter_congr fun w _ => ?_)
 show isAble k x (wayH had w) = isAble k x w
 unfold isAble wayH
 rw [shiftF_hi had w.2 (show 6 ≤ 6 + k by omega)]
theorem wayH_from (had : List Mix) : ∀ (l : List Machine) (k : Nat) (ws : List Way), waysFrom l k (ws.map (wayH had)) = (waysFrom l k ws).map (wayH had)
 | [], _, _ => rfl
 | x :: l, k, ws => by rw [waysFrom, waysFrom, wayH_able, wayH_branch, wayH_from had l]
theorem waysH_eq {had : List Mix} (h6 : had.length = 6) (ha : All6 had) (ms : List Machine) {m : Mix} (hm : m.length = 6) : waysH had ms m = (waysC ms m).map (wayH had) := by
 unfold waysH waysC
 rw [← wayH_from, shiftF_enter h6 ha _ hm]; rfl
theorem waysH_ok {had : List Mix} (h6 : had.length = 6) {ms : List Machine} (ok : MsOk ms) (m : Mix) : ∀ (l : List Machine) (k : Nat), k + l.length = ms.length → (∀ x ∈ l, x.settings.length ≤ 3) → ∀ ws, WsOk ms.length k ws → WsOk ms.length (k + l.length) (waysFrom l k ws)
 | [], k, _, _, ws, h => h
 | x :: l, k, hk, hx, ws, h => by
  have e : k + (x :: l).length = k + 1 + l.length := by simp; omega
  rw [e]
  exact waysH_ok h6 ok m l (k + 1) (by rw [← hk]; simp; omega) (fun y hy => hx y (by simp [hy])) _ (h.step (hx x (by simp)))
def bestH (h : Nat) (bs : List Bay) (ws : List Way) : Option (List Nat × Nat) := ws.foldl (fun r w => if holdH bs w.2 = true then (match r with
 | none => some (w.1, worthH h bs w.2)
 | some (s, u) => if u < worthH h bs w.2 then some (w.1, worthH h bs w.2) else some (s, u)) else r) none
theorem All6.ways {n : Nat} : ∀ (l : List Machine) (k : Nat) (ws : List Way), (∀ w ∈ ws, All6 w.2) → ∀ w ∈ waysFrom l k ws, All6 w.2
 | [], _, _, h => h
 | x :: l, k, ws, h => All6.ways (n := n) l (k + 1) _ fun w hw => by
  obtain ⟨w0, h0, h1⟩ := List.mem_flatMap.mp hw
  obtain ⟨j, hj, rfl⟩ := List.mem_map.mp h1
  exact (h w0 (List.mem_filter.mp h0).1).partC _ _ _ _
theorem bestH_eq {w : Works} (ok : WOk w) : bestH w.harm w.bays (waysH (bMixes w.bays) w.machines w.hopper) = bestC w.harm w.bays (waysC w.machines w.hopper) := by
 have o6 : ∀ b ∈ w.bays, b.mix.length = 6 := fun b hb => (ok.bays b hb).six
 rw [waysH_eq (by simp [bMixes, ok.b6]) (bMixes_six o6) _ ok.hop]
 unfold bestH bestC
 rw [List.foldl_map]
 refine foldl_swap id _ _ _ _ fun r x hx => ?_
 have hl := (waysC_ok ok.ms w.hopper).each x hx
 have hA : All6 x.2 := All6.ways (n := 0) w.machines 0 _ (fun y hy => by rw [List.mem_singleton.mp hy]; exact All6.enterC _ ok.hop) x hx
 show (if holdH w.bays (shiftF (bMixes w.bays) x.2) = true then _ else _) = _
 rw [holdH_eq ok.b6 o6 (by rw [hl.1]; omega) hA]
 show (if _ then (match r with
  | none => some (x.1, worthH w.harm w.bays (shiftF (bMixes w.bays) x.2))
  | some (s, u) => if u < worthH w.harm w.bays (shiftF (bMixes w.bays) x.2) then some (x.1, worthH w.harm w.bays (shiftF (bMixes w.bays) x.2)) else some (s, u)) else r) = _
 rw [worthH_eq w.harm ok.b6 (by rw [hl.1]; omega)]
 rfl
end Sb
end
section
namespace Sb
open Km414 (Mix none6 plus side0 side1 putAt parts through Machine Bay Works)
theorem again_succ (w : Works) (i : Nat) : ∀ (n : Nat) (m : Mix), w.again_ i (n + 1) m = (w.flow w.sets (w.again_ i n m)).2.getD i none6
 | 0, _ => rfl
 | n + 1, m => by
  show w.again_ i (n + 1) ((w.flow w.sets m).2.getD i none6) = _
  rw [again_succ w i n]; rfl
theorem find_none {p : Nat → Bool} {n : Nat} (h : ∀ j, j < n → p j = false) : (List.range n).find? p = none := by
 rw [List.find?_eq_none]
 intro x hx
 rw [h x (List.mem_range.mp hx)]; exact Bool.false_ne_true
theorem find_some {p : Nat → Bool} {n k : Nat} (hk : k < n) (h : ∀ j, j < k → p j = false) (hp : p k = true) : (List.range n).find? p = some k := by
 have e : List.range n = List.range k ++ (k :: (List.range (n - k - 1)).map (fun x => k + 1 + x)) := by
  apply List.ext_getElem?
  intro i
  by_cases c : i < k
  ·rw [List.getElem?_append_left (by simpa using c), List.getElem?_range c, List.getElem?_range (by omega)]
  ·rw [List.getElem?_append_right (by simpa using c), List.length_range]
   by_cases d : i = k
   ·subst d; rw [Nat.sub_self, List.getElem?_range hk]; rfl
   ·obtain ⟨j, rfl⟩ : ∃ j, i = k + 1 + j := ⟨i - k - 1, by omega⟩
    have e2 : k + 1 + j - k = j + 1 := by omega
    rw [e2, List.getElem?_cons_succ, List.getElem?_map]
    by_cases f : k + 1 + j < n
    ·rw [List.getElem?_range f, List.getElem?_range (by omega)]; rfl
    ·rw [List.getElem?_eq_none (by simp; omega), List.getElem?_eq_none (by simp; omega)]; rfl
 rw [e, List.find?_append, find_none h, List.find?_cons, hp]; rfl
theorem six_flow {w : Works} (hn : w.machines.length ≤ 5) (hb : BeltsOk w.machines) {m : Mix} (hm : m.length = 6) {i : Nat} (hi : i < 6) : (w.flow w.sets m).2.getD i none6 = (putC w.machines w.sets m).getD i none6 := by
 rw [(flow_eq hn hb w.sets hm).1, take_getD _ hi]
structure OneK (k : Nat) (m : Mix) : Prop where
 len : m.length = 6
 z : ∀ j, j ≠ k → m.getD j 0 = 0
theorem OneK.none (k : Nat) : OneK k none6 := ⟨none6_len, fun j _ => by
 show (List.replicate 6 0).getD j 0 = 0
 rw [List.getD_eq_getElem?_getD, List.getElem?_replicate]; split <;> rfl⟩
theorem OneK.only {k : Nat} (n : Nat) : OneK k (none6.set k n) := ⟨by simp [none6_len], fun j hj => by
 have h := (OneK.none k).z j hj
 rw [List.getD_eq_getElem?_getD] at h ⊢
 rw [List.getElem?_set_ne (Ne.symm hj)]; exact h⟩
theorem rng6 (f : Nat → Nat) (j : Nat) : ((List.range 6).map f).getD j 0 = if j < 6 then f j else 0 := by
 rw [List.getD_eq_getElem?_getD, List.getElem?_map]
 by_cases c : j < 6
 ·rw [List.getElem?_range c, if_pos c]; rfl
 ·rw [List.getElem?_eq_none (by simp; omega), if_neg c]; rfl
theorem OneK.plus {k : Nat} {a b : Mix} (ha : OneK k a) (hb : OneK k b) : OneK k (plus a b) := ⟨plus6 a b, fun j hj => by
 show ((List.range 6).map _).getD j 0 = 0
 rw [rng6]
 split
 ·rw [ha.z j hj, hb.z j hj]
 ·rfl⟩
theorem OneK.side0 {k : Nat} {m : Mix} (h : OneK k m) (p : List Nat) : OneK k (side0 p m) := ⟨by simp [Km414.side0, Km414.KINDS], fun j hj => by
 show ((List.range 6).map _).getD j 0 = 0
 rw [rng6]
 split
 ·rw [h.z j hj, Nat.zero_mul, Nat.zero_div]
 ·rfl⟩
theorem OneK.side1 {k : Nat} {m : Mix} (h : OneK k m) (p : List Nat) : OneK k (side1 p m) := ⟨by simp [Km414.side1, Km414.KINDS], fun j hj => by
 show ((List.range 6).map _).getD j 0 = 0
 rw [rng6]
 split
 ·rw [h.z j hj]; omega
 ·rfl⟩
def AllK (k : Nat) (ms : List Mix) : Prop := ∀ i, OneK k (ms.getD i none6)
theorem AllK.set {k : Nat} {ms : List Mix} (h : AllK k ms) {m : Mix} (hm : OneK k m) (j : Nat) : AllK k (ms.set j m) := fun i => by
 rw [getD_set]
 split
 ·exact hm
 ·exact h i
theorem AllK.part {k : Nat} {ms : List Mix} (h : AllK k ms) (i a b : Nat) (s : List Nat) : AllK k (partC ms i a b s) := by
 have h1 : AllK k (ms.set a (Km414.plus (ms.getD a none6) (Km414.side0 s (ms.getD (6 + i) none6)))) := h.set ((h a).plus ((h (6 + i)).side0 s)) a
 exact h1.set ((h1 b).plus ((h (6 + i)).side1 s)) b
theorem AllK.thru {k : Nat} (sets : List Nat) : ∀ (l : List Machine) (i : Nat) {p : List Mix}, AllK k p → AllK k (thruC sets l i p)
 | [], _, _, h => h
 | x :: l, i, p, h => AllK.thru sets l (i + 1) (h.part i x.a x.b _)
theorem AllK.put {k : Nat} (ms : List Machine) (sets : List Nat) (n : Nat) : AllK k (putC ms sets (none6.set k n)) :=
 AllK.thru sets ms 0 (AllK.set (fun i => by rw [rep_getD]; exact OneK.none k) (OneK.only n) _)
theorem OneK.sum {k : Nat} {m : Mix} (h : OneK k m) (hk : k < 6) : Km414.sum m = m.getD k 0 := by
 obtain ⟨hl, hz⟩ := h
 match m, hl with
 | [a0, a1, a2, a3, a4, a5], _ =>
  have z0 := hz 0
  have z1 := hz 1
  have z2 := hz 2
  have z3 := hz 3
  have z4 := hz 4
  have z5 := hz 5
  rw [sum6]
  have : k = 0 ∨ k = 1 ∨ k = 2 ∨ k = 3 ∨ k = 4 ∨ k = 5 := by omega
  rcases this with rfl | rfl | rfl | rfl | rfl | rfl <;> simp at * <;> omega
theorem goes_eq {w : Works} (hn : w.machines.length ≤ 5) (hb : BeltsOk w.machines) {k n : Nat} (hk : k < 6) : (w.flow w.sets (none6.set k n)).2.map Km414.sum = ((putC w.machines w.sets (none6.set k n)).take 6).map fun m => m.getD k 0 := by
 rw [(flow_eq hn hb w.sets (by simp [none6_len])).1]
 refine List.map_congr_left fun m hm => ?_
 obtain ⟨i, hi⟩ := List.getElem?_of_mem hm
 have h6 : i < 6 := by have := (List.getElem?_eq_some_iff.mp hi).1; rw [List.length_take] at this; omega
 have e : (putC w.machines w.sets (none6.set k n)).getD i none6 = m := by
  rw [← take_getD _ h6, List.getD_eq_getElem?_getD, hi]; rfl
 have := AllK.put (k := k) w.machines w.sets n i
 rw [e] at this
 exact this.sum hk
theorem choices_from : ∀ (l : List Machine) (r : List (List Nat)), (l.foldl (fun r x => r.flatMap fun s => (List.range x.settings.length).map fun k => s ++ [k]) r).length = l.foldl (fun n x => n * x.settings.length) r.length
 | [], _ => rfl
 | x :: l, r => by
  rw [List.foldl_cons, choices_from l, List.foldl_cons]
  refine congrArg (fun z => List.foldl _ z l) ?_
  induction r with
  | nil => simp
  | cons a q ih => rw [List.flatMap_cons, List.length_append, ih, List.length_map, List.length_range, List.length_cons, Nat.add_mul]; omega
theorem choices_len (w : Works) : w.choices.length = w.machines.foldl (fun n x => n * x.settings.length) 1 := choices_from w.machines [[]]
theorem fold_plus {k : Nat} (hk : k < 6) : ∀ (l : List Mix) (a : Mix), (l.foldl plus a).getD k 0 = a.getD k 0 + (l.map fun m => m.getD k 0).sum
 | [], a => by simp
 | m :: l, a => by rw [List.foldl_cons, fold_plus hk l, plus_getD a m hk, List.map_cons, List.sum_cons]; omega
theorem side1_getD (p m : List Nat) {k : Nat} (hk : k < 6) : (side1 p m).getD k 0 = m.getD k 0 - (side0 p m).getD k 0 := by
 show ((List.range 6).map _).getD k 0 = m.getD k 0 - ((List.range 6).map _).getD k 0
 rw [rng6, rng6, if_pos hk, if_pos hk]
end Sb
end
section
namespace Sb
open PySem PySem.Spec L2 SX PyProof.Rows
section
variable {α β : Type} {R R' : α → β → Prop}
theorem pd_get : ∀ {l : List α} {m : List β}, Paired R l m → ∀ {i : Nat} {a : α}, l[i]? = some a → ∃ b, m[i]? = some b ∧ R a b
 | _, _, .nil, i, a, h => by simp at h
 | _, _, .cons r t, 0, a, h => by simp at h; subst h; exact ⟨_, rfl, r⟩
 | _, _, .cons r t, i + 1, a, h => by
  obtain ⟨b, h1, h2⟩ := pd_get t (i := i) (a := a) (by simpa using h)
  exact ⟨b, by simpa using h1, h2⟩
theorem pd_get' : ∀ {l : List α} {m : List β}, Paired R l m → ∀ {i : Nat} {b : β}, m[i]? = some b → ∃ a, l[i]? = some a ∧ R a b
 | _, _, .nil, i, a, h => by simp at h
 | _, _, .cons r t, 0, a, h => by simp at h; subst h; exact ⟨_, rfl, r⟩
 | _, _, .cons r t, i + 1, a, h => by
  obtain ⟨b, h1, h2⟩ := pd_get' t (i := i) (b := a) (by simpa using h)
  exact ⟨b, by simpa using h1, h2⟩
theorem pd_set {a : α} {b : β} (r : R a b) : ∀ {l : List α} {m : List β} (i : Nat), Paired R l m → Paired R (l.set i a) (m.set i b)
 | _, _, _, .nil => .nil
 | _, _, 0, .cons _ t => .cons r t
 | _, _, i + 1, .cons q t => .cons q (pd_set r i t)
theorem pd_app : ∀ {l l' : List α} {m m' : List β}, Paired R l m → Paired R l' m' → Paired R (l ++ l') (m ++ m')
 | _, _, _, _, .nil, h => h
 | _, _, _, _, .cons r t, h => .cons r (pd_app t h)
theorem pd_imp (f : ∀ a b, R a b → R' a b) : ∀ {l : List α} {m : List β}, Paired R l m → Paired R' l m
 | _, _, .nil => .nil
 | _, _, .cons r t => .cons (f _ _ r) (pd_imp f t)
theorem pd_len : ∀ {l : List α} {m : List β}, Paired R l m → l.length = m.length
 | _, _, .nil => rfl
 | _, _, .cons _ t => congrArg (· + 1) (pd_len t)
theorem pd_rep {a : α} {b : β} (r : R a b) : ∀ n : Nat, Paired R (List.replicate n a) (List.replicate n b)
 | 0 => .nil
 | n + 1 => .cons r (pd_rep r n)
theorem pd_drop : ∀ {l : List α} {m : List β} (n : Nat), Paired R l m → Paired R (l.drop n) (m.drop n)
 | _, _, 0, h => h
 | _, _, _ + 1, .nil => .nil
 | _, _, n + 1, .cons _ t => pd_drop n t
end
def nts (m : List Nat) : List V := m.map fun (n : Nat) => V.int ((n : Nat) : Int)
theorem nts_len (m : List Nat) : (nts m).length = m.length := by simp [nts]
theorem nts_eq (m : List Nat) : nts m = (m.map fun (n : Nat) => ((n : Nat) : Int)).map V.int := by simp [nts]
theorem nts_at {m : List Nat} {i : Nat} (h : i < m.length) : (nts m)[i]? = some (V.int ((m.getD i 0 : Nat) : Int)) := by
 unfold nts
 rw [List.getElem?_map, List.getElem?_eq_getElem h, List.getD_eq_getElem?_getD, List.getElem?_eq_getElem h]
 rfl
theorem foldl_add (l : List Nat) : ∀ a, l.foldl (· + ·) a = a + l.sum := by
 induction l with
 | nil => intro a; simp
 | cons x r ih => intro a; rw [List.foldl_cons, ih, List.sum_cons]; omega
theorem ksum_eq (l : List Nat) : Km414.sum l = l.sum := by unfold Km414.sum; rw [foldl_add]; omega
theorem isum (l : List Nat) : (l.map fun (n : Nat) => ((n : Nat) : Int)).sum = ((Km414.sum l : Nat) : Int) := by
 rw [ksum_eq]
 induction l with
 | nil => rfl
 | cons x r ih => rw [List.map_cons, List.sum_cons, ih, List.sum_cons]; omega
def MixAt (K : PySem.W.Frag) (H : Hp) (a : Addr) (m : List Nat) : Prop := SqT K H a (nts m) ∧ m.length = 6
theorem MixAt.same {K : PySem.W.Frag} {H H' : Hp} {a : Addr} {m : List Nat} (s : Same H H') (h : MixAt K H a m) : MixAt K H' a m := ⟨SqT.same s h.1, h.2⟩
def mfs (a b c d : V) : List (Str × V) := [("most", a), ("settings", b), ("chosen", c), ("belts", d)]
structure MachAt (t : Ad) (K : PySem.W.Frag) (H : Hp) (p : Addr) (x : Km414.Machine) : Prop where
 ob : ∃ dx sa ba ss, H p = some (.ins t.c_Machine dx (mfs (.int (x.most : Nat)) (.ref sa) (.int (x.now : Nat)) (.ref ba))) ∧ SqT K H sa (ss.map V.ref) ∧ Paired (MixAt K H) ss x.settings ∧ SqT K H ba [.int (x.a : Nat), .int (x.b : Nat)]
def bfs (a b c d e : V) : List (Str × V) := [("kind", a), ("pure", b), ("price", c), ("most", d), ("mix", e)]
structure BayAt (t : Ad) (K : PySem.W.Frag) (H : Hp) (p : Addr) (b : Km414.Bay) : Prop where
 ob : ∃ dx ma, H p = some (.ins t.c_Bay dx (bfs (.int (b.kind : Nat)) (.int (b.pure_ : Nat)) (.int (b.price : Nat)) (.int (b.most : Nat)) (.ref ma))) ∧ MixAt K H ma b.mix
theorem MachAt.same {t : Ad} {K : PySem.W.Frag} {H H' : Hp} {p : Addr} {x : Km414.Machine} (s : Same H H') (h : MachAt t K H p x) : MachAt t K H' p x := by
 obtain ⟨dx, sa, ba, ss, h1, h2, h3, h4⟩ := h.ob
 exact ⟨dx, sa, ba, ss, s _ _ h1, SqT.same s h2, pd_imp (fun _ _ q => q.same s) h3, SqT.same s h4⟩
theorem BayAt.same {t : Ad} {K : PySem.W.Frag} {H H' : Hp} {p : Addr} {x : Km414.Bay} (s : Same H H') (h : BayAt t K H p x) : BayAt t K H' p x := by
 obtain ⟨dx, ma, h1, h2⟩ := h.ob
 exact ⟨dx, ma, s _ _ h1, h2.same s⟩
def MachsAt (t : Ad) (K : PySem.W.Frag) (H : Hp) (l : Addr) (xs : List Km414.Machine) : Prop := ∃ ps, SqL K H l (ps.map V.ref) ∧ Paired (MachAt t K H) ps xs
def BaysAt (t : Ad) (K : PySem.W.Frag) (H : Hp) (l : Addr) (xs : List Km414.Bay) : Prop := ∃ ps, SqL K H l (ps.map V.ref) ∧ Paired (BayAt t K H) ps xs
def MixesAt (K : PySem.W.Frag) (H : Hp) (l : Addr) (ms : List (List Nat)) : Prop := ∃ ps, H l = some (.lst (ps.map V.ref)) ∧ Paired (MixAt K H) ps ms
theorem MachsAt.same {t : Ad} {K : PySem.W.Frag} {H H' : Hp} {l : Addr} {xs : List Km414.Machine} (s : Same H H') (h : MachsAt t K H l xs) : MachsAt t K H' l xs := by
 obtain ⟨ps, h1, h2⟩ := h
 exact ⟨ps, Same.seq s h1, pd_imp (fun _ _ q => q.same s) h2⟩
theorem MixesAt.same {K : PySem.W.Frag} {H H' : Hp} {l : Addr} {xs : List (List Nat)} (s : Same H H') (h : MixesAt K H l xs) : MixesAt K H' l xs := by
 obtain ⟨ps, h1, h2⟩ := h
 exact ⟨ps, s _ _ h1, pd_imp (fun _ _ q => q.same s) h2⟩
def KF (F : Addr → Prop) (H H' : Hp) : Prop := ∀ c o, H c = some o → ¬ F c → H' c = some o
theorem KF.same {F : Addr → Prop} {H H' : Hp} (s : Same H H') : KF F H H' := fun c o h _ => s c o h
theorem KF.trans {F : Addr → Prop} {H H1 H2 : Hp} (a : KF F H H1) (b : KF F H1 H2) : KF F H H2 := fun c o h n => b c o (a c o h n) n
theorem KF.upd {F : Addr → Prop} {H : Hp} {l : Addr} {o : HO} (h : F l) : KF F H (L2.upd H l o) := fun c u e n => by
 have hc : c ≠ l := fun z => n (by rw [z]; exact h)
 rw [upd_ne hc]; exact e
theorem KF.mono {F F' : Addr → Prop} {H H' : Hp} (a : KF F H H') (h : ∀ c, F c → F' c) : KF F' H H' := fun c o e n => a c o e fun z => n (h c z)
def Wr (H : Hp) (c : Addr) : Prop := (∃ xs, H c = some (.lst xs)) ∨ ∃ C dx fs, H c = some (.ins C dx fs)
theorem Wr.tup {H : Hp} {c a : Addr} {xs : List V} (h : Wr H c) (e : H a = some (.tup xs)) : a ≠ c := by
 rcases h with ⟨_, h⟩ | ⟨_, _, _, h⟩
 ·exact ne_of e h (by intro y; cases y)
 ·exact ne_of e h (by intro y; cases y)
theorem Wr.frz {H : Hp} {c a : Addr} {o : Obj} {u : HO} (h : Wr H c) (e : H a = some (.frz o u)) : a ≠ c := by
 rcases h with ⟨_, h⟩ | ⟨_, _, _, h⟩
 ·exact ne_of e h (by intro y; cases y)
 ·exact ne_of e h (by intro y; cases y)
theorem Wr.lst {H : Hp} {l : Addr} {xs : List V} (h : H l = some (.lst xs)) : ∀ c, c = l → Wr H c := fun c e => by subst e; exact .inl ⟨xs, h⟩
theorem SqT.kf {F : Addr → Prop} {K : PySem.W.Frag} {H H' : Hp} {a : Addr} {xs : List V} (k : KF F H H') (hF : ∀ c, F c → Wr H c) (h : SqT K H a xs) : SqT K H' a xs := by
 rcases h with (h | ⟨o, h⟩) | h
 ·exact .inl (.inl (k _ _ h fun z => (hF a z).tup h rfl))
 ·exact .inl (.inr ⟨o, k _ _ h fun z => (hF a z).frz h rfl⟩)
 ·exact .inr h
theorem SqL.kf {F : Addr → Prop} {K : PySem.W.Frag} {H H' : Hp} {a : Addr} {xs : List V} (k : KF F H H') (hF : ¬ F a) (h : SqL K H a xs) : SqL K H' a xs := by
 rcases h with (h | ⟨o, h⟩) | h
 ·exact .inl (.inl (k _ _ h hF))
 ·exact .inl (.inr ⟨o, k _ _ h hF⟩)
 ·exact .inr h
theorem MixAt.kf {F : Addr → Prop} {K : PySem.W.Frag} {H H' : Hp} {a : Addr} {m : List Nat} (k : KF F H H') (hF : ∀ c, F c → Wr H c) (h : MixAt K H a m) : MixAt K H' a m := ⟨SqT.kf k hF h.1, h.2⟩
theorem MachAt.kf {F : Addr → Prop} {t : Ad} {K : PySem.W.Frag} {H H' : Hp} {p : Addr} {x : Km414.Machine} (k : KF F H H') (hF : ∀ c, F c → Wr H c) (hp : ¬ F p) (h : MachAt t K H p x) : MachAt t K H' p x := by
 obtain ⟨dx, sa, ba, ss, h1, h2, h3, h4⟩ := h.ob
 exact ⟨dx, sa, ba, ss, k _ _ h1 hp, SqT.kf k hF h2, pd_imp (fun _ _ q => q.kf k hF) h3, SqT.kf k hF h4⟩
theorem BayAt.kf {F : Addr → Prop} {t : Ad} {K : PySem.W.Frag} {H H' : Hp} {p : Addr} {x : Km414.Bay} (k : KF F H H') (hF : ∀ c, F c → Wr H c) (hp : ¬ F p) (h : BayAt t K H p x) : BayAt t K H' p x := by
 obtain ⟨dx, ma, h1, h2⟩ := h.ob
 exact ⟨dx, ma, k _ _ h1 hp, h2.kf k hF⟩
theorem plus_len (x y : List Nat) : (Km414.plus x y).length = 6 := by simp [Km414.plus, Km414.KINDS]
theorem side0_len (p m : List Nat) : (Km414.side0 p m).length = 6 := by simp [Km414.side0, Km414.KINDS]
end Sb
end
namespace Sb
open PySem PySem.Spec L2 SX PyProof.Rows
open Km414 (Mix none6 plus side0 side1 Machine Bay Bale Works Desk)
section
variable {P : Program} {w : World} {K : PySem.W.Frag} {mg : Str → Option Value} {base : Heap} {t : Ad}
def spZ6 (K : PySem.W.Frag) (f : List Nat → List Nat → List Nat) (C : List Nat → List Nat → Prop) : Sp := fun vs H Q _ => ∃ (t1 t2 : Bool) (a b : Addr) (x y : List Nat), vs = [.ref a, .ref b] ∧ SqK t1 K H a (nts x) ∧ SqK t2 K H b (nts y) ∧ x.length = 6 ∧ y.length = 6 ∧ C x y ∧
 ∀ p H', Same H H' → MixAt K H' p (f x y) → Q (.ref p) H'
theorem small6 : (6 : Nat) < sizeLine := by decide
theorem ok_added (T : Txt K mg t) : FnOk P w K mg base CX0 1 t.added.f t.added.d ["mix", "other"] (spZ6 K Km414.plus fun _ _ => True) := by
 refine T.added.fn.ok sc_added (fun vs H Q E h => ?_) (fun cdv A outer s H vs Q E hr h => ?_)
 ·obtain ⟨t1, t2, a, b, x, y, rfl, _⟩ := h
  rfl
 ·obtain ⟨t1, t2, a, b, x, y, rfl, h1, h2, l1, l2, -, k⟩ := h
  refine ⟨_, (pss_one (ps_ret (pe_callTy (call_tupleK (K := K)) (by rfl) T.n_tuple boot_tuple (pa_cons (pe_lc rfl sc_added.nd (pzip (K := K) t1 t2 (by rfl) T.n_zip (pa_cons (pv 0) (pa_cons (pv 1) pa_nil))) (own := [("kg", 2), ("more", 3)]) (blkOk_by (by rfl)) (fun _ _ _ _ _ => (pg_tupB (n := 2) rfl (pgs_cons (pg_name (i := 2) sc_added.nd rfl (Or.inl rfl) (Or.inr rfl)) (pgs_cons (pg_name (i := 3) sc_added.nd rfl (Or.inl rfl) (Or.inr rfl)) pgs_nil)))) (fun _ _ _ _ _ => pts_nil) (fun _ _ _ _ _ => (pe_op op_add (pv 2) (pv 3)))) pa_nil)))), ?_⟩
  refine ⟨_, rfl, _, rfl, a, b, _, _, rfl, h1, h2, fun D hD => ?_⟩
  refine lc_zipMap (xs := nts x) (ys := nts y) (fun i => V.int ((x.getD i 0 : Nat) + (y.getD i 0 : Nat))) hD h1 h2 (by rw [nts_len, nts_len, l1, l2]; exact small6) ?_ ?_
  ·intro i u v T H2 R Z hx hy s2 hT kR
   have i1 : i < 6 := by have := (List.getElem?_eq_some_iff.mp hx).1; rw [nts_len, l1] at this; exact this
   rw [nts_at (by omega)] at hx hy
   cases hx
   cases hy
   exact ⟨T, _, rfl, SqT.of upd_same, rfl, _, _, rfl, _, _, rfl, rfl, rfl, _, rfl, _, rfl, _, _, rfl, rfl, kR _ (Same.refl _)⟩
  ·intro H2 s2 hD2
   refine ⟨D, _, rfl, .inl ⟨SqL.of hD2, fun l hl => ?_⟩⟩
   refine k l _ (s2.trans (Same.new hl)) ⟨SqT.of ?_, plus_len _ _⟩
   rw [upd_same, nts_len, nts_len, l1, l2]
   simp [nts, Km414.plus, Km414.KINDS]
theorem ok_lessened (T : Txt K mg t) : FnOk P w K mg base CX0 1 t.lessened.f t.lessened.d ["mix", "part"] (spZ6 K (fun x y => (List.range 6).map fun k => x.getD k 0 - y.getD k 0) fun x y => ∀ k, y.getD k 0 ≤ x.getD k 0) := by
 refine T.lessened.fn.ok sc_lessened (fun vs H Q E h => ?_) (fun cdv A outer s H vs Q E hr h => ?_)
 ·obtain ⟨t1, t2, a, b, x, y, rfl, _⟩ := h
  rfl
 ·obtain ⟨t1, t2, a, b, x, y, rfl, h1, h2, l1, l2, hc, k⟩ := h
  refine ⟨_, (pss_one (ps_ret (pe_callTy (call_tupleK (K := K)) (by rfl) T.n_tuple boot_tuple (pa_cons (pe_lc rfl sc_lessened.nd (pzip (K := K) t1 t2 (by rfl) T.n_zip (pa_cons (pv 0) (pa_cons (pv 1) pa_nil))) (own := [("kg", 2), ("gone", 3)]) (blkOk_by (by rfl)) (fun _ _ _ _ _ => (pg_tupB (n := 2) rfl (pgs_cons (pg_name (i := 2) sc_lessened.nd rfl (Or.inl rfl) (Or.inr rfl)) (pgs_cons (pg_name (i := 3) sc_lessened.nd rfl (Or.inl rfl) (Or.inr rfl)) pgs_nil)))) (fun _ _ _ _ _ => pts_nil) (fun _ _ _ _ _ => (pe_op op_sub (pv 2) (pv 3)))) pa_nil)))), ?_⟩
  refine ⟨_, rfl, _, rfl, a, b, _, _, rfl, h1, h2, fun D hD => ?_⟩
  refine lc_zipMap (xs := nts x) (ys := nts y) (fun i => V.int ((x.getD i 0 : Nat) - (y.getD i 0 : Nat))) hD h1 h2 (by rw [nts_len, nts_len, l1, l2]; exact small6) ?_ ?_
  ·intro i u v T H2 R Z hx hy s2 hT kR
   have i1 : i < 6 := by have := (List.getElem?_eq_some_iff.mp hx).1; rw [nts_len, l1] at this; exact this
   rw [nts_at (by omega)] at hx hy
   cases hx
   cases hy
   exact ⟨T, _, rfl, SqT.of upd_same, rfl, _, _, rfl, _, _, rfl, rfl, rfl, _, rfl, _, rfl, _, _, rfl, rfl, kR _ (Same.refl _)⟩
  ·intro H2 s2 hD2
   refine ⟨D, _, rfl, .inl ⟨SqL.of hD2, fun l hl => ?_⟩⟩
   refine k l _ (s2.trans (Same.new hl)) ⟨SqT.of ?_, by simp⟩
   rw [upd_same, nts_len, nts_len, l1, l2]
   unfold nts
   rw [List.map_map]
   refine congrArg (fun z => some (HO.tup z)) (List.map_congr_left fun i hi => ?_)
   have := hc i
   show V.int (((x.getD i 0 : Nat) : Int) - ((y.getD i 0 : Nat) : Int)) = V.int ((x.getD i 0 - y.getD i 0 : Nat) : Int)
   refine congrArg V.int ?_
   omega
theorem ok_parted (T : Txt K mg t) : FnOk P w K mg base CX0 1 t.parted.f t.parted.d ["mix", "setting"] (spZ6 K (fun m p => Km414.side0 p m) fun _ p => ∀ k, p.getD k 0 ≤ 1000) := by
 refine T.parted.fn.ok sc_parted (fun vs H Q E h => ?_) (fun cdv A outer s H vs Q E hr h => ?_)
 ·obtain ⟨t1, t2, a, b, x, y, rfl, _⟩ := h
  rfl
 ·obtain ⟨t1, t2, a, b, x, y, rfl, h1, h2, l1, l2, hc, k⟩ := h
  refine ⟨_, (pss_one (ps_ret (pe_callTy (call_tupleK (K := K)) (by rfl) T.n_tuple boot_tuple (pa_cons (pe_lc rfl sc_parted.nd (pzip (K := K) t1 t2 (by rfl) T.n_zip (pa_cons (pv 0) (pa_cons (pv 1) pa_nil))) (own := [("kg", 2), ("share", 3)]) (blkOk_by (by rfl)) (fun _ _ _ _ _ => (pg_tupB (n := 2) rfl (pgs_cons (pg_name (i := 2) sc_parted.nd rfl (Or.inl rfl) (Or.inr rfl)) (pgs_cons (pg_name (i := 3) sc_parted.nd rfl (Or.inl rfl) (Or.inr rfl)) pgs_nil)))) (fun _ _ _ _ _ => pts_nil) (fun _ _ _ _ _ => (pe_op op_fdiv (pe_op op_mul (pv 2) (pv 3)) (pgI T.g_THOUSAND)))) pa_nil)))), ?_⟩
  refine ⟨_, rfl, _, rfl, a, b, _, _, rfl, h1, h2, fun D hD => ?_⟩
  refine lc_zipMap (xs := nts x) (ys := nts y) (fun i => V.int ((x.getD i 0 : Nat) * (y.getD i 0 : Nat) / 1000)) hD h1 h2 (by rw [nts_len, nts_len, l1, l2]; exact small6) ?_ ?_
  ·intro i u v T H2 R Z hx hy s2 hT kR
   have i1 : i < 6 := by have := (List.getElem?_eq_some_iff.mp hx).1; rw [nts_len, l1] at this; exact this
   rw [nts_at (by omega)] at hx hy
   cases hx
   cases hy
   have := hc i
   exact ⟨T, _, rfl, SqT.of upd_same, rfl, _, _, rfl, _, _, rfl, rfl, rfl, _, rfl, _, rfl, _, _, rfl, rfl, .inr ⟨by omega, by omega⟩, _, _, rfl, rfl, ⟨by decide, by decide⟩, kR _ (Same.refl _)⟩
  ·intro H2 s2 hD2
   refine ⟨D, _, rfl, .inl ⟨SqL.of hD2, fun l hl => ?_⟩⟩
   refine k l _ (s2.trans (Same.new hl)) ⟨SqT.of ?_, side0_len _ _⟩
   rw [upd_same, nts_len, nts_len, l1, l2]
   simp [nts, Km414.side0, Km414.KINDS]
def spOnly (K : PySem.W.Frag) : Sp := fun vs H Q _ => ∃ (k n : Nat), vs = [.int (k : Nat), .int (n : Nat)] ∧ k < 6 ∧ ∀ p H', Same H H' → MixAt K H' p (Km414.none6.set k n) → Q (.ref p) H'
theorem ok_only (T : Txt K mg t) : FnOk P w K mg base CX0 1 t.only.f t.only.d ["kind", "kg"] (spOnly K) := by
 refine T.only.fn.ok sc_only (fun vs H Q E h => ?_) (fun cdv A outer s H vs Q E hr h => ?_)
 ·obtain ⟨k, n, rfl, _⟩ := h
  rfl
 ·obtain ⟨k, n, rfl, hk, q⟩ := h
  refine ⟨_, (pss_one (ps_ret (pe_callTy (call_tupleK (K := K)) (by rfl) T.n_tuple boot_tuple (pa_cons (pe_lc rfl sc_only.nd (pi_range1 (by rfl) T.n_range (pa_cons (pgI T.g_KINDS) pa_nil)) (own := [("other", 2)]) (blkOk_by (by rfl)) (fun _ _ _ _ _ => (pg_name (i := 2) sc_only.nd rfl (Or.inl rfl) (Or.inr rfl))) (fun _ _ _ _ _ => pts_nil) (fun _ _ _ _ _ => (pe_ifExp (pt_cmpR op_eq (pv 2) (pv 0) (nomark _)) (pv 1) pe_int))) pa_nil)))), ?_⟩
  refine ⟨_, rfl, by omega, by omega, fun D hD => ?_⟩
  refine lc_rangeMap (fun i => V.int (((if i = k then n else 0 : Nat) : Nat) : Int)) hD (by exact Nat.lt_of_le_of_lt (show (6 : Int).toNat ≤ 6 by decide) (by decide)) ?_ ?_
  ·intro i H2 R Z hi s2 kR
   refine ⟨rfl, _, rfl, _, rfl, rfl, ?_⟩
   refine ⟨_, rfl, ite2 (fun c => ?_) (fun c => ?_)⟩
   ·simp only [decide_eq_true_eq, V.int.injEq] at c
    rw [if_pos (by omega)] at kR
    exact ⟨_, rfl, kR _ (Same.refl _)⟩
   ·simp only [decide_eq_true_eq, V.int.injEq] at c
    rw [if_neg (by omega)] at kR
    exact kR _ (Same.refl _)
  ·intro H2 s2 hD2
   refine ⟨D, _, rfl, .inl ⟨SqL.of hD2, fun l hl => ?_⟩⟩
   refine q l _ (s2.trans (Same.new hl)) ⟨SqT.of ?_, by simp [none6_len]⟩
   rw [upd_same]
   have : k = 0 ∨ k = 1 ∨ k = 2 ∨ k = 3 ∨ k = 4 ∨ k = 5 := by omega
   rcases this with rfl | rfl | rfl | rfl | rfl | rfl <;> rfl
def spGood (t : Ad) (K : PySem.W.Frag) : Sp := fun vs H Q _ => ∃ (p ma : Addr) (b : Km414.Bay) (m : List Nat) (h : Nat), vs = [.ref p, .ref ma, .int (h : Nat)] ∧ BayAt t K H p b ∧ MixAt K H ma m ∧ b.kind < 6 ∧ b.pure_ ≤ 1000 ∧ Q (.bl (b.good h m)) H
theorem MixAt.sum {H : Hp} {a : Addr} {m : List Nat} (h : MixAt K H a m) : SqK true K H a ((m.map fun (n : Nat) => ((n : Nat) : Int)).map V.int) := by
 rw [← nts_eq]; exact h.1
theorem good_iff (b : Km414.Bay) (h : Nat) (m : List Nat) : b.good h m = true ↔ 0 < Km414.sum m ∧ b.pure_ * Km414.sum m ≤ 1000 * m.getD b.kind 0 ∧ m.getD h 0 = 0 := by
 unfold Km414.Bay.good
 simp only [Bool.and_eq_true, decide_eq_true_eq]
theorem atN {xs : List V} {i : Nat} {v : V} (h : xs[i]? = some v) : atI xs ((i : Nat) : Int) = some v := atI_nat h
theorem good_fin {b : Km414.Bay} {h : Nat} {m : List Nat} (h1 : 0 < Km414.sum m) (h2 : m.getD h 0 = 0) : decide (((b.pure_ : Nat) : Int) * ((Km414.sum m : Nat) : Int) ≤ 1000 * ((m.getD b.kind 0 : Nat) : Int)) = b.good h m := by
 rw [Bool.eq_iff_iff, good_iff, decide_eq_true_eq]
 constructor
 ·intro z
  refine ⟨h1, ?_, h2⟩
  exact_mod_cast z
 ·rintro ⟨_, z, _⟩
  exact_mod_cast z
theorem ok_is_good (T : Txt K mg t) : FnOk P w K mg base CX0 1 t.is_good.f t.is_good.d ["bay", "mix", "harm"] (spGood t K) := by
 refine T.is_good.fn.ok sc_is_good (fun vs H Q E h => ?_) (fun cdv A outer s H vs Q E hr h => ?_)
 ·obtain ⟨p, ma, b, m, h, rfl, _⟩ := h
  rfl
 ·obtain ⟨p, ma, b, m, h, rfl, hb, hm, hk, hp, q⟩ := h
  obtain ⟨dx, mb, ob, -⟩ := hb.ob
  refine ⟨_, (pss_cons (ps_set (i := 3) sc_is_good.nd rfl (Or.inl rfl) (pe_callB (cr_sumTK (K := K) rfl) (by rfl) T.n_sum boot_sum (pa_cons (pv 1) pa_nil))) (pss_cons (ps_if (pt_cmpR op_eq (pv 3) pe_int (nomark _)) (pss_one (ps_ret pe_bl)) pss_nil) (pss_cons (ps_if (PW.pt (pw_and (pt_cmpR op_lt (pv 2) (pgI T.g_KINDS) (nomark _)) (pw_and1 (pt_cmpR op_gt (pe_ix (ix_tupK (K := K)) (pv 1) (pv 2) (fun _ _ => rfl)) pe_int (nomark _))))) (pss_one (ps_ret pe_bl)) pss_nil) (pss_one (ps_ret (pe_cmpR op_ge (pe_op op_mul (pgI T.g_THOUSAND) (pe_ix (ix_tupK (K := K)) (pv 1) (pfld (K := K) (pv 0)) (fun _ _ => rfl))) (pe_op op_mul (pfld (K := K) (pv 0)) (pv 3)) (nomark _))))))), ?_⟩
  refine ⟨_, rfl, ma, _, rfl, hm.sum, _, rfl, rfl, _, rfl, ite2 (fun c => ?_) (fun c => ?_)⟩
  ·rw [isum, decide_eq_true_eq] at c
   have e : b.good h m = false := by
    rw [Bool.eq_false_iff]; intro z
    have := ((good_iff _ _ _).mp z).1
    simp only [V.int.injEq] at c; omega
   rw [e] at q
   exact q
  ·rw [isum, decide_eq_true_eq] at c
   simp only [V.int.injEq] at c
   refine ⟨_, rfl, _, _, rfl, rfl, _, rfl, ?_⟩
   by_cases c1 : h < 6
   ·have c1' : ((h : Nat) : Int) < 6 := by omega
    rw [decide_eq_true c1']
    refine ⟨_, rfl, _, rfl, ma, _, _, _, rfl, rfl, hm.1, atN (nts_at (by rw [hm.2]; exact c1)), _, _, rfl, rfl, _, rfl, ite2 (fun c2 => ?_) (fun c2 => ?_)⟩
    ·rw [decide_eq_true_eq] at c2
     have e : b.good h m = false := by
      rw [Bool.eq_false_iff]; intro z
      have := ((good_iff _ _ _).mp z).2.2
      omega
     rw [e] at q
     exact q
    ·rw [decide_eq_true_eq] at c2
     refine ⟨_, rfl, _, rfl, p, t.c_Bay, dx, _, _, rfl, ob, T.Bay.cl, T.na_Bay_kind, rfl, ma, _, _, _, rfl, rfl, hm.1, atN (nts_at (by rw [hm.2]; exact hk)), _, _, rfl, rfl, .inl ⟨by decide, by decide⟩, _, rfl, p, t.c_Bay, dx, _, _, rfl, ob, T.Bay.cl, T.na_Bay_pure, rfl, _, rfl, _, _, rfl, rfl, .inl ⟨by omega, by omega⟩, _, _, rfl, rfl, ?_⟩
     dsimp only
     rw [isum, good_fin (h := h) (by omega) (by omega)]
     exact q
   ·have c1' : ¬ ((h : Nat) : Int) < 6 := by omega
    have e0 : m.getD h 0 = 0 := by
     rw [List.getD_eq_getElem?_getD, List.getElem?_eq_none (by rw [hm.2]; omega)]; rfl
    rw [decide_eq_false c1']
    refine ⟨_, rfl, _, rfl, p, t.c_Bay, dx, _, _, rfl, ob, T.Bay.cl, T.na_Bay_kind, rfl, ma, _, _, _, rfl, rfl, hm.1, atN (nts_at (by rw [hm.2]; exact hk)), _, _, rfl, rfl, .inl ⟨by decide, by decide⟩, _, rfl, p, t.c_Bay, dx, _, _, rfl, ob, T.Bay.cl, T.na_Bay_pure, rfl, _, rfl, _, _, rfl, rfl, .inl ⟨by omega, by omega⟩, _, _, rfl, rfl, ?_⟩
    dsimp only
    rw [isum, good_fin (h := h) (by omega) (by omega)]
    exact q
def spMoney (t : Ad) (K : PySem.W.Frag) : Sp := fun vs H Q _ => ∃ (p ma : Addr) (b : Km414.Bay) (m : List Nat), vs = [.ref p, .ref ma] ∧ BayAt t K H p b ∧ MixAt K H ma m ∧ b.price ≤ 10000 ∧ Q (.int (b.money m : Nat)) H
theorem ok_brought (T : Txt K mg t) : FnOk P w K mg base CX0 1 t.brought.f t.brought.d ["bay", "mix"] (spMoney t K) := by
 refine T.brought.fn.ok sc_brought (fun vs H Q E h => ?_) (fun cdv A outer s H vs Q E hr h => ?_)
 ·obtain ⟨p, ma, b, m, rfl, _⟩ := h
  rfl
 ·obtain ⟨p, ma, b, m, rfl, hb, hm, hp, q⟩ := h
  obtain ⟨dx, mb, ob, -⟩ := hb.ob
  refine ⟨_, (pss_one (ps_ret (pe_op op_fdiv (pe_op op_mul (pe_callB (cr_sumTK (K := K) rfl) (by rfl) T.n_sum boot_sum (pa_cons (pv 1) pa_nil)) (pfld (K := K) (pv 0))) (pgI T.g_THOUSAND)))), ?_⟩
  refine ⟨_, rfl, ma, _, rfl, hm.sum, _, rfl, p, t.c_Bay, dx, _, _, rfl, ob, T.Bay.cl, T.na_Bay_price, rfl, _, _, rfl, rfl, .inr ⟨by omega, by omega⟩, _, _, rfl, rfl, ⟨by decide, by decide⟩, ?_⟩
  rw [isum]
  have e : (((Km414.sum m : Nat) : Int) * ((b.price : Nat) : Int) / 1000) = ((b.money m : Nat) : Int) := by
   unfold Km414.Bay.money; omega
  dsimp only
  rw [e]
  exact q
theorem ixN_nat {n j : Nat} (h : j < n) : ixN n ((j : Nat) : Int) = some j := by
 unfold ixN
 rw [if_pos (by omega), if_pos (by omega)]
 simp
theorem nts_none6 : nts none6 = [.int 0, .int 0, .int 0, .int 0, .int 0, .int 0] := rfl
theorem nothingAt (T : Txt K mg t) (H : Hp) : MixAt K H t.c_NOTHING none6 := ⟨by rw [nts_none6]; exact T.q_NOTHING.sq H, none6_len⟩
theorem map_const {α : Type} (c : α) : ∀ n : Nat, (List.range n).map (fun _ => c) = List.replicate n c := fun n => by
 apply List.ext_getElem?
 intro i
 rw [List.getElem?_map, List.getElem?_replicate]
 by_cases h : i < n
 ·rw [List.getElem?_range h, if_pos h]; rfl
 ·rw [List.getElem?_eq_none (by simp; omega), if_neg h]; rfl
def spMixesOf (t : Ad) (K : PySem.W.Frag) : Sp := fun vs H Q _ => ∃ (l : Addr) (bs : List Bay), vs = [.ref l] ∧ BaysAt t K H l bs ∧ bs.length ≤ 1000 ∧
 ∀ p H', Same H H' → H p = none → MixesAt K H' p (bMixes bs) → Q (.ref p) H'
theorem map_range_eq {α : Type} {f : Nat → α} {l : List α} {n : Nat} (hn : n = l.length) (h : ∀ i x, l[i]? = some x → f i = x) : (List.range n).map f = l := by
 subst hn
 apply List.ext_getElem?
 intro i
 rw [List.getElem?_map]
 by_cases c : i < l.length
 ·rw [List.getElem?_range c, List.getElem?_eq_getElem c]
  exact congrArg some (h i _ (List.getElem?_eq_getElem c))
 ·rw [List.getElem?_eq_none (by simp; omega), List.getElem?_eq_none (by omega)]; rfl
theorem bays_mixes {H : Hp} : ∀ {ps : List Addr} {bs : List Bay}, Paired (BayAt t K H) ps bs → ∃ as : List Addr, as.length = ps.length ∧ Paired (MixAt K H) as (bMixes bs) ∧ ∀ (i : Nat) (p : Addr), ps[i]? = some p → ∃ (a : Addr) (dx : Addr) (b : Bay), as[i]? = some a ∧ bs[i]? = some b ∧ H p = some (.ins t.c_Bay dx (bfs (.int (b.kind : Nat)) (.int (b.pure_ : Nat)) (.int (b.price : Nat)) (.int (b.most : Nat)) (.ref a)))
 | _, _, .nil => ⟨[], rfl, .nil, fun i p h => by simp at h⟩
 | _, _, .cons r q => by
  obtain ⟨dx, ma, ob, hm⟩ := r.ob
  obtain ⟨as, hl, hp, hf⟩ := bays_mixes q
  refine ⟨ma :: as, by simp [hl], .cons hm hp, fun i p h => ?_⟩
  cases i with
  | zero => simp at h; subst h; exact ⟨ma, dx, _, rfl, rfl, ob⟩
  | succ i => exact hf i p (by simpa using h)
theorem ok_mixes_of (T : Txt K mg t) : FnOk P w K mg base CX0 1 t.mixes_of.f t.mixes_of.d ["bays"] (spMixesOf t K) := by
 refine T.mixes_of.fn.ok sc_mixes_of (fun vs H Q E h => ?_) (fun cdv A outer s H vs Q E hr h => ?_)
 ·obtain ⟨l, bs, rfl, _⟩ := h
  rfl
 ·obtain ⟨l, bs, rfl, ⟨ps, h1, h2⟩, hk, q⟩ := h
  have lp := pd_len h2
  obtain ⟨as, la, ha, hf⟩ := bays_mixes h2
  refine ⟨_, (pss_one (ps_ret (pe_lc rfl sc_mixes_of.nd (plistI (K := K) (pv 0)) (own := [("bay", 1)]) (blkOk_by (by rfl)) (fun _ _ _ _ _ => (pg_name (i := 1) sc_mixes_of.nd rfl (Or.inl rfl) (Or.inr rfl))) (fun _ _ _ _ _ => pts_nil) (fun _ _ _ _ _ => (pfld (K := K) (pv 1)))))), ?_⟩
  refine ⟨_, rfl, l, rfl, ⟨_, h1⟩, fun D hD => ?_⟩
  refine lc_listMap (xs := ps.map V.ref) (fun i => V.ref (as.getD i 0)) hD h1 (by rw [List.length_map, lp]; exact Nat.lt_of_le_of_lt hk (by decide)) ?_ ?_
  ·intro i x H2 R Z hx s2 kR
   rw [List.getElem?_map] at hx
   obtain ⟨c, ec, rfl⟩ : ∃ c, ps[i]? = some c ∧ x = V.ref c := by
    cases e : ps[i]? with
    | none => rw [e] at hx; cases hx
    | some c => rw [e] at hx; exact ⟨c, rfl, (Option.some.inj hx).symm⟩
   obtain ⟨a, dx, b, ea, eb, ob⟩ := hf i c ec
   have e1 : as.getD i 0 = a := by rw [List.getD_eq_getElem?_getD, ea]; rfl
   rw [e1] at kR
   exact ⟨rfl, _, rfl, c, _, dx, _, _, rfl, s2 _ _ ob, T.Bay.cl, T.na_Bay_mix, rfl, kR _ (Same.refl _)⟩
  ·intro H2 s2 hD2
   refine q D H2 s2 hD ⟨as, ?_, pd_imp (fun _ _ z => z.same s2) ha⟩
   rw [hD2]
   refine congrArg (fun z => some (HO.lst z)) (map_range_eq (by simp [la]) fun i x hx => ?_)
   rw [List.getElem?_map] at hx
   cases e : as[i]? with
   | none => rw [e] at hx; cases hx
   | some c => rw [e] at hx; rw [List.getD_eq_getElem?_getD, e]; exact Option.some.inj hx
def spEnter (t : Ad) (K : PySem.W.Frag) : Sp := fun vs H Q _ => ∃ (h l a : Addr) (had : List Mix) (xs : List V) (m : Mix), vs = [.ref h, .ref l, .ref a] ∧ MixesAt K H h had ∧ had.length = 6 ∧ SqL K H l xs ∧ xs.length ≤ 1000 ∧ MixAt K H a m ∧
 ∀ p H', Same H H' → H p = none → MixesAt K H' p (enterH had xs.length m) → Q (.ref p) H'
theorem MixesAt.at_ {H : Hp} {l : Addr} {ms : List Mix} {ps : List Addr} (h2 : Paired (MixAt K H) ps ms) {i : Nat} (hi : i < ms.length) : ∃ a, ps[i]? = some a ∧ MixAt K H a (ms.getD i none6) := by
 obtain ⟨a, e, q⟩ := pd_get' h2 (List.getElem?_eq_getElem hi)
 refine ⟨a, e, ?_⟩
 rw [List.getD_eq_getElem?_getD, List.getElem?_eq_getElem hi]
 exact q
theorem refs_at {ps : List Addr} {i : Nat} {a : Addr} (h : ps[i]? = some a) : (ps.map V.ref)[i]? = some (.ref a) := by rw [List.getElem?_map, h]; rfl
theorem ok_entered (T : Txt K mg t) : FnOk P w K mg base CX0 2 t.entered.f t.entered.d ["had", "machines", "mix"] (spEnter t K) := by
 refine T.entered.fn.ok sc_entered (fun vs H Q E h => ?_) (fun cdv A outer s H vs Q E hr h => ?_)
 ·obtain ⟨h, l, a, had, xs, m, rfl, _⟩ := h
  rfl
 ·obtain ⟨h, l, a, had, xs, m, rfl, ⟨hs, g1, g2⟩, h6, hl, hx, hm, k⟩ := h
  have lh := pd_len g2
  refine ⟨_, (pss_cons (ps_set (i := 3) sc_entered.nd rfl (Or.inl rfl) (pe_op op_cat (pe_callTy (call_listK (K := K)) (by rfl) T.n_list boot_list (pa_cons (pv 0) pa_nil)) (pe_lc rfl sc_entered.nd (plistI (K := K) (pv 1)) (own := [("machine", 4)]) (blkOk_by (by rfl)) (fun _ _ _ _ _ => (pg_name (i := 4) sc_entered.nd rfl (Or.inl rfl) (Or.inr rfl))) (fun _ _ _ _ _ => pts_nil) (fun _ _ _ _ _ => (pgR T.g_NOTHING))))) (pss_cons (ps_set (i := 5) sc_entered.nd rfl (Or.inl rfl) (pe_ifExp (ptruth (K := K) (pv 1) (fun _ => rfl)) (pgI T.g_BAYS) pe_int)) (pss_cons (ps_asg (pcall T.added (ok_added T) hr.m (pa_cons (pe_ix (ix_listK (K := K)) (pv 3) (pv 5) (fun _ _ => rfl)) (pa_cons (pv 2) pa_nil))) (pg_sub (pv 3) (pv 5) set_list)) (pss_one (ps_ret (pv 3)))))), ?_⟩
  refine ⟨_, rfl, h, _, rfl, .inl (SqL.of g1), fun c hc => ?_⟩
  have sc := Same.new (o := .lst (hs.map V.ref)) hc
  refine ⟨_, rfl, l, rfl, ⟨_, Same.seq sc hl⟩, fun D hD => ?_⟩
  have hD0 : H D = none := sc.free hD
  refine lc_listMap (xs := xs) (fun _ => V.ref t.c_NOTHING) hD (Same.seq sc hl) (by exact Nat.lt_of_le_of_lt hx (by decide)) ?_ ?_
  ·intro i x H2 R Z hi s2 kR
   exact ⟨rfl, kR _ (Same.refl _)⟩
  ·intro H2 s2 hD2
   rw [map_const] at hD2
   have sc2 := sc.trans s2
   refine ⟨c, D, _, _, rfl, rfl, s2 _ _ upd_same, hD2, ?_, fun p hp => ?_⟩
   ·rw [List.length_map, lh, h6, List.length_replicate]; exact Nat.le_trans (show 6 + xs.length ≤ 1006 by omega) (by decide)
   have s3 := sc2.trans (Same.new (o := .lst (hs.map V.ref ++ List.replicate xs.length (V.ref t.c_NOTHING))) hp)
   have hp0 : H p = none := sc2.free hp
   refine ⟨_, rfl, _, .inl ⟨_, Same.seq s3 hl, rfl⟩, ?_⟩
   have hP : Paired (MixAt K H) (hs ++ List.replicate xs.length t.c_NOTHING) (had ++ List.replicate xs.length none6) := pd_app g2 (pd_rep (nothingAt T _) _)
   have ep : (upd H2 p (.lst (hs.map V.ref ++ List.replicate xs.length (V.ref t.c_NOTHING)))) p = some (.lst ((hs ++ List.replicate xs.length t.c_NOTHING).map V.ref)) := by rw [upd_same, List.map_append, List.map_replicate]
   generalize upd H2 p (.lst (hs.map V.ref ++ List.replicate xs.length (V.ref t.c_NOTHING))) = H3 at *
   have hlen : (had ++ List.replicate xs.length none6).length = 6 + xs.length := by simp [h6]
   have fin : ∀ (j : Nat) (p5 : Addr) (H5 : Hp), j < 6 + xs.length → j = (if xs.length = 0 then 0 else 6) → Same H3 H5 → MixAt K H5 p5 (plus ((had ++ List.replicate xs.length none6).getD j none6) m) → Q (.ref p) (upd H5 p (.lst (((hs ++ List.replicate xs.length t.c_NOTHING).map V.ref).set j (.ref p5)))) := fun j p5 H5 hj ej s5 hp5 => by
    have k6 : KF (· = p) H5 (upd H5 p (.lst (((hs ++ List.replicate xs.length t.c_NOTHING).map V.ref).set j (.ref p5)))) := KF.upd rfl
    have w5 := Wr.lst (s5 _ _ ep)
    refine k p _ (Same.newKeep hp0 (s3.trans s5)) hp0 ⟨(hs ++ List.replicate xs.length t.c_NOTHING).set j p5, by simp only [upd_same, List.map_set], ?_⟩
    unfold enterH
    rw [← ej]
    exact pd_set (hp5.kf k6 w5) j (pd_imp (fun _ _ z => ((z.same s3).same s5).kf k6 w5) hP)
   by_cases c : xs = []
   ·subst c
    obtain ⟨pj, e1, m1⟩ := MixesAt.at_ (l := p) (pd_imp (fun _ _ z => z.same s3) hP) (i := 0) (by rw [hlen]; simp)
    refine ⟨_, rfl, _, rfl, p, _, _, _, rfl, rfl, SqL.of ep, atN (i := 0) (refs_at e1), _, rfl, true, true, pj, a, _, _, rfl, m1.1, (hm.same s3).1, m1.2, hm.2, trivial, fun p5 H5 s5 hp5 => ?_⟩
    refine ⟨_, rfl, _, rfl, p, _, _, 0, rfl, rfl, s5 _ _ ep, ixN_nat (j := 0) (by rw [List.length_map, pd_len hP, hlen]; simp), _, rfl, ?_⟩
    exact fin 0 p5 H5 (by simp) (by simp) s5 hp5
   ·have c1 : xs.isEmpty = false := by cases xs <;> simp_all
    have c2 : xs.length ≠ 0 := fun z => c (List.length_eq_zero_iff.mp z)
    rw [c1]
    obtain ⟨pj, e1, m1⟩ := MixesAt.at_ (l := p) (pd_imp (fun _ _ z => z.same s3) hP) (i := 6) (by rw [hlen]; omega)
    refine ⟨_, rfl, _, rfl, p, _, _, _, rfl, rfl, SqL.of ep, atN (i := 6) (refs_at e1), _, rfl, true, true, pj, a, _, _, rfl, m1.1, (hm.same s3).1, m1.2, hm.2, trivial, fun p5 H5 s5 hp5 => ?_⟩
    refine ⟨_, rfl, _, rfl, p, _, _, 6, rfl, rfl, s5 _ _ ep, ixN_nat (j := 6) (by rw [List.length_map, pd_len hP, hlen]; omega), _, rfl, ?_⟩
    exact fin 6 p5 H5 (by omega) (by rw [if_neg c2]) s5 hp5
def spPart (t : Ad) (K : PySem.W.Frag) : Sp := fun vs H Q _ => ∃ (l ba sa : Addr) (ms : List Mix) (k a b : Nat) (s : List Nat), vs = [.ref l, .int (k : Nat), .ref ba, .ref sa] ∧ MixesAt K H l ms ∧ SqT K H ba [.int (a : Nat), .int (b : Nat)] ∧ MixAt K H sa s ∧ (∀ i, s.getD i 0 ≤ 1000) ∧
 6 + k < ms.length ∧ a < ms.length ∧ b < ms.length ∧ ∀ H', KF (· = l) H H' → MixesAt K H' l (partC ms k a b s) → Q .non H'
theorem side0_le (s m : List Nat) (h : ∀ i, s.getD i 0 ≤ 1000) (k : Nat) : (side0 s m).getD k 0 ≤ m.getD k 0 := by
 by_cases hk : k < 6
 ·have e : (side0 s m).getD k 0 = m.getD k 0 * s.getD k 0 / 1000 := by
   unfold side0 Km414.KINDS
   rw [List.getD_eq_getElem?_getD, List.getElem?_map, List.getElem?_range hk]; rfl
  rw [e]
  have := h k
  calc m.getD k 0 * s.getD k 0 / 1000 ≤ m.getD k 0 * 1000 / 1000 := Nat.div_le_div_right (Nat.mul_le_mul_left _ this)
   _ = m.getD k 0 := Nat.mul_div_cancel _ (by decide)
 ·rw [List.getD_eq_getElem?_getD, List.getElem?_eq_none (by rw [side0_len]; omega)]
  exact Nat.zero_le _
theorem side1_eq (s m : List Nat) : side1 s m = (List.range 6).map fun k => m.getD k 0 - (side0 s m).getD k 0 := by
 unfold side1 Km414.KINDS
 refine List.map_congr_left fun k hk => ?_
 have hk : k < 6 := List.mem_range.mp hk
 have e : (side0 s m).getD k 0 = m.getD k 0 * s.getD k 0 / 1000 := by
  unfold side0 Km414.KINDS
  rw [List.getD_eq_getElem?_getD, List.getElem?_map, List.getElem?_range hk]; rfl
 rw [e]
theorem ok_part_at (T : Txt K mg t) : FnOk P w K mg base CX0 2 t.part_at.f t.part_at.d ["places", "k", "belts", "setting"] (spPart t K) := by
 refine T.part_at.fn.ok sc_part_at (fun vs H Q E h => ?_) (fun cdv A outer s H vs Q E hr h => ?_)
 ·obtain ⟨l, ba, sa, ms, k, a, b, s, rfl, _⟩ := h
  rfl
 ·obtain ⟨l, ba, sa, ms, k, a, b, s, rfl, ⟨ps, h1, h2⟩, hb, hs, hs2, hk, ha, hbb, q⟩ := h
  have lp := pd_len h2
  obtain ⟨mk, e1, m1⟩ := MixesAt.at_ (l := l) h2 hk
  refine ⟨_, (pss_cons (ps_set (i := 4) sc_part_at.nd rfl (Or.inl rfl) (pe_ix (ix_listK (K := K)) (pv 0) (pe_op op_add (pgI T.g_BAYS) (pv 1)) (fun _ _ => rfl))) (pss_cons (ps_set (i := 5) sc_part_at.nd rfl (Or.inl rfl) (pcall T.parted (ok_parted T) hr.m (pa_cons (pv 4) (pa_cons (pv 3) pa_nil)))) (pss_cons (ps_asg (pcall T.added (ok_added T) hr.m (pa_cons (pe_ix (ix_listK (K := K)) (pv 0) (pe_ix (ix_tupK (K := K)) (pv 2) pe_int (fun _ _ => rfl)) (fun _ _ => rfl)) (pa_cons (pv 5) pa_nil))) (pg_sub (pv 0) (pe_ix (ix_tupK (K := K)) (pv 2) pe_int (fun _ _ => rfl)) set_list)) (pss_one (ps_asg (pcall T.added (ok_added T) hr.m (pa_cons (pe_ix (ix_listK (K := K)) (pv 0) (pe_ix (ix_tupK (K := K)) (pv 2) pe_int (fun _ _ => rfl)) (fun _ _ => rfl)) (pa_cons (pcall T.lessened (ok_lessened T) hr.m (pa_cons (pv 4) (pa_cons (pv 5) pa_nil))) pa_nil))) (pg_sub (pv 0) (pe_ix (ix_tupK (K := K)) (pv 2) pe_int (fun _ _ => rfl)) set_list)))))), ?_⟩
  refine ⟨_, rfl, _, rfl, _, _, rfl, rfl, l, _, _, _, rfl, rfl, SqL.of h1, at_of (j := 6 + k) (by omega) (refs_at e1), ?_⟩
  refine ⟨_, rfl, _, rfl, true, true, mk, sa, _, s, rfl, m1.1, hs.1, m1.2, hs.2, hs2, fun p H1 s1 hp1 => ?_⟩
  obtain ⟨pa, e2, m2⟩ := MixesAt.at_ (l := l) h2 ha
  refine ⟨_, rfl, _, rfl, ba, _, _, _, rfl, rfl, SqT.same s1 hb, rfl, l, _, _, _, rfl, rfl, SqL.of (s1 _ _ h1), atN (refs_at e2), _, rfl, true, true, pa, p, _, _, rfl, (m2.same s1).1, hp1.1, m2.2, side0_len _ _, trivial, fun p2 H2 s2 hp2 => ?_⟩
  refine ⟨_, rfl, _, rfl, ba, _, _, _, rfl, rfl, SqT.same s2 (SqT.same s1 hb), rfl, l, _, _, a, rfl, rfl, s2 _ _ (s1 _ _ h1), ixN_nat (by rw [List.length_map, lp]; exact ha), ?_⟩
  have s12 := s1.trans s2
  have hl2 := s12 _ _ h1
  have k3 : KF (· = l) H2 (upd H2 l (.lst ((ps.map V.ref).set a (.ref p2)))) := KF.upd rfl
  have w2 := Wr.lst hl2
  have h3 : Paired (MixAt K (upd H2 l (.lst ((ps.map V.ref).set a (.ref p2))))) (ps.set a p2) (ms.set a (plus (ms.getD a none6) (side0 s (ms.getD (6 + k) none6)))) :=
   pd_set (hp2.kf k3 w2) a (pd_imp (fun _ _ q => (q.same s12).kf k3 w2) h2)
  have l3 : (upd H2 l (.lst ((ps.map V.ref).set a (.ref p2)))) l = some (.lst ((ps.set a p2).map V.ref)) := by rw [upd_same, List.map_set]
  have hb3 := SqT.kf k3 w2 (SqT.same s2 (SqT.same s1 hb))
  obtain ⟨pb, e3, m3⟩ := MixesAt.at_ (l := l) h3 (i := b) (by rw [List.length_set]; exact hbb)
  have hm3 := (m1.same s12).kf k3 w2
  have hp3 := (hp1.same s2).kf k3 w2
  refine ⟨_, rfl, _, rfl, ba, _, _, _, rfl, rfl, hb3, rfl, l, _, _, _, rfl, rfl, SqL.of l3, atN (refs_at e3), _, rfl, _, rfl, true, true, mk, p, _, _, rfl, hm3.1, hp3.1, hm3.2, hp3.2, side0_le _ _ hs2, fun p4 H4 s4 hp4 => ?_⟩
  have hp4 : MixAt K H4 p4 (side1 s (ms.getD (6 + k) none6)) := by rw [side1_eq]; exact hp4
  refine ⟨true, true, pb, p4, _, _, rfl, (m3.same s4).1, hp4.1, m3.2, hp4.2, trivial, fun p5 H5 s5 hp5 => ?_⟩
  have s45 := s4.trans s5
  refine ⟨_, rfl, _, rfl, ba, _, _, _, rfl, rfl, SqT.same s45 hb3, rfl, l, _, _, b, rfl, rfl, s45 _ _ l3, ixN_nat (by rw [List.length_map, List.length_set, lp]; exact hbb), ?_⟩
  have k6 : KF (· = l) H5 (upd H5 l (.lst (((ps.set a p2).map V.ref).set b (.ref p5)))) := KF.upd rfl
  have w5 := Wr.lst (s45 _ _ l3)
  refine q _ (((KF.same s12).trans k3).trans ((KF.same s45).trans k6)) ⟨(ps.set a p2).set b p5, by simp only [upd_same, List.map_set], ?_⟩
  exact pd_set (hp5.kf k6 w5) b (pd_imp (fun _ _ q => (q.same s45).kf k6 w5) h3)
def spThrough (t : Ad) (K : PySem.W.Frag) : Sp := fun vs H Q _ => ∃ (h l a : Addr) (had : List Mix) (ms : List Machine) (m : Mix), vs = [.ref h, .ref l, .ref a] ∧ MixesAt K H h had ∧ had.length = 6 ∧ MachsAt t K H l ms ∧ MsOk ms ∧ MixAt K H a m ∧
 ∀ p H', Same H H' → H p = none → MixesAt K H' p (putH had ms (ms.map fun x => x.now) m) → Q (.ref p) H'
theorem ok_put_through (T : Txt K mg t) : FnOk P w K mg base CX0 3 t.put_through.f t.put_through.d ["had", "machines", "mix"] (spThrough t K) := by
 refine T.put_through.fn.ok sc_put_through (fun vs H Q E h => ?_) (fun cdv A outer s H vs Q E hr h => ?_)
 ·obtain ⟨h, l, a, had, ms, m, rfl, _⟩ := h
  rfl
 ·obtain ⟨h, l, a, had, ms, m, rfl, hh, h6, ⟨ps, h1, h2⟩, ok, hm, q⟩ := h
  have lp := pd_len h2
  have n5 := ok.n5
  refine ⟨_, (pss_cons (ps_set (i := 3) sc_put_through.nd rfl (Or.inl rfl) (pcall T.entered (ok_entered T) hr.m (pa_cons (pv 0) (pa_cons (pv 1) (pa_cons (pv 2) pa_nil))))) (pss_cons (ps_for PassesOwn.never rfl (penumL (K := K) (by rfl) T.n_enumerate (pa_cons (pv 1) pa_nil)) (ptupG (K := K) (n := 2) rfl (pgs_cons (pg_name (i := 4) sc_put_through.nd rfl (Or.inl rfl)) (pgs_cons (pg_name (i := 5) sc_put_through.nd rfl (Or.inl rfl)) pgs_nil))) (pss_one (ps_expr (pcall T.part_at (ok_part_at T) hr.m (pa_cons (pv 3) (pa_cons (pv 4) (pa_cons (pfld (K := K) (pv 5)) (pa_cons (pe_ix (ix_tupK (K := K)) (pfld (K := K) (pv 5)) (pfld (K := K) (pv 5)) (fun _ _ => rfl)) pa_nil)))))))) (pss_one (ps_ret (pv 3))))), ?_⟩
  refine ⟨_, rfl, _, rfl, _, rfl, h, l, a, _, _, m, rfl, hh, h6, h1, by rw [List.length_map, lp]; omega, hm, fun p H1 s1 hp hp1 => ?_⟩
  rw [List.length_map, lp] at hp1
  refine ⟨_, rfl, l, _, rfl, Same.seq s1 h1, ?_⟩
  refine for_enumL (xs := ps.map V.ref) (fun i σ H' => (∃ v3 v4, σ = [some (.ref h), some (.ref l), some (.ref a), some (.ref p), v3, v4]) ∧ Same H H' ∧ MixesAt K H' p (thruC (ms.map fun x => x.now) (ms.take i) 0 (enterH had ms.length m)))
   ⟨⟨_, _, rfl⟩, s1, hp1⟩ (fun i σ H' ⟨_, s2, _⟩ => Same.seq s2 h1) ?_ ?_
  ·rintro i x U σ H2 hx ⟨⟨v3, v4, rfl⟩, s2, hp2⟩ hU
   rw [List.getElem?_map] at hx
   obtain ⟨c, ec, rfl⟩ : ∃ c, ps[i]? = some c ∧ x = V.ref c := by
    cases e : ps[i]? with
    | none => rw [e] at hx; cases hx
    | some c => rw [e] at hx; exact ⟨c, rfl, (Option.some.inj hx).symm⟩
   obtain ⟨y, ey, my⟩ := pd_get h2 ec
   have oy := ok.each i y ey
   have iy : i < ms.length := (List.getElem?_eq_some_iff.mp ey).1
   have s3 := s2.trans (Same.new (o := .tup [.int (i : Nat), .ref c]) hU)
   have hp3 := hp2.same (Same.new (o := .tup [.int (i : Nat), .ref c]) hU)
   obtain ⟨dx, sa, ba, ss, ob, q1, q2, q3⟩ := (my.same s3).ob
   obtain ⟨st, es, ms'⟩ := pd_get' q2 (List.getElem?_eq_getElem oy.now)
   have est : y.settings[y.now]'oy.now = y.settings.getD y.now [] := by rw [List.getD_eq_getElem?_getD, List.getElem?_eq_getElem oy.now]; rfl
   rw [est] at ms'
   have hlen : (thruC (ms.map fun x => x.now) (ms.take i) 0 (enterH had ms.length m)).length = 6 + ms.length := by rw [thruC_len, enterH_len, h6]
   have la := oy.la
   have lb := oy.lb
   unfold Leads at la lb
   refine ⟨U, _, rfl, SqT.of upd_same, rfl, _, _, rfl, _, _, rfl, rfl, _, rfl, _, rfl, _, rfl, c, _, dx, _, _, rfl, ob, T.Machine.cl, T.na_Machine_belts, rfl, _, rfl, c, _, dx, _, _, rfl, ob, T.Machine.cl, T.na_Machine_settings, rfl, _, rfl, c, _, dx, _, _, rfl, ob, T.Machine.cl, T.na_Machine_chosen, rfl, sa, _, _, _, rfl, rfl, q1, atN (refs_at es),
    p, ba, st, _, i, y.a, y.b, _, rfl, hp3, q3, ms', oy.thou _ (by rw [← est]; exact List.getElem_mem _), by rw [hlen]; omega, by rw [hlen]; omega, by rw [hlen]; omega, fun H4 k4 hp4 => ?_⟩
   refine ⟨⟨_, _, rfl⟩, fun b o hb => k4 b o (s3 b o hb) (ne_of_none hb hp), ?_⟩
   rw [take_snoc ey, thruC_snoc, Nat.zero_add]
   have e1 : (ms.take i).length = i := by rw [List.length_take]; omega
   have e2 : (ms.map fun x => x.now).getD i 0 = y.now := by rw [List.getD_eq_getElem?_getD, List.getElem?_map, ey]; rfl
   rw [e1, e2]
   exact hp4
  ·rintro σ H2 ⟨⟨v3, v4, rfl⟩, s2, hp2⟩
   refine ⟨_, rfl, q p H2 s2 hp ?_⟩
   rw [List.length_map, lp, List.take_length] at hp2
   exact hp2
def spAlone (t : Ad) (K : PySem.W.Frag) : Sp := fun vs H Q _ => ∃ (l a : Addr) (ms : List Machine) (m : Mix), vs = [.ref l, .ref a] ∧ MachsAt t K H l ms ∧ MsOk ms ∧ MixAt K H a m ∧
 ∀ p H', Same H H' → H p = none → MixesAt K H' p (putC ms (ms.map fun x => x.now) m) → Q (.ref p) H'
theorem ok_put_through_alone (T : Txt K mg t) : FnOk P w K mg base CX0 4 t.put_through_alone.f t.put_through_alone.d ["machines", "mix"] (spAlone t K) := by
 refine T.put_through_alone.fn.ok sc_put_through_alone (fun vs H Q E h => ?_) (fun cdv A outer s H vs Q E hr h => ?_)
 ·obtain ⟨l, a, ms, m, rfl, _⟩ := h
  rfl
 ·obtain ⟨l, a, ms, m, rfl, hl, ok, hm, q⟩ := h
  refine ⟨_, (pss_one (ps_ret (pcall T.put_through (ok_put_through T) hr.m (pa_cons (pe_lc rfl sc_put_through_alone.nd (pi_range1 (by rfl) T.n_range (pa_cons (pgI T.g_BAYS) pa_nil)) (own := [("i", 2)]) (blkOk_by (by rfl)) (fun _ _ _ _ _ => (pg_name (i := 2) sc_put_through_alone.nd rfl (Or.inl rfl) (Or.inr rfl))) (fun _ _ _ _ _ => pts_nil) (fun _ _ _ _ _ => (pgR T.g_NOTHING))) (pa_cons (pv 0) (pa_cons (pv 1) pa_nil)))))), ?_⟩
  refine ⟨_, rfl, by omega, by omega, fun D hD => ?_⟩
  refine lc_rangeMap (fun _ => V.ref t.c_NOTHING) hD (by exact Nat.lt_of_le_of_lt (show (6 : Int).toNat ≤ 6 by decide) (by decide)) ?_ ?_
  ·intro i H2 R Z hi s2 kR
   exact ⟨rfl, kR _ (Same.refl _)⟩
  ·intro H2 s2 hD2
   rw [map_const] at hD2
   refine ⟨_, rfl, _, rfl, D, l, a, List.replicate 6 none6, ms, m, rfl, ⟨List.replicate 6 t.c_NOTHING, by rw [hD2, List.map_replicate]; rfl, pd_rep (nothingAt T _) 6⟩, by simp, hl.same s2, ok, hm.same s2, fun p H3 s3 hp hp3 => ?_⟩
   rw [putH_none _ _ hm.2] at hp3
   exact q p H3 (s2.trans s3) (s2.free hp) hp3
theorem cut_from (xs : List V) (n : Nat) (h : n ≤ xs.length) : cutV xs (some (n : Int)) none = xs.drop n := by
 unfold cutV
 have e1 : HT.sIx xs.length 0 (some (n : Int)) = n := by
  rw [HT.sIx_nat]; omega
 have e2 : HT.sIx xs.length xs.length none = xs.length := by
  rfl
 rw [e1, e2, List.take_of_length_le (by rw [List.length_drop]; exact Nat.le_refl _)]
def spLoads (t : Ad) (K : PySem.W.Frag) : Sp := fun vs H Q _ => ∃ (l : Addr) (ms : List Mix), vs = [.ref l] ∧ MixesAt K H l ms ∧ 6 ≤ ms.length ∧ ms.length ≤ 1000 ∧
 ∀ p H', Same H H' → H p = none → H' p = some (.lst (nts ((ms.drop 6).map Km414.sum))) → Q (.ref p) H'
theorem map_range_getD {α β : Type} (l : List α) (d : α) (f : α → β) : (List.range l.length).map (fun i => f (l.getD i d)) = l.map f := by
 apply List.ext_getElem?
 intro i
 rw [List.getElem?_map, List.getElem?_map]
 by_cases h : i < l.length
 ·rw [List.getElem?_range h, List.getElem?_eq_getElem h]
  show some (f (l.getD i d)) = some (f l[i])
  rw [List.getD_eq_getElem?_getD, List.getElem?_eq_getElem h]; rfl
 ·rw [List.getElem?_eq_none (by simp; omega), List.getElem?_eq_none (by omega)]; rfl
theorem ok_machine_loads (T : Txt K mg t) : FnOk P w K mg base CX0 1 t.machine_loads.f t.machine_loads.d ["places"] (spLoads t K) := by
 refine T.machine_loads.fn.ok sc_machine_loads (fun vs H Q E h => ?_) (fun cdv A outer s H vs Q E hr h => ?_)
 ·obtain ⟨l, ms, rfl, _⟩ := h
  rfl
 ·obtain ⟨l, ms, rfl, ⟨ps, h1, h2⟩, h6, hk, q⟩ := h
  have lp := pd_len h2
  refine ⟨_, (pss_one (ps_ret (pe_lc rfl sc_machine_loads.nd (plistI (K := K) (pe_slice (sl_listK (K := K)) (pv 0) (po_some (pgI T.g_BAYS)) po_none)) (own := [("mix", 1)]) (blkOk_by (by rfl)) (fun _ _ _ _ _ => (pg_name (i := 1) sc_machine_loads.nd rfl (Or.inl rfl) (Or.inr rfl))) (fun _ _ _ _ _ => pts_nil) (fun _ _ _ _ _ => (pe_callB (cr_sumTK (K := K) rfl) (by rfl) T.n_sum boot_sum (pa_cons (pv 1) pa_nil)))))), ?_⟩
  refine ⟨_, rfl, _, rfl, l, _, rfl, SqL.of h1, fun c hc => ?_⟩
  have e0 : cutV (ps.map V.ref) (some 6) none = (ps.drop 6).map V.ref := by
   rw [List.map_drop]; exact cut_from _ 6 (by rw [List.length_map, lp]; exact h6)
  rw [e0]
  refine ⟨c, rfl, ⟨_, SqL.of upd_same⟩, fun D hD => ?_⟩
  have sc := Same.new (o := .lst ((ps.drop 6).map V.ref)) hc
  have hcD : H D = none := sc.free hD
  refine lc_listMap (xs := (ps.drop 6).map V.ref) (fun i => V.int ((Km414.sum ((ms.drop 6).getD i none6) : Nat) : Int)) hD (SqL.of upd_same) (by rw [List.length_map, List.length_drop, lp]; exact Nat.lt_of_le_of_lt (show ms.length - 6 ≤ 1000 by omega) (by decide)) ?_ ?_
  ·intro i x H2 R Z hx s2 kR
   rw [List.getElem?_map] at hx
   obtain ⟨a, ea, rfl⟩ : ∃ a, (ps.drop 6)[i]? = some a ∧ x = V.ref a := by
    cases e : (ps.drop 6)[i]? with
    | none => rw [e] at hx; cases hx
    | some c => rw [e] at hx; exact ⟨c, rfl, (Option.some.inj hx).symm⟩
   obtain ⟨m, em, hm⟩ := pd_get (pd_drop 6 h2) ea
   have e1 : (ms.drop 6).getD i none6 = m := by rw [List.getD_eq_getElem?_getD, em]; rfl
   rw [e1] at kR
   refine ⟨rfl, _, rfl, a, _, rfl, ((hm.same sc).same s2).sum, ?_⟩
   rw [isum]
   exact kR _ (Same.refl _)
  ·intro H2 s2 hD2
   refine q D H2 (sc.trans s2) hcD ?_
   rw [hD2, List.length_map, List.length_drop, lp]
   refine congrArg (fun z => some (HO.lst z)) ?_
   have e2 : ms.length - 6 = (ms.drop 6).length := by simp
   rw [e2, map_range_getD (ms.drop 6) none6 (fun m => V.int ((Km414.sum m : Nat) : Int))]
   unfold nts
   rw [List.map_map]; rfl
def spPartOk (t : Ad) (K : PySem.W.Frag) : Sp := fun vs H Q _ => ∃ (l c : Addr) (xs : List Machine) (ms : List Mix), vs = [.ref l, .ref c] ∧ MachsAt t K H l xs ∧ MixesAt K H c ms ∧ 6 ≤ ms.length ∧ ms.length ≤ 1000 ∧
 ∀ H', Same H H' → Q (.bl (partOk xs ((ms.drop 6).map Km414.sum))) H'
theorem ok_machines_part (T : Txt K mg t) : FnOk P w K mg base CX0 2 t.machines_part.f t.machines_part.d ["machines", "places"] (spPartOk t K) := by
 refine T.machines_part.fn.ok sc_machines_part (fun vs H Q E h => ?_) (fun cdv A outer s H vs Q E hr h => ?_)
 ·obtain ⟨l, c, xs, ms, rfl, _⟩ := h
  rfl
 ·obtain ⟨l, c, xs, ms, rfl, ⟨ps, h1, h2⟩, hc, h6, hk, q⟩ := h
  have lp := pd_len h2
  refine ⟨_, (pss_one (ps_ret (pe_callB (cr_allK (K := K) rfl) (by rfl) T.n_all boot_all (pa_cons (pe_lc rfl sc_machines_part.nd (pzip (K := K) false false (by rfl) T.n_zip (pa_cons (pv 0) (pa_cons (pcall T.machine_loads (ok_machine_loads T) hr.m (pa_cons (pv 1) pa_nil)) pa_nil))) (own := [("machine", 2), ("load", 3)]) (blkOk_by (by rfl)) (fun _ _ _ _ _ => (pg_tupB (n := 2) rfl (pgs_cons (pg_name (i := 2) sc_machines_part.nd rfl (Or.inl rfl) (Or.inr rfl)) (pgs_cons (pg_name (i := 3) sc_machines_part.nd rfl (Or.inl rfl) (Or.inr rfl)) pgs_nil)))) (fun _ _ _ _ _ => pts_nil) (fun _ _ _ _ _ => (pe_cmpR op_le (pv 3) (pfld (K := K) (pv 2)) (nomark _)))) pa_nil)))), ?_⟩
  refine ⟨_, rfl, _, rfl, c, ms, rfl, hc, h6, hk, fun p H1 s1 hp hp1 => ?_⟩
  refine ⟨l, p, _, _, rfl, Same.seq s1 h1, SqL.of hp1, fun D hD => ?_⟩
  refine lc_zipMap (t1 := false) (t2 := false) (xs := ps.map V.ref) (ys := nts ((ms.drop 6).map Km414.sum)) (fun i => V.bl (decide (((ms.drop 6).map Km414.sum).getD i 0 ≤ (xs.getD i ⟨[], 0, 0, 0, 0⟩).most))) hD (Same.seq s1 h1) (SqL.of hp1) (by rw [nts_len, List.length_map, List.length_map, List.length_drop]; exact Nat.lt_of_le_of_lt (Nat.le_trans (Nat.min_le_right _ _) (show ms.length - 6 ≤ 1000 by omega)) (by decide)) ?_ ?_
  ·intro i x y U H2 R Z hx hy s2 hU kR
   have hi : i < ((ms.drop 6).map Km414.sum).length := by have := (List.getElem?_eq_some_iff.mp hy).1; rw [nts_len] at this; exact this
   rw [nts_at hi] at hy
   cases hy
   rw [List.getElem?_map] at hx
   obtain ⟨a, ea, rfl⟩ : ∃ a, ps[i]? = some a ∧ x = V.ref a := by
    cases e : ps[i]? with
    | none => rw [e] at hx; cases hx
    | some c => rw [e] at hx; exact ⟨c, rfl, (Option.some.inj hx).symm⟩
   obtain ⟨m, em, hm⟩ := pd_get h2 ea
   have e1 : xs.getD i ⟨[], 0, 0, 0, 0⟩ = m := by rw [List.getD_eq_getElem?_getD, em]; rfl
   rw [e1] at kR
   obtain ⟨dx, sa, ba, ss, ob, -⟩ := (((hm.same s1).same s2).same (Same.new (o := .tup [.ref a, .int ((((ms.drop 6).map Km414.sum).getD i 0 : Nat) : Int)]) hU)).ob
   refine ⟨U, _, rfl, SqT.of upd_same, rfl, _, _, rfl, _, _, rfl, rfl, rfl, _, rfl, _, rfl, a, _, dx, _, _, rfl, ob, T.Machine.cl, T.na_Machine_most, rfl, _, _, rfl, rfl, ?_⟩
   have e2 : decide (((((ms.drop 6).map Km414.sum).getD i 0 : Nat) : Int) ≤ ((m.most : Nat) : Int)) = decide (((ms.drop 6).map Km414.sum).getD i 0 ≤ m.most) := by
    apply decide_eq_decide.mpr; omega
   dsimp only
   rw [e2]
   exact kR _ (Same.refl _)
  ·intro H2 s2 hD2
   rw [List.length_map, nts_len, lp] at hD2
   refine ⟨D, (List.range (min xs.length ((ms.drop 6).map Km414.sum).length)).map (fun i => decide (((ms.drop 6).map Km414.sum).getD i 0 ≤ (xs.getD i ⟨[], 0, 0, 0, 0⟩).most)), rfl, SqL.of (by rw [hD2, List.map_map]; rfl), ?_⟩
   have e3 : ((List.range (min xs.length ((ms.drop 6).map Km414.sum).length)).map (fun i => decide (((ms.drop 6).map Km414.sum).getD i 0 ≤ (xs.getD i ⟨[], 0, 0, 0, 0⟩).most))).all id = partOk xs ((ms.drop 6).map Km414.sum) := by
    unfold partOk; rw [List.all_map]; rfl
   rw [e3]
   exact q H2 (s1.trans s2)
def spHold (t : Ad) (K : PySem.W.Frag) : Sp := fun vs H Q _ => ∃ (l c : Addr) (bs : List Bay) (ms : List Mix), vs = [.ref l, .ref c] ∧ BaysAt t K H l bs ∧ MixesAt K H c ms ∧ ms.length ≤ 1000 ∧
 ∀ H', Same H H' → Q (.bl (holdH bs ms)) H'
theorem ok_bays_hold (T : Txt K mg t) : FnOk P w K mg base CX0 1 t.bays_hold.f t.bays_hold.d ["bays", "places"] (spHold t K) := by
 refine T.bays_hold.fn.ok sc_bays_hold (fun vs H Q E h => ?_) (fun cdv A outer s H vs Q E hr h => ?_)
 ·obtain ⟨l, c, bs, ms, rfl, _⟩ := h
  rfl
 ·obtain ⟨l, c, bs, ms, rfl, ⟨ps, h1, h2⟩, ⟨cs, c1, c2⟩, hk, q⟩ := h
  have lp := pd_len h2
  have lc := pd_len c2
  refine ⟨_, (pss_one (ps_ret (pe_callB (cr_allK (K := K) rfl) (by rfl) T.n_all boot_all (pa_cons (pe_lc rfl sc_bays_hold.nd (pzip (K := K) false false (by rfl) T.n_zip (pa_cons (pv 0) (pa_cons (pv 1) pa_nil))) (own := [("bay", 2), ("mix", 3)]) (blkOk_by (by rfl)) (fun _ _ _ _ _ => (pg_tupB (n := 2) rfl (pgs_cons (pg_name (i := 2) sc_bays_hold.nd rfl (Or.inl rfl) (Or.inr rfl)) (pgs_cons (pg_name (i := 3) sc_bays_hold.nd rfl (Or.inl rfl) (Or.inr rfl)) pgs_nil)))) (fun _ _ _ _ _ => pts_nil) (fun _ _ _ _ _ => (pe_cmpR op_le (pe_callB (cr_sumTK (K := K) rfl) (by rfl) T.n_sum boot_sum (pa_cons (pv 3) pa_nil)) (pfld (K := K) (pv 2)) (nomark _)))) pa_nil)))), ?_⟩
  refine ⟨_, rfl, _, rfl, l, c, _, _, rfl, h1, SqL.of c1, fun D hD => ?_⟩
  refine lc_zipMap (t1 := false) (t2 := false) (xs := ps.map V.ref) (ys := cs.map V.ref) (fun i => V.bl (decide (Km414.sum (ms.getD i none6) ≤ (bs.getD i bay0).most))) hD h1 (SqL.of c1) (by rw [List.length_map, List.length_map, lc]; exact Nat.lt_of_le_of_lt (Nat.le_trans (Nat.min_le_right _ _) hk) (by decide)) ?_ ?_
  ·intro i x y U H2 R Z hx hy s2 hU kR
   rw [List.getElem?_map] at hx hy
   obtain ⟨a, ea, rfl⟩ : ∃ a, ps[i]? = some a ∧ x = V.ref a := by
    cases e : ps[i]? with
    | none => rw [e] at hx; cases hx
    | some c => rw [e] at hx; exact ⟨c, rfl, (Option.some.inj hx).symm⟩
   obtain ⟨b, eb, rfl⟩ : ∃ a, cs[i]? = some a ∧ y = V.ref a := by
    cases e : cs[i]? with
    | none => rw [e] at hy; cases hy
    | some c => rw [e] at hy; exact ⟨c, rfl, (Option.some.inj hy).symm⟩
   obtain ⟨m, em, hm⟩ := pd_get h2 ea
   obtain ⟨n, en, hn⟩ := pd_get c2 eb
   have e1 : bs.getD i bay0 = m := by rw [List.getD_eq_getElem?_getD, em]; rfl
   have e2 : ms.getD i none6 = n := by rw [List.getD_eq_getElem?_getD, en]; rfl
   rw [e1, e2] at kR
   have s3 := s2.trans (Same.new (o := .tup [.ref a, .ref b]) hU)
   obtain ⟨dx, ma, ob, hma⟩ := (hm.same s3).ob
   refine ⟨U, _, rfl, SqT.of upd_same, rfl, _, _, rfl, _, _, rfl, rfl, rfl, _, rfl, b, _, rfl, (hn.same s3).sum, _, rfl, a, _, dx, _, _, rfl, ob, T.Bay.cl, T.na_Bay_most, rfl, _, _, rfl, rfl, ?_⟩
   dsimp only
   rw [isum]
   have e2 : decide (((Km414.sum n : Nat) : Int) ≤ ((m.most : Nat) : Int)) = decide (Km414.sum n ≤ m.most) := by
    apply decide_eq_decide.mpr; omega
   rw [e2]
   exact kR _ (Same.refl _)
  ·intro H2 s2 hD2
   rw [List.length_map, List.length_map, lp, lc] at hD2
   refine ⟨D, (List.range (min bs.length ms.length)).map (fun i => decide (Km414.sum (ms.getD i none6) ≤ (bs.getD i bay0).most)), rfl, SqL.of (by rw [hD2, List.map_map]; rfl), ?_⟩
   have e3 : ((List.range (min bs.length ms.length)).map (fun i => decide (Km414.sum (ms.getD i none6) ≤ (bs.getD i bay0).most))).all id = holdH bs ms := by
    unfold holdH; rw [List.all_map]; rfl
   rw [e3]
   exact q H2 s2
def spWorth (t : Ad) (K : PySem.W.Frag) : Sp := fun vs H Q _ => ∃ (l c : Addr) (bs : List Bay) (ms : List Mix) (h : Nat), vs = [.ref l, .ref c, .int (h : Nat)] ∧ BaysAt t K H l bs ∧ (∀ b ∈ bs, BOk b) ∧ MixesAt K H c ms ∧
 ∀ H', Same H H' → Q (.int (worthH h bs ms : Nat)) H'
theorem sum_snoc (l : List Nat) (x : Nat) : Km414.sum (l ++ [x]) = Km414.sum l + x := by rw [ksum_eq, ksum_eq, List.sum_append]; simp
theorem ok_worth_of_all (T : Txt K mg t) : FnOk P w K mg base CX0 2 t.worth_of_all.f t.worth_of_all.d ["bays", "mixes", "harm"] (spWorth t K) := by
 refine T.worth_of_all.fn.ok sc_worth_of_all (fun vs H Q E h => ?_) (fun cdv A outer s H vs Q E hr h => ?_)
 ·obtain ⟨l, c, bs, ms, h, rfl, _⟩ := h
  rfl
 ·obtain ⟨l, c, bs, ms, h, rfl, ⟨ps, h1, h2⟩, ok, ⟨cs, c1, c2⟩, q⟩ := h
  have lp := pd_len h2
  have lc := pd_len c2
  refine ⟨_, (pss_cons (ps_set (i := 3) sc_worth_of_all.nd rfl (Or.inl rfl) pe_int) (pss_cons (ps_for PassesOwn.never rfl (pzip (K := K) false false (by rfl) T.n_zip (pa_cons (pv 0) (pa_cons (pv 1) pa_nil))) (ptupG (K := K) (n := 2) rfl (pgs_cons (pg_name (i := 4) sc_worth_of_all.nd rfl (Or.inl rfl)) (pgs_cons (pg_name (i := 5) sc_worth_of_all.nd rfl (Or.inl rfl)) pgs_nil))) (pss_one (ps_if (pt_val (pcall T.is_good (ok_is_good T) hr.m (pa_cons (pv 4) (pa_cons (pv 5) (pa_cons (pv 2) pa_nil))))) (pss_one (ps_aug (i := 3) sc_worth_of_all.nd rfl (Or.inl rfl) (pcall T.brought (ok_brought T) hr.m (pa_cons (pv 4) (pa_cons (pv 5) pa_nil))) ip_add)) pss_nil))) (pss_one (ps_ret (pv 3))))), ?_⟩
  refine ⟨_, rfl, _, rfl, l, c, _, _, rfl, h1, SqL.of c1, ?_⟩
  refine for_zip (t1 := false) (t2 := false) (xs := ps.map V.ref) (ys := cs.map V.ref) (fun i σ H' => (∃ v4 v5, σ = [some (.ref l), some (.ref c), some (.int (h : Nat)), some (.int ((Km414.sum ((List.range i).map fun i => worthM h (bs.getD i bay0) (ms.getD i none6)) : Nat) : Int)), v4, v5]) ∧ Same H H')
   ⟨⟨_, _, rfl⟩, Same.refl H⟩ (fun i σ H' ⟨_, s2⟩ => ⟨Same.seq s2 h1, SqL.of (s2 _ _ c1)⟩) ?_ ?_
  ·rintro i x y U σ H2 hx hy ⟨⟨v4, v5, rfl⟩, s2⟩ hU
   rw [List.getElem?_map] at hx hy
   obtain ⟨a, ea, rfl⟩ : ∃ a, ps[i]? = some a ∧ x = V.ref a := by
    cases e : ps[i]? with
    | none => rw [e] at hx; cases hx
    | some c => rw [e] at hx; exact ⟨c, rfl, (Option.some.inj hx).symm⟩
   obtain ⟨b, eb, rfl⟩ : ∃ a, cs[i]? = some a ∧ y = V.ref a := by
    cases e : cs[i]? with
    | none => rw [e] at hy; cases hy
    | some c => rw [e] at hy; exact ⟨c, rfl, (Option.some.inj hy).symm⟩
   obtain ⟨m, em, hm⟩ := pd_get h2 ea
   obtain ⟨n, en, hn⟩ := pd_get c2 eb
   have e1 : bs.getD i bay0 = m := by rw [List.getD_eq_getElem?_getD, em]; rfl
   have e2 : ms.getD i none6 = n := by rw [List.getD_eq_getElem?_getD, en]; rfl
   have om := ok m (List.mem_of_getElem? em)
   have s3 := s2.trans (Same.new (o := .tup [.ref a, .ref b]) hU)
   obtain ⟨dx, ma, ob, hma⟩ := (hm.same s3).ob
   have hn3 := hn.same s3
   refine ⟨U, _, rfl, SqT.of upd_same, rfl, _, _, rfl, _, _, rfl, rfl, _, rfl, _, rfl, _, rfl, a, b, m, _, h, rfl, hm.same s3, hn3, om.kind, om.pure, _, rfl, ite2 (fun g => ?_) (fun g => ?_)⟩
   ·refine ⟨_, rfl, _, rfl, _, rfl, a, b, m, _, rfl, hm.same s3, hn3, om.price, _, _, rfl, rfl, ?_⟩
    refine ⟨⟨some (.ref a), some (.ref b), ?_⟩, s3⟩
    rw [List.range_succ, List.map_append, List.map_singleton, sum_snoc, e1, e2]
    have ew : worthM h m n = m.money n := by unfold worthM; rw [if_pos g]
    rw [ew]
    rfl
   ·refine ⟨⟨some (.ref a), some (.ref b), ?_⟩, s3⟩
    rw [List.range_succ, List.map_append, List.map_singleton, sum_snoc, e1, e2]
    have ew : worthM h m n = 0 := by unfold worthM; rw [if_neg g]
    rw [ew]
    rfl
  ·rintro σ H2 ⟨⟨v4, v5, rfl⟩, s2⟩
   refine ⟨_, rfl, ?_⟩
   rw [List.length_map, List.length_map, lp, lc]
   exact q H2 s2
def WayAt (K : PySem.W.Frag) (H : Hp) (p : Addr) (w : Way) : Prop := ∃ ca cl, SqT K H p [.ref ca, .ref cl] ∧ SqT K H ca (nts w.1) ∧ MixesAt K H cl w.2
theorem WayAt.same {H H' : Hp} {p : Addr} {w : Way} (s : Same H H') (h : WayAt K H p w) : WayAt K H' p w := by
 obtain ⟨ca, cl, h1, h2, h3⟩ := h
 exact ⟨ca, cl, SqT.same s h1, SqT.same s h2, h3.same s⟩
def WaysAt (K : PySem.W.Frag) (H : Hp) (l : Addr) (ws : List Way) : Prop := ∃ ps, H l = some (.lst (ps.map V.ref)) ∧ Paired (WayAt K H) ps ws
theorem WaysAt.same {H H' : Hp} {l : Addr} {ws : List Way} (s : Same H H') (h : WaysAt K H l ws) : WaysAt K H' l ws := by
 obtain ⟨ps, h1, h2⟩ := h
 exact ⟨ps, s _ _ h1, pd_imp (fun _ _ q => q.same s) h2⟩
def WayN (K : PySem.W.Frag) (D : Addr) (H : Hp) (p : Addr) (w : Way) : Prop := ∃ ca cl, SqT K H p [.ref ca, .ref cl] ∧ SqT K H ca (nts w.1) ∧ MixesAt K H cl w.2 ∧ cl ≠ D
theorem WayN.same {D : Addr} {H H' : Hp} {p : Addr} {w : Way} (s : Same H H') (h : WayN K D H p w) : WayN K D H' p w := by
 obtain ⟨ca, cl, h1, h2, h3, h4⟩ := h
 exact ⟨ca, cl, SqT.same s h1, SqT.same s h2, h3.same s, h4⟩
theorem WayN.kf {D : Addr} {H H' : Hp} {p : Addr} {w : Way} (k : KF (· = D) H H') (hF : ∀ c, c = D → Wr H c) (h : WayN K D H p w) : WayN K D H' p w := by
 obtain ⟨ca, cl, h1, h2, ⟨ps, h3, h4⟩, h5⟩ := h
 exact ⟨ca, cl, SqT.kf k hF h1, SqT.kf k hF h2, ⟨ps, k _ _ h3 h5, pd_imp (fun _ _ q => q.kf k hF) h4⟩, h5⟩
theorem WayN.way {D : Addr} {H : Hp} {p : Addr} {w : Way} (h : WayN K D H p w) : WayAt K H p w := by
 obtain ⟨ca, cl, h1, h2, h3, _⟩ := h
 exact ⟨ca, cl, h1, h2, h3⟩
def WaysN (K : PySem.W.Frag) (H : Hp) (l : Addr) (ws : List Way) : Prop := ∃ ps, H l = some (.lst (ps.map V.ref)) ∧ Paired (WayN K l H) ps ws
theorem WaysN.same {H H' : Hp} {l : Addr} {ws : List Way} (s : Same H H') (h : WaysN K H l ws) : WaysN K H' l ws := by
 obtain ⟨ps, h1, h2⟩ := h
 exact ⟨ps, s _ _ h1, pd_imp (fun _ _ q => q.same s) h2⟩
theorem WaysN.way {H : Hp} {l : Addr} {ws : List Way} (h : WaysN K H l ws) : WaysAt K H l ws := by
 obtain ⟨ps, h1, h2⟩ := h
 exact ⟨ps, h1, pd_imp (fun _ _ q => q.way) h2⟩
def spBranch (t : Ad) (K : PySem.W.Frag) : Sp := fun vs H Q _ => ∃ (l p : Addr) (n k : Nat) (x : Machine) (ws : List Way), vs = [.ref l, .int (k : Nat), .ref p] ∧ WaysAt K H l ws ∧ MachAt t K H p x ∧ MOk n k x ∧ k < n ∧ n ≤ 5 ∧ ws.length ≤ 300 ∧ (∀ w ∈ ws, w.2.length = 6 + n ∧ w.1.length = k) ∧
 ∀ q H', Same H H' → H q = none → WaysAt K H' q (branchC k x ws) → Q (.ref q) H'
theorem nts_snoc (s : List Nat) (j : Nat) : nts s ++ [.int (j : Nat)] = nts (s ++ [j]) := by unfold nts; rw [List.map_append]; rfl
theorem ok_branched (T : Txt K mg t) : FnOk P w K mg base CX0 3 t.branched.f t.branched.d ["ways", "k", "machine"] (spBranch t K) := by
 refine T.branched.fn.ok sc_branched (fun vs H Q E h => ?_) (fun cdv A outer s H vs Q E hr h => ?_)
 ·obtain ⟨l, p, n, k, x, ws, rfl, _⟩ := h
  rfl
 ·obtain ⟨l, p, n, k, x, ws, rfl, ⟨ps, h1, h2⟩, hx, ok, hkn, hn5, hws, hw, q⟩ := h
  have lp := pd_len h2
  have s3 := ok.s3
  obtain ⟨dx, sa, ba, ss, ob0, q10, q2, q30⟩ := hx.ob
  refine ⟨_, (pss_cons (ps_set (i := 3) sc_branched.nd rfl (Or.inl rfl) (pe_lst pa_nil)) (pss_cons (ps_for PassesOwn.never rfl (plistI (K := K) (pv 0)) (pg_name (i := 4) sc_branched.nd rfl (Or.inl rfl)) (pss_one (ps_for PassesOwn.never rfl (penumT (K := K) (by rfl) T.n_enumerate (pa_cons (pfld (K := K) (pv 2)) pa_nil)) (ptupG (K := K) (n := 2) rfl (pgs_cons (pg_name (i := 5) sc_branched.nd rfl (Or.inl rfl)) (pgs_cons (pg_name (i := 6) sc_branched.nd rfl (Or.inl rfl)) pgs_nil))) (pss_cons (ps_set (i := 7) sc_branched.nd rfl (Or.inl rfl) (pe_callTy (call_listK (K := K)) (by rfl) T.n_list boot_list (pa_cons (pe_ix (ix_tupK (K := K)) (pv 4) pe_int (fun _ _ => rfl)) pa_nil))) (pss_cons (ps_expr (pcall T.part_at (ok_part_at T) hr.m (pa_cons (pv 7) (pa_cons (pv 1) (pa_cons (pfld (K := K) (pv 2)) (pa_cons (pv 6) pa_nil)))))) (pss_one (ps_expr (pe_bm PySem.F.plainAttrs_list PySem.F.slot_list_append PySem.F.type_list_append mt_append (pv 3) (pa_cons (pe_tup (pa_cons (pe_op (op_catK (K := K)) (pe_ix (ix_tupK (K := K)) (pv 4) pe_int (fun _ _ => rfl)) (pe_tup (pa_cons (pv 5) pa_nil))) (pa_cons (pv 7) pa_nil))) pa_nil))))))))) (pss_one (ps_ret (pv 3))))), ?_⟩
  refine ⟨Nat.zero_le _, fun D hD => ?_⟩
  have sD : Same H (upd H D (.lst [])) := Same.new hD
  refine ⟨_, rfl, l, rfl, ⟨_, SqL.of (sD _ _ h1)⟩, ?_⟩
  refine for_list (xs := ps.map V.ref) (fun i σ H' => (∃ v4 v5 v6 v7, σ = [some (.ref l), some (.int (k : Nat)), some (.ref p), some (.ref D), v4, v5, v6, v7]) ∧ Same H H' ∧ WaysN K H' D (branchC k x (ws.take i)))
   ⟨⟨_, _, _, _, rfl⟩, sD, ⟨[], upd_same, .nil⟩⟩ (fun i σ H' _ ⟨_, s2, _⟩ => SqL.of (s2 _ _ h1)) ?_ ?_
  ·rintro i y σ H2 hy ⟨⟨v4, v5, v6, v7, rfl⟩, s2, hD2⟩
   rw [List.getElem?_map] at hy
   obtain ⟨a, ea, rfl⟩ : ∃ a, ps[i]? = some a ∧ y = V.ref a := by
    cases e : ps[i]? with
    | none => rw [e] at hy; cases hy
    | some c => rw [e] at hy; exact ⟨c, rfl, (Option.some.inj hy).symm⟩
   obtain ⟨wy, ew, hwy⟩ := pd_get h2 ea
   obtain ⟨l1, l2⟩ := hw wy (List.mem_of_getElem? ew)
   have hi : i < ws.length := (List.getElem?_eq_some_iff.mp ew).1
   have ob := s2 _ _ ob0
   have q1 := SqT.same s2 q10
   refine ⟨_, rfl, p, _, dx, _, _, rfl, ob, T.Machine.cl, T.na_Machine_settings, rfl, sa, _, rfl, q1, ?_⟩
   refine for_enumT (xs := ss.map V.ref) (fun j σ H' => (∃ v5 v6 v7, σ = [some (.ref l), some (.int (k : Nat)), some (.ref p), some (.ref D), some (.ref a), v5, v6, v7]) ∧ Same H H' ∧ SqT K H' sa (ss.map V.ref) ∧ j ≤ x.settings.length ∧ WaysN K H' D (branchC k x (ws.take i) ++ (List.range j).map fun j => branch1 k x wy j))
    ⟨⟨_, _, _, rfl⟩, s2, q1, Nat.zero_le _, by simpa using hD2⟩ (fun j σ H' ⟨_, _, z, _⟩ => z) ?_ ?_
   ·rintro j z U σ H3 hz ⟨⟨v5, v6, v7, rfl⟩, s3', q1', hj, hD3⟩ hU
    rw [List.getElem?_map] at hz
    obtain ⟨b, eb, rfl⟩ : ∃ a, ss[j]? = some a ∧ z = V.ref a := by
     cases e : ss[j]? with
     | none => rw [e] at hz; cases hz
     | some c => rw [e] at hz; exact ⟨c, rfl, (Option.some.inj hz).symm⟩
    have lss := pd_len q2
    have hjs : j < x.settings.length := by rw [← lss]; exact (List.getElem?_eq_some_iff.mp eb).1
    have sU : Same H3 (upd H3 U (.tup [.int (j : Nat), .ref b])) := Same.new hU
    have s4 := s3'.trans sU
    have hD4 := hD3.same sU
    obtain ⟨ca, cl, wa1, wa2, cps, wa3, wa4⟩ := hwy.same s4
    have ob' := s4 _ _ ob0
    have q3' := SqT.same s4 q30
    refine ⟨U, _, rfl, SqT.of upd_same, rfl, _, _, rfl, _, _, rfl, rfl, _, rfl, a, _, _, _, rfl, rfl, wa1, rfl, cl, _, rfl, .inl (SqL.of wa3), fun L hL => ?_⟩
    generalize hH5 : upd (upd H3 U (.tup [.int (j : Nat), .ref b])) L (.lst (cps.map V.ref)) = H5
    have sL : Same (upd H3 U (.tup [.int (j : Nat), .ref b])) H5 := hH5 ▸ Same.new hL
    have hL5 : H5 L = some (.lst (cps.map V.ref)) := by rw [← hH5]; exact upd_same
    have s5 := s4.trans sL
    obtain ⟨stv, estv, hst⟩ := pd_get q2 eb
    have est : x.settings.getD j [] = stv := by rw [List.getD_eq_getElem?_getD, estv]; rfl
    have hst5 : MixAt K H5 b stv := hst.same s5
    refine ⟨_, rfl, _, rfl, _, rfl, p, _, dx, _, _, rfl, sL _ _ ob', T.Machine.cl, T.na_Machine_belts, rfl, _, rfl, L, ba, b, wy.2, k, x.a, x.b, stv, rfl, ⟨cps, hL5, pd_imp (fun _ _ z => z.same sL) wa4⟩, SqT.same sL q3', hst5, ok.thou _ (List.mem_of_getElem? estv), by rw [l1]; omega, by rw [l1]; have := ok.la; unfold Leads at this; omega, by rw [l1]; have := ok.lb; unfold Leads at this; omega, fun H6 k6 hp6 => ?_⟩
    have s6 : Same (upd H3 U (.tup [.int (j : Nat), .ref b])) H6 := fun c o h => k6 c o (sL c o h) (ne_of_none h hL)
    obtain ⟨dps, d1, d2⟩ := hD4.same s6
    have lD := pd_len d2
    refine ⟨_, rfl, .inl ⟨rfl, _, SqL.of d1⟩, _, rfl, a, _, _, _, rfl, rfl, SqT.same s6 wa1, rfl, _, rfl, by show 1 ≤ sizeLine; decide, fun P1 hP1 => ?_⟩
    have s7 := s6.trans (Same.new (o := .tup [.int (j : Nat)]) hP1)
    refine ⟨ca, P1, nts wy.1, [.int (j : Nat)], rfl, rfl, SqT.same s7 wa2, SqT.of upd_same, by rw [nts_len, l2]; exact Nat.le_trans (show k + 1 ≤ 10 by omega) (by decide), fun p2 H8 s8 hp2 => ?_⟩
    rw [nts_snoc] at hp2
    refine ⟨_, rfl, by show 2 ≤ sizeLine; decide, fun P3 hP3 => ?_⟩
    have s9 := (s7.trans s8).trans (Same.new (o := .tup [.ref p2, .ref L]) hP3)
    have s69 : Same H6 (upd H8 P3 (.tup [.ref p2, .ref L])) := ((Same.new (o := .tup [.int (j : Nat)]) hP1).trans s8).trans (Same.new hP3)
    have lt1 : (dps.map V.ref).length < sizeLine := by
     rw [List.length_map, lD, List.length_append, List.length_map, List.length_range, branch_len]
     have h3 : (ws.take i).length ≤ 300 := by rw [List.length_take]; omega
     have h4 : (ws.take i).length * x.settings.length ≤ 300 * 3 := Nat.mul_le_mul h3 s3
     exact Nat.lt_of_le_of_lt (show _ ≤ 1000 by omega) (by decide)
    refine ⟨D, _, _, rfl, rfl, s69 _ _ d1, lt1, ?_⟩
    have k10 : KF (· = D) (upd H8 P3 (.tup [.ref p2, .ref L])) (upd (upd H8 P3 (.tup [.ref p2, .ref L])) D (.lst (dps.map V.ref ++ [.ref P3]))) := KF.upd rfl
    have w10 := Wr.lst (s69 _ _ d1)
    have nLD : L ≠ D := fun z => by
     obtain ⟨e3, d3, _⟩ := hD4
     rw [z, d3] at hL; cases hL
    refine ⟨⟨_, _, _, rfl⟩, fun c o h => k10 c o (s9 c o (s4 c o h)) (ne_of_none h hD), SqT.kf k10 w10 (SqT.same s9 (SqT.same sU q1')), hjs, dps ++ [P3], ?_, ?_⟩
    ·rw [upd_same, List.map_append]; rfl
    ·rw [List.range_succ, List.map_append, ← List.append_assoc]
     refine pd_app (pd_imp (fun _ _ z => (z.same s69).kf k10 w10) d2) (.cons ?_ .nil)
     refine WayN.kf k10 w10 ⟨p2, L, SqT.of upd_same, SqT.same (Same.new hP3) hp2, ?_, nLD⟩
     show MixesAt K _ L (partC wy.2 k x.a x.b (x.settings.getD j []))
     rw [est]
     exact hp6.same s69
   ·rintro σ H3 ⟨⟨v5, v6, v7, rfl⟩, s3', q1', hj, hD3⟩
    refine ⟨⟨_, _, _, _, rfl⟩, s3', ?_⟩
    have lss := pd_len q2
    rw [List.length_map, lss] at hD3
    rw [take_snoc ew]
    have e : branchC k x (ws.take i ++ [wy]) = branchC k x (ws.take i) ++ (List.range x.settings.length).map fun j => branch1 k x wy j := by
     unfold branchC; rw [List.flatMap_append]; simp
    rw [e]
    exact hD3
  ·rintro σ H2 ⟨⟨v4, v5, v6, v7, rfl⟩, s2, hD2⟩
   rw [List.length_map, lp, List.take_length] at hD2
   exact ⟨_, rfl, q D H2 s2 hD hD2.way⟩
def sfs (harm hopper machines bays bales fed dumped cost : V) : List (Str × V) := [("harm", harm), ("hopper", hopper), ("machines", machines), ("bays", bays), ("bales", bales), ("fed", fed), ("dumped", dumped), ("cost", cost)]
structure SA where
 p : Addr
 dx : Addr
 ha : Addr
 ml : Addr
 bl : Addr
 sl : Addr
 fa : Addr
 da : Addr
 ms : List Addr
 bs : List Addr
 es : List Addr
 bm : List Mix
def BaleAt (K : PySem.W.Frag) (H : Hp) (e : Addr) (b : Bale × Mix) : Prop := (∃ a, SqT K H e [.int (b.1.bay : Nat), .ref a, .int (b.1.money : Nat)] ∧ MixAt K H a b.2) ∧ b.1.kg = Km414.sum b.2
theorem BaleAt.same {H H' : Hp} {e : Addr} {b : Bale × Mix} (s : Same H H') (h : BaleAt K H e b) : BaleAt K H' e b := by
 obtain ⟨⟨a, h1, h2⟩, h3⟩ := h
 exact ⟨⟨a, SqT.same s h1, h2.same s⟩, h3⟩
theorem BaleAt.kf {F : Addr → Prop} {H H' : Hp} {e : Addr} {b : Bale × Mix} (k : KF F H H') (hF : ∀ c, F c → Wr H c) (h : BaleAt K H e b) : BaleAt K H' e b := by
 obtain ⟨⟨a, h1, h2⟩, h3⟩ := h
 exact ⟨⟨a, SqT.kf k hF h1, h2.kf k hF⟩, h3⟩
structure StateAt (t : Ad) (K : PySem.W.Frag) (H : Hp) (s : SA) (w : Works) : Prop where
 ob : H s.p = some (.ins t.c_State s.dx (sfs (.int (w.harm : Nat)) (.ref s.ha) (.ref s.ml) (.ref s.bl) (.ref s.sl) (.ref s.fa) (.ref s.da) (.int (w.cost : Nat))))
 hop : MixAt K H s.ha w.hopper
 ml : H s.ml = some (.lst (s.ms.map V.ref))
 mach : Paired (MachAt t K H) s.ms w.machines
 bl : H s.bl = some (.lst (s.bs.map V.ref))
 bays : Paired (BayAt t K H) s.bs w.bays
 sl : H s.sl = some (.lst (s.es.map V.ref))
 bales : Paired (BaleAt K H) s.es (w.bales.zip s.bm)
 bml : s.bm.length = w.bales.length
 baled : w.baled = s.bm.foldl plus none6
 fed : MixAt K H s.fa w.fed
 dum : MixAt K H s.da w.dumped
 ndm : s.ms.Nodup
 ndb : s.bs.Nodup
 nsl : s.sl ≠ s.ml ∧ s.sl ≠ s.bl ∧ s.ml ≠ s.bl
theorem StateAt.same {H H' : Hp} {s : SA} {w : Works} (e : Same H H') (h : StateAt t K H s w) : StateAt t K H' s w :=
 ⟨e _ _ h.ob, h.hop.same e, e _ _ h.ml, pd_imp (fun _ _ q => q.same e) h.mach, e _ _ h.bl, pd_imp (fun _ _ q => q.same e) h.bays, e _ _ h.sl, pd_imp (fun _ _ q => q.same e) h.bales, h.bml, h.baled, h.fed.same e, h.dum.same e, h.ndm, h.ndb, h.nsl⟩
theorem StateAt.machs {H : Hp} {s : SA} {w : Works} (h : StateAt t K H s w) : MachsAt t K H s.ml w.machines := ⟨s.ms, SqL.of h.ml, h.mach⟩
theorem StateAt.bayss {H : Hp} {s : SA} {w : Works} (h : StateAt t K H s w) : BaysAt t K H s.bl w.bays := ⟨s.bs, SqL.of h.bl, h.bays⟩
def spHopper (t : Ad) (K : PySem.W.Frag) : Sp := fun vs H Q _ => ∃ (s : SA) (w : Works), vs = [.ref s.p] ∧ StateAt t K H s w ∧ WOk w ∧
 ∀ p H', Same H H' → H p = none → MixesAt K H' p (putH (bMixes w.bays) w.machines (w.machines.map fun x => x.now) w.hopper) → Q (.ref p) H'
theorem ok_put_hopper_through (T : Txt K mg t) : FnOk P w K mg base CX0 4 t.put_hopper_through.f t.put_hopper_through.d ["state"] (spHopper t K) := by
 refine T.put_hopper_through.fn.ok sc_put_hopper_through (fun vs H Q E h => ?_) (fun cdv A outer s H vs Q E hr h => ?_)
 ·obtain ⟨s, w, rfl, _⟩ := h
  rfl
 ·obtain ⟨s, w, rfl, hs, ok, q⟩ := h
  refine ⟨_, (pss_one (ps_ret (pcall T.put_through (ok_put_through T) hr.m (pa_cons (pcall T.mixes_of (ok_mixes_of T) hr.m (pa_cons (pfld (K := K) (pv 0)) pa_nil)) (pa_cons (pfld (K := K) (pv 0)) (pa_cons (pfld (K := K) (pv 0)) pa_nil)))))), ?_⟩
  refine ⟨_, rfl, s.p, _, s.dx, _, _, rfl, hs.ob, T.State.cl, T.na_State_bays, rfl, s.bl, w.bays, rfl, hs.bayss, by rw [ok.b6]; decide, fun p H1 s1 hp hp1 => ?_⟩
  refine ⟨_, rfl, s.p, _, s.dx, _, _, rfl, s1 _ _ hs.ob, T.State.cl, T.na_State_machines, rfl, _, rfl, s.p, _, s.dx, _, _, rfl, s1 _ _ hs.ob, T.State.cl, T.na_State_hopper, rfl, p, s.ml, s.ha, _, _, _, rfl, hp1, by simp [bMixes, ok.b6], (hs.same s1).machs, ok.ms, hs.hop.same s1, fun p2 H2 s2 hp2 hq2 => ?_⟩
  exact q p2 H2 (s1.trans s2) (s1.free hp2) hq2
def spWays (t : Ad) (K : PySem.W.Frag) : Sp := fun vs H Q _ => ∃ (s : SA) (w : Works), vs = [.ref s.p] ∧ StateAt t K H s w ∧ WOk w ∧
 ∀ p H', Same H H' → H p = none → WaysAt K H' p (waysH (bMixes w.bays) w.machines w.hopper) → Q (.ref p) H'
theorem ok_ways_through (T : Txt K mg t) : FnOk P w K mg base CX0 4 t.ways_through.f t.ways_through.d ["state"] (spWays t K) := by
 refine T.ways_through.fn.ok sc_ways_through (fun vs H Q E h => ?_) (fun cdv A outer s H vs Q E hr h => ?_)
 ·obtain ⟨s, w, rfl, _⟩ := h
  rfl
 ·obtain ⟨s, w, rfl, hs, wk, q⟩ := h
  have ok := wk.ms
  have h1 := SqL.of (K := K) hs.ml
  have h2 := hs.mach
  have lp := pd_len h2
  have n5 := ok.n5
  have hm := hs.hop
  have h66 : (bMixes w.bays).length = 6 := by simp [bMixes, wk.b6]
  refine ⟨_, (pss_cons (ps_set (i := 1) sc_ways_through.nd rfl (Or.inl rfl) (pe_lst (pa_cons (pe_tup (pa_cons (pe_tup pa_nil) (pa_cons (pcall T.entered (ok_entered T) hr.m (pa_cons (pcall T.mixes_of (ok_mixes_of T) hr.m (pa_cons (pfld (K := K) (pv 0)) pa_nil)) (pa_cons (pfld (K := K) (pv 0)) (pa_cons (pfld (K := K) (pv 0)) pa_nil)))) pa_nil))) pa_nil))) (pss_cons (ps_for PassesOwn.never rfl (penumL (K := K) (by rfl) T.n_enumerate (pa_cons (pfld (K := K) (pv 0)) pa_nil)) (ptupG (K := K) (n := 2) rfl (pgs_cons (pg_name (i := 2) sc_ways_through.nd rfl (Or.inr rfl)) (pgs_cons (pg_name (i := 3) sc_ways_through.nd rfl (Or.inr rfl)) pgs_nil))) (pss_cons (ps_setLc (i := 4) rfl sc_ways_through.nd rfl rfl (sw_true rfl rfl rfl rfl) (plistI (K := K) (pv 1)) (own := [("way", 5)]) (blkOk_by (by rfl)) (fun _ _ _ _ _ => (pg_name (i := 5) sc_ways_through.nd rfl (Or.inl rfl) (Or.inr rfl))) (fun _ _ _ _ _ => pts_one (pt_cmpR op_le (pe_callB (cr_sumTK (K := K) rfl) (by rfl) T.n_sum boot_sum (pa_cons (pe_ix (ix_listK (K := K)) (pe_ix (ix_tupK (K := K)) (pv 5) pe_int (fun _ _ => rfl)) (pe_op op_add (pgI T.g_BAYS) (pv 2)) (fun _ _ => rfl)) pa_nil)) (pfld (K := K) (pv 3)) (nomark _))) (fun _ _ _ _ _ => (pv 5))) (pss_one (ps_set (i := 1) sc_ways_through.nd rfl (Or.inl rfl) (pcall T.branched (ok_branched T) hr.m (pa_cons (pv 4) (pa_cons (pv 2) (pa_cons (pv 3) pa_nil)))))))) (pss_one (ps_ret (pv 1))))), ?_⟩
  refine ⟨by show 0 ≤ sizeLine; decide, fun E0' hE0 => ?_⟩
  have sE : Same H (upd H E0' (.tup [])) := Same.new hE0
  refine ⟨_, rfl, s.p, _, s.dx, _, _, rfl, sE _ _ hs.ob, T.State.cl, T.na_State_bays, rfl, s.bl, w.bays, rfl, (hs.same sE).bayss, by rw [wk.b6]; decide, fun p0 H0 s0 hp0 hq0 => ?_⟩
  have sE0 := sE.trans s0
  refine ⟨_, rfl, s.p, _, s.dx, _, _, rfl, sE0 _ _ hs.ob, T.State.cl, T.na_State_machines, rfl, _, rfl, s.p, _, s.dx, _, _, rfl, sE0 _ _ hs.ob, T.State.cl, T.na_State_hopper, rfl, p0, s.ml, s.ha, _, _, w.hopper, rfl, hq0, h66, Same.seq sE0 h1, by rw [List.length_map, lp]; omega, hm.same sE0, fun p H1 s1 hp hp1 => ?_⟩
  rw [List.length_map, lp] at hp1
  generalize hms : w.machines = ms at *
  generalize hhd : bMixes w.bays = had at *
  generalize hmm : w.hopper = m at *
  refine ⟨by show 2 ≤ sizeLine; decide, fun W0 hW0 => ⟨by show 1 ≤ sizeLine; decide, fun L0 hL0 => ?_⟩⟩
  have sW : Same H1 (upd H1 W0 (.tup [.ref E0', .ref p])) := Same.new hW0
  have sL : Same (upd H1 W0 (.tup [.ref E0', .ref p])) (upd (upd H1 W0 (.tup [.ref E0', .ref p])) L0 (.lst [.ref W0])) := Same.new hL0
  have s00 := ((sE0.trans s1).trans sW).trans sL
  refine ⟨_, rfl, s.p, _, s.dx, _, _, rfl, s00 _ _ hs.ob, T.State.cl, T.na_State_machines, rfl, s.ml, _, rfl, Same.seq s00 h1, ?_⟩
  refine for_enumL (xs := s.ms.map V.ref) (fun i σ H' => ∃ lw, (∃ v3 v4 v5 v6, σ = [some (.ref s.p), some (.ref lw), v3, v4, v5, v6]) ∧ Same H H' ∧ H lw = none ∧ WaysAt K H' lw (waysFrom (ms.take i) 0 [([], enterH had ms.length m)]) ∧ WsOk ms.length i (waysFrom (ms.take i) 0 [([], enterH had ms.length m)]))
   ⟨L0, ⟨_, _, _, _, rfl⟩, s00, ((sE0.trans s1).trans sW).free hL0, ⟨[W0], upd_same, .cons ⟨E0', p, SqT.of (sL _ _ upd_same), SqT.of (sL _ _ (sW _ _ (s1 _ _ (s0 _ _ upd_same)))), (hp1.same sW).same sL⟩ .nil⟩, ⟨Nat.le_refl 1, fun w hw => by
    rw [List.mem_singleton.mp hw]; exact ⟨by rw [enterH_len, h66], rfl⟩⟩⟩ (fun i σ H' ⟨_, _, s2, _⟩ => Same.seq s2 h1) ?_ ?_
  ·rintro i x U σ H2 hx ⟨lw, ⟨v3, v4, v5, v6, rfl⟩, s2, hlw, hw2, wok⟩ hU
   rw [List.getElem?_map] at hx
   obtain ⟨c, ec, rfl⟩ : ∃ c, s.ms[i]? = some c ∧ x = V.ref c := by
    cases e : s.ms[i]? with
    | none => rw [e] at hx; cases hx
    | some c => rw [e] at hx; exact ⟨c, rfl, (Option.some.inj hx).symm⟩
   obtain ⟨y, ey, my⟩ := pd_get h2 ec
   have oy := ok.each i y ey
   have iy : i < ms.length := (List.getElem?_eq_some_iff.mp ey).1
   have sU : Same H2 (upd H2 U (.tup [.int (i : Nat), .ref c])) := Same.new hU
   have s3 := s2.trans sU
   obtain ⟨wps, w1, w2⟩ := hw2.same sU
   have lw2 := pd_len w2
   generalize hws : waysFrom (ms.take i) 0 [([], enterH had ms.length m)] = ws at *
   refine ⟨U, _, rfl, SqT.of upd_same, rfl, _, _, rfl, _, _, rfl, rfl, _, rfl, lw, rfl, ⟨_, SqL.of w1⟩, fun D hD => ?_⟩
   refine lc_list (xs := wps.map V.ref) (fun j H' => Same (upd H2 U (.tup [.int (i : Nat), .ref c])) H' ∧ ∃ as, H' D = some (.lst (as.map V.ref)) ∧ as.length ≤ j ∧ Paired (WayAt K (upd H2 U (.tup [.int (i : Nat), .ref c]))) as (ableC i y (ws.take j))) ?_ (fun j H' _ ⟨s4, _⟩ => SqL.of (s4 _ _ w1)) ?_ ?_
   ·exact ⟨Same.new hD, [], upd_same, Nat.le_refl 0, .nil⟩
   ·rintro j v H3 hv ⟨s4, as, ha, hal, hp⟩
    rw [List.getElem?_map] at hv
    obtain ⟨b, eb, rfl⟩ : ∃ c, wps[j]? = some c ∧ v = V.ref c := by
     cases e : wps[j]? with
     | none => rw [e] at hv; cases hv
     | some c => rw [e] at hv; exact ⟨c, rfl, (Option.some.inj hv).symm⟩
    obtain ⟨wy, ew, hwy⟩ := pd_get w2 eb
    obtain ⟨l1, l2⟩ := wok.each wy (List.mem_of_getElem? ew)
    obtain ⟨ca, cl, q1, q2, cps, q3, q4⟩ := hwy.same s4
    obtain ⟨mk, e1, m1⟩ := MixesAt.at_ (l := cl) q4 (i := 6 + i) (by rw [l1]; omega)
    obtain ⟨dx, sa, ba, ss, ob, -⟩ := (my.same (s3.trans s4)).ob
    have jw : j < ws.length := (List.getElem?_eq_some_iff.mp ew).1
    refine ⟨rfl, _, rfl, b, _, _, _, rfl, rfl, q1, rfl, _, rfl, _, _, rfl, rfl, cl, _, _, _, rfl, rfl, SqL.of q3, at_of (j := 6 + i) (by omega) (refs_at e1), mk, _, rfl, m1.sum, _, rfl, c, _, dx, _, _, rfl, ob, T.Machine.cl, T.na_Machine_most, rfl, _, _, rfl, rfl, _, rfl, ?_⟩
    dsimp only
    rw [isum]
    have lal : as.length < sizeLine := by
     have : ws.length ≤ 300 := Nat.le_trans wok.len (pow3 (by omega))
     exact Nat.lt_of_le_of_lt (show as.length ≤ 300 by omega) (by decide)
    refine ite2 (fun g => ?_) (fun g => ?_)
    ·rw [decide_eq_true_eq] at g
     have g' : isAble i y wy = true := by unfold isAble; rw [decide_eq_true_eq]; omega
     refine ⟨_, rfl, _, ha, by rw [List.length_map]; exact lal, ?_⟩
     refine ⟨Same.newKeep hD s4, as ++ [b], ?_, by rw [List.length_append]; simp; omega, ?_⟩
     ·rw [upd_same, List.map_append]; rfl
     ·rw [take_snoc ew]
      have e3 : ableC i y (ws.take j ++ [wy]) = ableC i y (ws.take j) ++ [wy] := by
       unfold ableC; rw [List.filter_append]; simp [g']
      rw [e3]
      exact pd_app hp (.cons hwy .nil)
    ·rw [decide_eq_true_eq] at g
     have g' : isAble i y wy = false := by unfold isAble; rw [decide_eq_false_iff_not]; omega
     refine ⟨s4, as, ha, by omega, ?_⟩
     rw [take_snoc ew]
     have e3 : ableC i y (ws.take j ++ [wy]) = ableC i y (ws.take j) := by
      unfold ableC; rw [List.filter_append]; simp [g']
     rw [e3]
     exact hp
   ·rintro H3 ⟨s4, as, ha, hal, hp⟩
    rw [List.length_map, lw2, List.take_length] at hp
    have hw300 : ws.length ≤ 300 := Nat.le_trans wok.len (pow3 (by omega))
    refine ⟨_, rfl, _, rfl, _, rfl, D, c, ms.length, i, y, ableC i y ws, rfl, ⟨as, ha, pd_imp (fun _ _ z => z.same s4) hp⟩, my.same (s3.trans s4), oy, iy, n5, Nat.le_trans (List.length_filter_le _ _) hw300, fun w hw => wok.each w (List.mem_filter.mp hw).1, fun q' H4 s5 hq' hw4 => ?_⟩
    have s6 := (s3.trans s4).trans s5
    refine ⟨q', ⟨_, _, _, _, rfl⟩, s6, (s3.trans s4).free hq', ?_⟩
    have e1 : (ms.take i).length = i := by rw [List.length_take]; omega
    rw [take_snoc ey, waysFrom_snoc, Nat.zero_add, e1, hws]
    exact ⟨hw4, wok.step oy.s3⟩
  ·rintro σ H2 ⟨lw, ⟨v3, v4, v5, v6, rfl⟩, s2, hlw, hw2, wok⟩
   rw [List.length_map, lp, List.take_length] at hw2
   exact ⟨_, rfl, q lw H2 s2 hlw hw2⟩
def spFits (t : Ad) (K : PySem.W.Frag) : Sp := fun vs H Q _ => ∃ (s : SA) (c : Addr) (w : Works) (ms : List Mix), vs = [.ref s.p, .ref c] ∧ StateAt t K H s w ∧ MixesAt K H c ms ∧ 6 ≤ ms.length ∧ ms.length ≤ 1000 ∧
 ∀ H', Same H H' → Q (.bl (partOk w.machines ((ms.drop 6).map Km414.sum) && holdH w.bays ms)) H'
theorem ok_fits (T : Txt K mg t) : FnOk P w K mg base CX0 3 t.fits.f t.fits.d ["state", "places"] (spFits t K) := by
 refine T.fits.fn.ok sc_fits (fun vs H Q E h => ?_) (fun cdv A outer s H vs Q E hr h => ?_)
 ·obtain ⟨s, c, w, ms, rfl, _⟩ := h
  rfl
 ·obtain ⟨s, c, w, ms, rfl, hs, hc, h6, hk, q⟩ := h
  refine ⟨_, (pss_one (ps_ret (pe_and (pcall T.machines_part (ok_machines_part T) hr.m (pa_cons (pfld (K := K) (pv 0)) (pa_cons (pv 1) pa_nil))) (pe_one (pcall T.bays_hold (ok_bays_hold T) hr.m (pa_cons (pfld (K := K) (pv 0)) (pa_cons (pv 1) pa_nil))))))), ?_⟩
  refine ⟨_, rfl, s.p, _, s.dx, _, _, rfl, hs.ob, T.State.cl, T.na_State_machines, rfl, _, rfl, s.ml, c, w.machines, ms, rfl, hs.machs, hc, h6, hk, fun H1 s1 => ?_⟩
  refine ⟨_, rfl, ite2 (fun g => ?_) (fun g => ?_)⟩
  ·refine ⟨_, rfl, s.p, _, s.dx, _, _, rfl, s1 _ _ hs.ob, T.State.cl, T.na_State_bays, rfl, _, rfl, s.bl, c, w.bays, ms, rfl, (hs.same s1).bayss, hc.same s1, hk, fun H2 s2 => ?_⟩
   have := q H2 (s1.trans s2)
   rw [g, Bool.true_and] at this
   exact this
  ·have g : partOk w.machines ((ms.drop 6).map Km414.sum) = false := by simpa using g
   have := q H1 s1
   rw [g, Bool.false_and] at this
   exact this
def BestAt (K : PySem.W.Frag) (H : Hp) (v : V) : Option (List Nat × Nat) → Prop
 | none => v = .non
 | some (s, u) => ∃ a c, v = .ref a ∧ SqT K H a [.ref c, .int (u : Nat)] ∧ SqT K H c (nts s)
theorem BestAt.same {H H' : Hp} {v : V} {o : Option (List Nat × Nat)} (e : Same H H') (h : BestAt K H v o) : BestAt K H' v o := by
 cases o with
 | none => exact h
 | some p =>
  obtain ⟨a, c, h1, h2, h3⟩ := h
  exact ⟨a, c, h1, SqT.same e h2, SqT.same e h3⟩
theorem waysH_oks {w : Works} (ok : WOk w) : WsOk w.machines.length w.machines.length (waysH (bMixes w.bays) w.machines w.hopper) := by
 have e := waysH_ok (had := bMixes w.bays) (by simp [bMixes, ok.b6]) ok.ms w.hopper w.machines 0 (by simp) (fun x hx => by
  obtain ⟨i, hi⟩ := List.getElem?_of_mem hx
  exact (ok.ms.each i x hi).s3) [([], enterH (bMixes w.bays) w.machines.length w.hopper)] ⟨Nat.le_refl 1, fun y hy => by
   rw [List.mem_singleton.mp hy]; exact ⟨by rw [enterH_len]; simp [bMixes, ok.b6], rfl⟩⟩
 rw [Nat.zero_add] at e
 exact e
def spBest (t : Ad) (K : PySem.W.Frag) : Sp := fun vs H Q _ => ∃ (s : SA) (w : Works), vs = [.ref s.p] ∧ StateAt t K H s w ∧ WOk w ∧
 ∀ v H', Same H H' → BestAt K H' v (bestC w.harm w.bays (waysC w.machines w.hopper)) → Q v H'
theorem ok_best_settings (T : Txt K mg t) : FnOk P w K mg base CX0 5 t.best_settings.f t.best_settings.d ["state"] (spBest t K) := by
 refine T.best_settings.fn.ok sc_best_settings (fun vs H Q E h => ?_) (fun cdv A outer s H vs Q E hr h => ?_)
 ·obtain ⟨s, w, rfl, _⟩ := h
  rfl
 ·obtain ⟨s, w, rfl, hs, ok, q⟩ := h
  have wok := waysH_oks ok
  refine ⟨_, (pss_cons (ps_set (i := 1) sc_best_settings.nd rfl (Or.inl rfl) pe_non) (pss_cons (ps_for PassesOwn.never rfl (plistI (K := K) (pcall T.ways_through (ok_ways_through T) hr.m (pa_cons (pv 0) pa_nil))) (pg_name (i := 2) sc_best_settings.nd rfl (Or.inl rfl)) (pss_one (ps_if (pt_val (pcall T.bays_hold (ok_bays_hold T) hr.m (pa_cons (pfld (K := K) (pv 0)) (pa_cons (pe_ix (ix_tupK (K := K)) (pv 2) pe_int (fun _ _ => rfl)) pa_nil)))) (pss_cons (ps_set (i := 3) sc_best_settings.nd rfl (Or.inl rfl) (pcall T.worth_of_all (ok_worth_of_all T) hr.m (pa_cons (pfld (K := K) (pv 0)) (pa_cons (pe_ix (ix_tupK (K := K)) (pv 2) pe_int (fun _ _ => rfl)) (pa_cons (pfld (K := K) (pv 0)) pa_nil))))) (pss_one (ps_if (PW.pt (pw_or (pt_cmp (pc_isN (pv 1))) (pw_or1 (pt_cmpR op_gt (pv 3) (pe_ix (ix_tupK (K := K)) (pv 1) pe_int (fun _ _ => rfl)) (nomark _))))) (pss_one (ps_set (i := 1) sc_best_settings.nd rfl (Or.inl rfl) (pe_tup (pa_cons (pe_ix (ix_tupK (K := K)) (pv 2) pe_int (fun _ _ => rfl)) (pa_cons (pv 3) pa_nil))))) pss_nil))) pss_nil))) (pss_one (ps_ret (pv 1))))), ?_⟩
  refine ⟨_, rfl, s, w, rfl, hs, ok, fun p H1 s1 hp ⟨ps, h1, h2⟩ => ?_⟩
  have lp := pd_len h2
  refine ⟨p, rfl, ⟨_, SqL.of h1⟩, ?_⟩
  refine for_list (xs := ps.map V.ref) (fun i σ H' => (∃ v v2 v3, σ = [some (.ref s.p), some v, v2, v3] ∧ BestAt K H' v (bestH w.harm w.bays ((waysH (bMixes w.bays) w.machines w.hopper).take i))) ∧ Same H1 H')
   ⟨⟨.non, _, _, rfl, rfl⟩, Same.refl H1⟩ (fun i σ H' _ ⟨_, s2⟩ => SqL.of (s2 _ _ h1)) ?_ ?_
  ·rintro i y σ H2 hy ⟨⟨v, v2, v3, rfl, hv⟩, s2⟩
   rw [List.getElem?_map] at hy
   obtain ⟨a, ea, rfl⟩ : ∃ c, ps[i]? = some c ∧ y = V.ref c := by
    cases e : ps[i]? with
    | none => rw [e] at hy; cases hy
    | some c => rw [e] at hy; exact ⟨c, rfl, (Option.some.inj hy).symm⟩
   obtain ⟨wy, ew, hwy⟩ := pd_get h2 ea
   obtain ⟨l1, l2⟩ := wok.each wy (List.mem_of_getElem? ew)
   obtain ⟨ca, cl, q1, q2, q3⟩ := hwy.same s2
   have s12 := s1.trans s2
   have e0 : bestH w.harm w.bays ((waysH (bMixes w.bays) w.machines w.hopper).take (i + 1)) = if holdH w.bays wy.2 = true then (match bestH w.harm w.bays ((waysH (bMixes w.bays) w.machines w.hopper).take i) with
     | none => some (wy.1, worthH w.harm w.bays wy.2)
     | some (s, u) => if u < worthH w.harm w.bays wy.2 then some (wy.1, worthH w.harm w.bays wy.2) else some (s, u)) else bestH w.harm w.bays ((waysH (bMixes w.bays) w.machines w.hopper).take i) := by
    rw [take_snoc ew]; unfold bestH; rw [List.foldl_append]; rfl
   have n5 := ok.ms.n5
   refine ⟨_, rfl, s.p, _, s.dx, _, _, rfl, s12 _ _ hs.ob, T.State.cl, T.na_State_bays, rfl, _, rfl, a, _, _, _, rfl, rfl, q1, rfl, s.bl, cl, w.bays, wy.2, rfl, (hs.same s12).bayss, q3, by rw [l1]; omega, fun H3 s3 => ?_⟩
   refine ⟨_, rfl, ite2 (fun g => ?_) (fun g => ?_)⟩
   ·rw [g] at e0
    rw [if_pos rfl] at e0
    have s13 := s12.trans s3
    refine ⟨_, rfl, s.p, _, s.dx, _, _, rfl, s13 _ _ hs.ob, T.State.cl, T.na_State_bays, rfl, _, rfl, a, _, _, _, rfl, rfl, SqT.same s3 q1, rfl, _, rfl, s.p, _, s.dx, _, _, rfl, s13 _ _ hs.ob, T.State.cl, T.na_State_harm, rfl, s.bl, cl, w.bays, wy.2, w.harm, rfl, (hs.same s13).bayss, ok.bays, q3.same s3, fun H4 s4 => ?_⟩
    have s34 := s3.trans s4
    have s24 := s2.trans s34
    have fin : ∀ pn, (upd H4 pn (.tup [.ref ca, .int ((worthH w.harm w.bays wy.2 : Nat) : Int)])) pn = some (.tup [.ref ca, .int ((worthH w.harm w.bays wy.2 : Nat) : Int)]) → H4 pn = none →
      BestAt K (upd H4 pn (.tup [.ref ca, .int ((worthH w.harm w.bays wy.2 : Nat) : Int)])) (.ref pn) (some (wy.1, worthH w.harm w.bays wy.2)) ∧ Same H1 (upd H4 pn (.tup [.ref ca, .int ((worthH w.harm w.bays wy.2 : Nat) : Int)])) := fun pn hpn hn =>
     ⟨⟨pn, ca, rfl, SqT.of hpn, SqT.same (Same.new hn) (SqT.same s34 q2)⟩, s24.trans (Same.new hn)⟩
    generalize hb : bestH w.harm w.bays ((waysH (bMixes w.bays) w.machines w.hopper).take i) = ob at hv e0
    cases ob with
    | none =>
     obtain rfl : v = .non := hv
     refine ⟨_, rfl, _, rfl, ?_⟩
     refine ⟨_, rfl, a, _, _, _, rfl, rfl, SqT.same s34 q1, rfl, _, rfl, by show 2 ≤ sizeLine; decide, fun pn hn => ?_⟩
     obtain ⟨f1, f2⟩ := fin pn upd_same hn
     refine ⟨⟨_, _, _, rfl, ?_⟩, f2⟩
     rw [e0]
     exact f1
    | some pr =>
     obtain ⟨bs0, u⟩ := pr
     obtain ⟨a', c', rfl, b1, b2⟩ := hv
     refine ⟨_, rfl, _, rfl, ?_⟩
     refine ⟨_, rfl, _, rfl, a', _, _, _, rfl, rfl, SqT.same s34 b1, rfl, _, _, rfl, rfl, _, rfl, ite2 (fun g2 => ?_) (fun g2 => ?_)⟩
     ·rw [decide_eq_true_eq] at g2
      refine ⟨_, rfl, a, _, _, _, rfl, rfl, SqT.same s34 q1, rfl, _, rfl, by show 2 ≤ sizeLine; decide, fun pn hn => ?_⟩
      obtain ⟨f1, f2⟩ := fin pn upd_same hn
      refine ⟨⟨_, _, _, rfl, ?_⟩, f2⟩
      have e1 : u < worthH w.harm w.bays wy.2 := by omega
      simp only [e1, if_true] at e0
      rw [e0]
      exact f1
     ·rw [decide_eq_true_eq] at g2
      refine ⟨⟨_, _, _, rfl, ?_⟩, s24⟩
      have e1 : ¬ u < worthH w.harm w.bays wy.2 := by omega
      simp only [e1, if_false] at e0
      rw [e0]
      exact ⟨a', c', rfl, SqT.same s34 b1, SqT.same s34 b2⟩
   ·have g : holdH w.bays wy.2 = false := by simpa using g
    rw [g] at e0
    rw [if_neg (by decide)] at e0
    refine ⟨⟨v, _, _, rfl, ?_⟩, s2.trans s3⟩
    rw [e0]
    exact hv.same s3
  ·rintro σ H2 ⟨⟨v, v2, v3, rfl, hv⟩, s2⟩
   rw [List.length_map, lp, List.take_length, bestH_eq ok] at hv
   exact ⟨_, rfl, q v H2 (s1.trans s2) hv⟩
theorem Same.inst {H : Hp} {x dx C : Addr} {fs : List (Str × V)} (hx : H x = none) (hd : H dx = none) : Same H (upd (upd H dx (.own x)) x (.ins C dx fs)) := fun b o e => by
 rw [upd_ne (ne_of_none e hx), upd_ne (ne_of_none e hd)]; exact e
theorem KF.sameNew {H H0 H1 : Hp} {x : Addr} (hx : H x = none) (s : Same H H0) (k : KF (· = x) H0 H1) : Same H H1 := fun b o e => k b o (s b o e) (ne_of_none e hx)
def spMInit (t : Ad) (K : PySem.W.Frag) : Sp := fun vs H Q _ => ∃ (p dx : Addr) (v1 v2 : V), vs = [.ref p, v1, v2] ∧ H p = some (.ins t.c_Machine dx []) ∧
 ∀ H' sa ba, KF (· = p) H H' → H' p = some (.ins t.c_Machine dx (mfs v1 (.ref sa) (.int 0) (.ref ba))) → H' sa = some (.tup [v2]) → H' ba = some (.tup [.int 0, .int 1]) → Q .non H'
theorem ok_Machine_init (T : Txt K mg t) : FnOk P w K mg base CX0 1 t.Machine_init.f t.Machine_init.d ["self", "most", "setting"] (spMInit t K) := by
 refine T.Machine_init.fn.ok sc_Machine_init (fun vs H Q E h => ?_) (fun cdv A outer s H vs Q E hr h => ?_)
 ·obtain ⟨p, dx, v1, v2, rfl, _⟩ := h
  rfl
 ·obtain ⟨p, dx, v1, v2, rfl, hp, q⟩ := h
  refine ⟨_, (pss_cons (psfld (K := K) (pv 0) (pv 1)) (pss_cons (psfld (K := K) (pv 0) (pe_tup (pa_cons (pv 2) pa_nil))) (pss_cons (psfld (K := K) (pv 0) pe_int) (pss_one (psfld (K := K) (pv 0) (pe_tup (pa_cons pe_int (pa_cons pe_int pa_nil)))))))), ?_⟩
  refine ⟨_, rfl, _, rfl, p, _, dx, _, rfl, hp, T.Machine.cl, T.na_Machine_most, by show 0 < 1000; decide, ?_⟩
  have k1 : KF (· = p) H (upd H p (.ins t.c_Machine dx (putF "most" v1 []))) := KF.upd rfl
  have hp1 : (upd H p (.ins t.c_Machine dx (putF "most" v1 []))) p = some (.ins t.c_Machine dx (putF "most" v1 [])) := upd_same
  generalize hH1 : upd H p (.ins t.c_Machine dx (putF "most" v1 [])) = H1 at *
  refine ⟨_, rfl, by show 1 ≤ sizeLine; decide, fun sa hsa => ⟨_, rfl, p, _, dx, _, rfl, (Same.new hsa) _ _ hp1, T.Machine.cl, T.na_Machine_settings, by show 1 < 1000; decide, ?_⟩⟩
  have k2 : KF (· = p) H1 (upd (upd H1 sa (.tup [v2])) p (.ins t.c_Machine dx (putF "settings" (.ref sa) (putF "most" v1 [])))) := (KF.same (Same.new hsa)).trans (KF.upd rfl)
  have sp : sa ≠ p := fun z => by rw [z, hp1] at hsa; cases hsa
  have hs2 : (upd (upd H1 sa (.tup [v2])) p (.ins t.c_Machine dx (putF "settings" (.ref sa) (putF "most" v1 [])))) sa = some (.tup [v2]) := by rw [upd_ne sp, upd_same]
  generalize hH2 : upd (upd H1 sa (.tup [v2])) p (.ins t.c_Machine dx (putF "settings" (.ref sa) (putF "most" v1 []))) = H2 at *
  have hp2 : H2 p = some (.ins t.c_Machine dx (putF "settings" (.ref sa) (putF "most" v1 []))) := by rw [← hH2]; exact upd_same
  refine ⟨_, rfl, p, _, dx, _, rfl, hp2, T.Machine.cl, T.na_Machine_chosen, by show 2 < 1000; decide, ?_⟩
  have k3 : KF (· = p) H2 (upd H2 p (.ins t.c_Machine dx (putF "chosen" (.int 0) (putF "settings" (.ref sa) (putF "most" v1 []))))) := KF.upd rfl
  have hs3 : (upd H2 p (.ins t.c_Machine dx (putF "chosen" (.int 0) (putF "settings" (.ref sa) (putF "most" v1 []))))) sa = some (.tup [v2]) := by rw [upd_ne sp]; exact hs2
  generalize hH3 : upd H2 p (.ins t.c_Machine dx (putF "chosen" (.int 0) (putF "settings" (.ref sa) (putF "most" v1 [])))) = H3 at *
  have hp3 : H3 p = some (.ins t.c_Machine dx (putF "chosen" (.int 0) (putF "settings" (.ref sa) (putF "most" v1 [])))) := by rw [← hH3]; exact upd_same
  refine ⟨by show 2 ≤ sizeLine; decide, fun ba hba => ⟨_, rfl, p, _, dx, _, rfl, (Same.new hba) _ _ hp3, T.Machine.cl, T.na_Machine_belts, by show 3 < 1000; decide, ?_⟩⟩
  have bp : ba ≠ p := fun z => by rw [z, hp3] at hba; cases hba
  refine q _ sa ba (((k1.trans k2).trans k3).trans ((KF.same (Same.new hba)).trans (KF.upd rfl))) ?_ ?_ ?_
  ·rw [upd_same]; rfl
  ·rw [upd_ne sp]; exact (Same.new hba) _ _ hs3
  ·rw [upd_ne bp, upd_same]
def spMCopy (t : Ad) (K : PySem.W.Frag) : Sp := fun vs H Q _ => ∃ (p : Addr) (x : Machine), vs = [.ref p] ∧ MachAt t K H p x ∧ ∀ p' H', Same H H' → H p' = none → MachAt t K H' p' x → Q (.ref p') H'
theorem ok_Machine_copied (T : Txt K mg t) : FnOk P w K mg base CX0 3 t.Machine_copied.f t.Machine_copied.d ["self"] (spMCopy t K) := by
 refine T.Machine_copied.fn.ok sc_Machine_copied (fun vs H Q E h => ?_) (fun cdv A outer s H vs Q E hr h => ?_)
 ·obtain ⟨p, x, rfl, _⟩ := h
  rfl
 ·obtain ⟨p, x, rfl, hx, q⟩ := h
  obtain ⟨dx, sa, ba, ss, ob, q1, q2, q3⟩ := hx.ob
  refine ⟨_, (pss_cons (ps_set (i := 1) sc_Machine_copied.nd rfl (Or.inl rfl) (pmake T.Machine T.Machine_init (ok_Machine_init T) hr.m (pa_cons (pfld (K := K) (pv 0)) (pa_cons (pgR T.g_NOTHING) pa_nil)))) (pss_cons (psfld (K := K) (pv 1) (pfld (K := K) (pv 0))) (pss_cons (psfld (K := K) (pv 1) (pfld (K := K) (pv 0))) (pss_cons (psfld (K := K) (pv 1) (pfld (K := K) (pv 0))) (pss_one (ps_ret (pv 1))))))), ?_⟩
  refine ⟨_, rfl, p, _, dx, _, _, rfl, ob, T.Machine.cl, T.na_Machine_most, rfl, fun p' d' hp' hd' hne => ?_⟩
  refine ⟨p', d', _, _, rfl, upd_same, fun H1 sa' ba' k1 hp1 hs1 hb1 => ⟨rfl, ?_⟩⟩
  have s1 : Same H H1 := KF.sameNew hp' (Same.inst hp' hd') k1
  have np : p ≠ p' := ne_of_none ob hp'
  refine ⟨_, rfl, p, _, dx, _, _, rfl, s1 _ _ ob, T.Machine.cl, T.na_Machine_settings, rfl, _, rfl, p', _, d', _, rfl, hp1, T.Machine.cl, T.na_Machine_settings, by show 4 < 1000; decide, ?_⟩
  have k2 : KF (· = p') H1 (upd H1 p' (.ins t.c_Machine d' (putF "settings" (.ref sa) (mfs (.int (x.most : Nat)) (.ref sa') (.int 0) (.ref ba'))))) := KF.upd rfl
  generalize hH2 : upd H1 p' (.ins t.c_Machine d' (putF "settings" (.ref sa) (mfs (.int (x.most : Nat)) (.ref sa') (.int 0) (.ref ba')))) = H2 at *
  have s2 : Same H H2 := KF.sameNew hp' s1 k2
  have hp2 : H2 p' = some (.ins t.c_Machine d' (mfs (.int (x.most : Nat)) (.ref sa) (.int 0) (.ref ba'))) := by rw [← hH2]; exact upd_same
  refine ⟨_, rfl, p, _, dx, _, _, rfl, s2 _ _ ob, T.Machine.cl, T.na_Machine_chosen, rfl, _, rfl, p', _, d', _, rfl, hp2, T.Machine.cl, T.na_Machine_chosen, by show 4 < 1000; decide, ?_⟩
  have k3 : KF (· = p') H2 (upd H2 p' (.ins t.c_Machine d' (putF "chosen" (.int (x.now : Nat)) (mfs (.int (x.most : Nat)) (.ref sa) (.int 0) (.ref ba'))))) := KF.upd rfl
  generalize hH3 : upd H2 p' (.ins t.c_Machine d' (putF "chosen" (.int (x.now : Nat)) (mfs (.int (x.most : Nat)) (.ref sa) (.int 0) (.ref ba')))) = H3 at *
  have s3 : Same H H3 := KF.sameNew hp' s2 k3
  have hp3 : H3 p' = some (.ins t.c_Machine d' (mfs (.int (x.most : Nat)) (.ref sa) (.int (x.now : Nat)) (.ref ba'))) := by rw [← hH3]; exact upd_same
  refine ⟨_, rfl, p, _, dx, _, _, rfl, s3 _ _ ob, T.Machine.cl, T.na_Machine_belts, rfl, _, rfl, p', _, d', _, rfl, hp3, T.Machine.cl, T.na_Machine_belts, by show 4 < 1000; decide, _, rfl, ?_⟩
  have s4 := KF.sameNew hp' s3 (KF.upd (F := (· = p')) (H := H3) (l := p') (o := .ins t.c_Machine d' (putF "belts" (.ref ba) (mfs (.int (x.most : Nat)) (.ref sa) (.int (x.now : Nat)) (.ref ba')))) rfl)
  exact q p' _ s4 hp' ⟨d', sa, ba, ss, upd_same, SqT.same s4 q1, pd_imp (fun _ _ z => z.same s4) q2, SqT.same s4 q3⟩
def spBInit (t : Ad) (K : PySem.W.Frag) : Sp := fun vs H Q _ => ∃ (p dx : Addr), vs = [.ref p] ∧ H p = some (.ins t.c_Bay dx []) ∧
 Q .non (upd H p (.ins t.c_Bay dx (bfs (.int 0) (.int 0) (.int 0) (.int 1000000) (.ref t.c_NOTHING))))
theorem ok_Bay_init (T : Txt K mg t) : FnOk P w K mg base CX0 1 t.Bay_init.f t.Bay_init.d ["self"] (spBInit t K) := by
 refine T.Bay_init.fn.ok sc_Bay_init (fun vs H Q E h => ?_) (fun cdv A outer s H vs Q E hr h => ?_)
 ·obtain ⟨p, dx, rfl, _⟩ := h
  rfl
 ·obtain ⟨p, dx, rfl, hp, q⟩ := h
  refine ⟨_, (pss_cons (psfld (K := K) (pv 0) pe_int) (pss_cons (psfld (K := K) (pv 0) pe_int) (pss_cons (psfld (K := K) (pv 0) pe_int) (pss_cons (psfld (K := K) (pv 0) (pgI T.g_MOST_HELD)) (pss_one (psfld (K := K) (pv 0) (pgR T.g_NOTHING))))))), ?_⟩
  refine ⟨_, rfl, p, _, dx, _, rfl, hp, T.Bay.cl, T.na_Bay_kind, by show 0 < 1000; decide, ?_⟩
  refine ⟨_, rfl, p, _, dx, _, rfl, upd_same, T.Bay.cl, T.na_Bay_pure, by show 1 < 1000; decide, ?_⟩
  refine ⟨_, rfl, p, _, dx, _, rfl, upd_same, T.Bay.cl, T.na_Bay_price, by show 2 < 1000; decide, ?_⟩
  refine ⟨_, rfl, p, _, dx, _, rfl, upd_same, T.Bay.cl, T.na_Bay_most, by show 3 < 1000; decide, ?_⟩
  refine ⟨_, rfl, p, _, dx, _, rfl, upd_same, T.Bay.cl, T.na_Bay_mix, by show 4 < 1000; decide, ?_⟩
  rw [upd_upd, upd_upd, upd_upd, upd_upd]
  exact q
def spBCopy (t : Ad) (K : PySem.W.Frag) : Sp := fun vs H Q _ => ∃ (p : Addr) (x : Bay), vs = [.ref p] ∧ BayAt t K H p x ∧ ∀ p' H', Same H H' → H p' = none → BayAt t K H' p' x → Q (.ref p') H'
theorem ok_Bay_copied (T : Txt K mg t) : FnOk P w K mg base CX0 3 t.Bay_copied.f t.Bay_copied.d ["self"] (spBCopy t K) := by
 refine T.Bay_copied.fn.ok sc_Bay_copied (fun vs H Q E h => ?_) (fun cdv A outer s H vs Q E hr h => ?_)
 ·obtain ⟨p, x, rfl, _⟩ := h
  rfl
 ·obtain ⟨p, x, rfl, hx, q⟩ := h
  obtain ⟨dx, ma, ob, hm⟩ := hx.ob
  refine ⟨_, (pss_cons (ps_set (i := 1) sc_Bay_copied.nd rfl (Or.inl rfl) (pmake0 T.Bay T.Bay_init (ok_Bay_init T) hr.m)) (pss_cons (psfld (K := K) (pv 1) (pfld (K := K) (pv 0))) (pss_cons (psfld (K := K) (pv 1) (pfld (K := K) (pv 0))) (pss_cons (psfld (K := K) (pv 1) (pfld (K := K) (pv 0))) (pss_cons (psfld (K := K) (pv 1) (pfld (K := K) (pv 0))) (pss_cons (psfld (K := K) (pv 1) (pfld (K := K) (pv 0))) (pss_one (ps_ret (pv 1))))))))), ?_⟩
  intro p' d' hp' hd' hne
  refine ⟨p', d', rfl, upd_same, rfl, ?_⟩
  rw [upd_upd]
  have np : p ≠ p' := ne_of_none ob hp'
  have nd : p ≠ d' := ne_of_none ob hd'
  have rd : ∀ o, (upd (upd H d' (.own p')) p' o) p = some (.ins t.c_Bay dx (bfs (.int (x.kind : Nat)) (.int (x.pure_ : Nat)) (.int (x.price : Nat)) (.int (x.most : Nat)) (.ref ma))) := fun o => by
   rw [upd_ne np, upd_ne nd]; exact ob
  refine ⟨_, rfl, p, _, dx, _, _, rfl, rd _, T.Bay.cl, T.na_Bay_kind, rfl, _, rfl, p', _, d', _, rfl, upd_same, T.Bay.cl, T.na_Bay_kind, by show 5 < 1000; decide, ?_⟩
  rw [upd_upd]
  refine ⟨_, rfl, p, _, dx, _, _, rfl, rd _, T.Bay.cl, T.na_Bay_pure, rfl, _, rfl, p', _, d', _, rfl, upd_same, T.Bay.cl, T.na_Bay_pure, by show 5 < 1000; decide, ?_⟩
  rw [upd_upd]
  refine ⟨_, rfl, p, _, dx, _, _, rfl, rd _, T.Bay.cl, T.na_Bay_price, rfl, _, rfl, p', _, d', _, rfl, upd_same, T.Bay.cl, T.na_Bay_price, by show 5 < 1000; decide, ?_⟩
  rw [upd_upd]
  refine ⟨_, rfl, p, _, dx, _, _, rfl, rd _, T.Bay.cl, T.na_Bay_most, rfl, _, rfl, p', _, d', _, rfl, upd_same, T.Bay.cl, T.na_Bay_most, by show 5 < 1000; decide, ?_⟩
  rw [upd_upd]
  refine ⟨_, rfl, p, _, dx, _, _, rfl, rd _, T.Bay.cl, T.na_Bay_mix, rfl, _, rfl, p', _, d', _, rfl, upd_same, T.Bay.cl, T.na_Bay_mix, by show 5 < 1000; decide, _, rfl, ?_⟩
  rw [upd_upd]
  have s1 : ∀ fs, Same H (upd (upd H d' (.own p')) p' (.ins t.c_Bay d' fs)) := fun fs => Same.inst hp' hd'
  exact q p' _ (s1 _) hp' ⟨d', ma, upd_same, hm.same (s1 _)⟩
def foot (s : SA) (c : Addr) : Prop := c = s.p ∨ c = s.ml ∨ c = s.bl ∨ c = s.sl ∨ c ∈ s.ms ∨ c ∈ s.bs
def newBay : Bay := ⟨0, 0, 0, 1000000, none6⟩
def spSInit (t : Ad) (K : PySem.W.Frag) : Sp := fun vs H Q _ => ∃ (p dx : Addr) (h : Nat), vs = [.ref p, .int (h : Nat)] ∧ H p = some (.ins t.c_State dx []) ∧
 ∀ H' (s : SA), KF (· = p) H H' → s.p = p → s.dx = dx → StateAt t K H' s (Km414.opened h) → (∀ c, foot s c → c = p ∨ H c = none) → Q .non H'
theorem ok_State_init (T : Txt K mg t) : FnOk P w K mg base CX0 3 t.State_init.f t.State_init.d ["self", "harm"] (spSInit t K) := by
 refine T.State_init.fn.ok sc_State_init (fun vs H Q E h => ?_) (fun cdv A outer s H vs Q E hr h => ?_)
 ·obtain ⟨p, dx, h, rfl, _⟩ := h
  rfl
 ·obtain ⟨p, dx, h, rfl, hp, q⟩ := h
  refine ⟨_, (pss_cons (psfld (K := K) (pv 0) (pv 1)) (pss_cons (psfld (K := K) (pv 0) (pgR T.g_NOTHING)) (pss_cons (psfld (K := K) (pv 0) (pe_lst pa_nil)) (pss_cons (psfld (K := K) (pv 0) (pe_lc rfl sc_State_init.nd (pi_range1 (by rfl) T.n_range (pa_cons (pgI T.g_BAYS) pa_nil)) (own := [("i", 2)]) (blkOk_by (by rfl)) (fun _ _ _ _ _ => (pg_name (i := 2) sc_State_init.nd rfl (Or.inl rfl) (Or.inr rfl))) (fun _ _ _ _ _ => pts_nil) (fun _ _ _ _ _ => (pmake0 T.Bay T.Bay_init (ok_Bay_init T) hr.m)))) (pss_cons (psfld (K := K) (pv 0) (pe_lst pa_nil)) (pss_cons (psfld (K := K) (pv 0) (pgR T.g_NOTHING)) (pss_cons (psfld (K := K) (pv 0) (pgR T.g_NOTHING)) (pss_one (psfld (K := K) (pv 0) pe_int))))))))), ?_⟩
  refine ⟨_, rfl, _, rfl, p, _, dx, _, rfl, hp, T.State.cl, T.na_State_harm, by show 0 < 1000; decide, ?_⟩
  refine ⟨_, rfl, p, _, dx, _, rfl, upd_same, T.State.cl, T.na_State_hopper, by show 1 < 1000; decide, ?_⟩
  rw [upd_upd]
  have k1 : KF (· = p) H (upd H p (.ins t.c_State dx (putF "hopper" (.ref t.c_NOTHING) (putF "harm" (.int (h : Nat)) [])))) := KF.upd rfl
  have hp1 : (upd H p (.ins t.c_State dx (putF "hopper" (.ref t.c_NOTHING) (putF "harm" (.int (h : Nat)) [])))) p = _ := upd_same
  generalize upd H p (.ins t.c_State dx (putF "hopper" (.ref t.c_NOTHING) (putF "harm" (.int (h : Nat)) []))) = H1 at *
  refine ⟨Nat.zero_le _, fun ml hml => ⟨_, rfl, p, _, dx, _, rfl, (Same.new hml) _ _ hp1, T.State.cl, T.na_State_machines, by show 2 < 1000; decide, ?_⟩⟩
  have mp : ml ≠ p := fun z => by rw [z, hp1] at hml; cases hml
  have fml : H ml = none := by
   cases e : H ml with
   | none => rfl
   | some o => rw [k1 ml o e mp] at hml; cases hml
  have k2 := k1.trans ((KF.same (F := (· = p)) (Same.new (o := .lst []) hml)).trans (KF.upd (F := (· = p)) (l := p) (o := .ins t.c_State dx (putF "machines" (.ref ml) (putF "hopper" (.ref t.c_NOTHING) (putF "harm" (.int (h : Nat)) [])))) rfl))
  have hp2 : (upd (upd H1 ml (.lst [])) p (.ins t.c_State dx (putF "machines" (.ref ml) (putF "hopper" (.ref t.c_NOTHING) (putF "harm" (.int (h : Nat)) []))))) p = _ := upd_same
  have hl2 : (upd (upd H1 ml (.lst [])) p (.ins t.c_State dx (putF "machines" (.ref ml) (putF "hopper" (.ref t.c_NOTHING) (putF "harm" (.int (h : Nat)) []))))) ml = some (.lst []) := by rw [upd_ne mp, upd_same]
  generalize upd (upd H1 ml (.lst [])) p (.ins t.c_State dx (putF "machines" (.ref ml) (putF "hopper" (.ref t.c_NOTHING) (putF "harm" (.int (h : Nat)) [])))) = H2 at *
  refine ⟨6, rfl, by decide, by decide, fun D hD => ?_⟩
  have Dp : D ≠ p := fun z => by rw [z, hp2] at hD; cases hD
  have fre : ∀ {c : Addr}, H2 c = none → H c = none := fun {c} hc => by
   cases e : H c with
   | none => rfl
   | some o => rw [k2 c o e (fun z => by rw [z, hp2] at hc; cases hc)] at hc; cases hc
  refine lc_range (n := 6) (fun i H' => i ≤ 6 ∧ Same H2 H' ∧ ∃ ps : List Addr, H' D = some (.lst (ps.map V.ref)) ∧ ps.length = i ∧ Paired (BayAt t K H') ps (List.replicate i newBay) ∧ ps.Nodup ∧ (∀ c ∈ ps, H2 c = none)) ⟨by omega, Same.new hD, [], upd_same, rfl, .nil, List.nodup_nil, fun c hc => by simp at hc⟩ ?_ ?_
  ·rintro i H3 hi ⟨_, s3, ps, hD3, hlen, hps, nd, fr⟩
   refine ⟨rfl, fun x d hx hd hne => ?_⟩
   refine ⟨x, d, rfl, upd_same, rfl, ?_⟩
   rw [upd_upd]
   have s4 : Same H3 (upd (upd H3 d (.own x)) x (.ins t.c_Bay d (bfs (.int 0) (.int 0) (.int 0) (.int 1000000) (.ref t.c_NOTHING)))) := Same.inst hx hd
   have hx4 : (upd (upd H3 d (.own x)) x (.ins t.c_Bay d (bfs (.int 0) (.int 0) (.int 0) (.int 1000000) (.ref t.c_NOTHING)))) x = _ := upd_same
   generalize upd (upd H3 d (.own x)) x (.ins t.c_Bay d (bfs (.int 0) (.int 0) (.int 0) (.int 1000000) (.ref t.c_NOTHING))) = H4 at *
   have hD4 := s4 _ _ hD3
   refine ⟨_, hD4, by rw [List.length_map, hlen]; exact Nat.lt_of_le_of_lt (show i ≤ 6 by omega) small6, by omega, Same.newKeep hD (s3.trans s4), ps ++ [x], ?_, ?_, ?_, ?_, ?_⟩
   ·rw [upd_same, List.map_append]; rfl
   ·rw [List.length_append, hlen]; rfl
   ·have k5 : KF (· = D) H4 (upd H4 D (.lst (ps.map V.ref ++ [V.ref x]))) := KF.upd rfl
    have w5 := Wr.lst hD4
    have nD : ∀ c, c ∈ ps → c ≠ D := fun c hc z => by
     obtain ⟨j, hj⟩ := List.getElem?_of_mem hc
     obtain ⟨b, _, hb⟩ := pd_get hps hj
     obtain ⟨_, _, ob, _⟩ := hb.ob
     rw [z, hD3] at ob; cases ob
    rw [List.replicate_succ']
    refine pd_app ?_ (.cons ?_ .nil)
    ·have : ∀ {l : List Addr} {m : List Bay}, (∀ c ∈ l, c ∈ ps) → Paired (BayAt t K H3) l m → Paired (BayAt t K (upd H4 D (.lst (ps.map V.ref ++ [V.ref x])))) l m := by
      intro l m hl hp
      induction hp with
      | nil => exact .nil
      | cons r _ ih => exact .cons ((r.same s4).kf k5 w5 (nD _ (hl _ (by simp)))) (ih fun c hc => hl c (by simp [hc]))
     exact this (fun _ h => h) hps
    ·exact BayAt.kf k5 w5 (fun z => by rw [z, hD3] at hx; cases hx) ⟨d, t.c_NOTHING, hx4, nothingAt T _⟩
   ·refine List.nodup_append.mpr ⟨nd, by simp, fun a ha b hb => ?_⟩
    rw [List.mem_singleton.mp hb]
    intro z
    obtain ⟨j, hj⟩ := List.getElem?_of_mem ha
    obtain ⟨b', _, hb'⟩ := pd_get hps hj
    obtain ⟨_, _, ob, _⟩ := hb'.ob
    rw [z, hx] at ob; cases ob
   ·intro c hc
    rcases List.mem_append.mp hc with z | z
    ·exact fr c z
    ·rw [List.mem_singleton.mp z]; exact s3.free hx
  ·rintro H3 ⟨_, s3, bs, hD3, hlen, hps, nd, fr⟩
   have hp3 := s3 _ _ hp2
   refine ⟨_, rfl, p, _, dx, _, rfl, hp3, T.State.cl, T.na_State_bays, by show 3 < 1000; decide, ?_⟩
   have k4 : KF (· = p) H3 (upd H3 p (.ins t.c_State dx (putF "bays" (.ref D) (putF "machines" (.ref ml) (putF "hopper" (.ref t.c_NOTHING) (putF "harm" (.int (h : Nat)) [])))))) := KF.upd rfl
   have hp4 : (upd H3 p (.ins t.c_State dx (putF "bays" (.ref D) (putF "machines" (.ref ml) (putF "hopper" (.ref t.c_NOTHING) (putF "harm" (.int (h : Nat)) [])))))) p = _ := upd_same
   generalize upd H3 p (.ins t.c_State dx (putF "bays" (.ref D) (putF "machines" (.ref ml) (putF "hopper" (.ref t.c_NOTHING) (putF "harm" (.int (h : Nat)) []))))) = H4 at *
   refine ⟨Nat.zero_le _, fun sl hsl => ⟨_, rfl, p, _, dx, _, rfl, (Same.new hsl) _ _ hp4, T.State.cl, T.na_State_bales, by show 4 < 1000; decide, ?_⟩⟩
   have slp : sl ≠ p := fun z => by rw [z, hp4] at hsl; cases hsl
   refine ⟨_, rfl, p, _, dx, _, rfl, upd_same, T.State.cl, T.na_State_fed, by show 5 < 1000; decide, ?_⟩
   rw [upd_upd]
   refine ⟨_, rfl, p, _, dx, _, rfl, upd_same, T.State.cl, T.na_State_dumped, by show 6 < 1000; decide, ?_⟩
   rw [upd_upd]
   refine ⟨_, rfl, p, _, dx, _, rfl, upd_same, T.State.cl, T.na_State_cost, by show 7 < 1000; decide, ?_⟩
   rw [upd_upd]
   have e5 : ∀ fs, KF (· = p) H4 (upd (upd H4 sl (.lst [])) p (.ins t.c_State dx fs)) := fun fs => (KF.same (Same.new hsl)).trans (KF.upd rfl)
   have e6 : ∀ fs, (upd (upd H4 sl (.lst [])) p (.ins t.c_State dx fs)) sl = some (.lst []) := fun fs => by rw [upd_ne slp, upd_same]
   have k5 := k4.trans (e5 (sfs (.int (h : Nat)) (.ref t.c_NOTHING) (.ref ml) (.ref D) (.ref sl) (.ref t.c_NOTHING) (.ref t.c_NOTHING) (.int 0)))
   have w3 : ∀ c, c = p → Wr H3 c := fun c e => by rw [e]; exact .inr ⟨_, _, _, hp3⟩
   have bp : ∀ c, c ∈ bs → c ≠ p := fun c hc z => by
    obtain ⟨j, hj⟩ := List.getElem?_of_mem hc
    obtain ⟨b, _, hb⟩ := pd_get hps hj
    obtain ⟨_, _, ob, _⟩ := hb.ob
    rw [z, hp3] at ob
    have := congrArg (fun o : Option HO => match o with | some (.ins _ _ fs) => fs.length | _ => 0) ob
    exact absurd this (by show ¬ 3 = 5; decide)
   have slD : sl ≠ D := fun z => by rw [z, k4 _ _ hD3 Dp] at hsl; cases hsl
   have slm : sl ≠ ml := fun z => by rw [z, k4 _ _ (s3 _ _ hl2) mp] at hsl; cases hsl
   have fsl : H sl = none := by
    cases e : H sl with
    | none => rfl
    | some o => rw [k4 sl o (s3 sl o (k2 sl o e slp)) slp] at hsl; cases hsl
   have mD : ml ≠ D := fun z => by rw [z, hD] at hl2; cases hl2
   refine q _ ⟨p, dx, t.c_NOTHING, ml, D, sl, t.c_NOTHING, t.c_NOTHING, [], bs, [], []⟩ ((k2.trans (KF.same s3)).trans k5) rfl rfl ?_ ?_
   ·refine ⟨upd_same, nothingAt T _, k5 _ _ (s3 _ _ hl2) mp, .nil, k5 _ _ hD3 Dp, ?_, e6 _, .nil, rfl, rfl, nothingAt T _, nothingAt T _, List.nodup_nil, nd, slm, slD, mD⟩
    have : ∀ {l : List Addr} {m : List Bay}, (∀ c ∈ l, c ∈ bs) → Paired (BayAt t K H3) l m → Paired (BayAt t K (upd (upd H4 sl (.lst [])) p (.ins t.c_State dx (sfs (.int (h : Nat)) (.ref t.c_NOTHING) (.ref ml) (.ref D) (.ref sl) (.ref t.c_NOTHING) (.ref t.c_NOTHING) (.int 0))))) l m := by
     intro l m hl hp
     induction hp with
     | nil => exact .nil
     | cons r _ ih => exact .cons (r.kf k5 w3 (bp _ (hl _ (by simp)))) (ih fun c hc => hl c (by simp [hc]))
    exact this (fun _ h => h) hps
   ·rintro c (rfl | rfl | rfl | rfl | z | z)
    ·exact .inl rfl
    ·exact .inr fml
    ·exact .inr (fre hD)
    ·exact .inr fsl
    ·simp at z
    ·exact .inr (fre (fr c z))
theorem pd_impM {α β : Type} {R R' : α → β → Prop} : ∀ {l : List α} {m : List β}, (∀ a b, a ∈ l → R a b → R' a b) → Paired R l m → Paired R' l m
 | _, _, _, .nil => .nil
 | _, _, f, .cons r t => .cons (f _ _ (by simp) r) (pd_impM (fun a b h => f a b (by simp [h])) t)
theorem lc_copy {α : Type} {R : Hp → Addr → α → Prop} {a D : Addr} {g : TG} {tt : TT} {te : TE} {vs : List Nat} {σ : L2.St} {H1 : Hp} {Qd : Hp → Prop} (mono : ∀ H H' p y, Same H H' → R H p y → R H' p y)
  (kf : ∀ H H' p y, KF (· = D) H H' → (∀ c, c = D → Wr H c) → p ≠ D → R H p y → R H' p y) (ins : ∀ H p y, R H p y → ∃ C dx fs, H p = some (.ins C dx fs))
  {ps0 : List Addr} {ys : List α} (q0 : SqL K H1 a (ps0.map V.ref)) (h0 : Paired (R H1) ps0 ys) (hD : H1 D = none) (hz : ps0.length ≤ 1000)
  (hs : ∀ x y H (Q : VK) (Z : Hp → Prop), R H x y → (∀ p' H', Same H H' → H p' = none → R H' p' y → Q (.ref p') H') → g (.ref x) (wipe σ vs) H fun σ2 H2 => wipe σ2 vs = wipe σ vs ∧ tt σ2 H2 fun b H3 => if b = true then te σ2 H3 Q else Z H3)
  (hd : ∀ H ps, Same H1 H → H D = some (.lst (ps.map V.ref)) → Paired (R H) ps ys → ps.Nodup → (∀ c ∈ ps, H1 c = none) → Qd H) :
  ∃ W : Nat → Nat → Hp → Prop, (∃ m, W 0 m (upd H1 D (.lst []))) ∧ ∀ i m H, W i m H → ((Itl K a).stop i H ∧ Qd H) ∨ ((Itl K a).go i H ∧ ∃ Nx : Hp → Prop, (∀ H', Nx H' → ∃ m', m' < m ∧ W (i + 1) m' H') ∧ ∀ x H', (Itl K a).yld i H x H' →
   g x (wipe σ vs) H' fun σ2 H2 => wipe σ2 vs = wipe σ vs ∧ tt σ2 H2 fun b H3 => if b = true then te σ2 H3 fun y H4 => ∃ acc, H4 D = some (.lst acc) ∧ acc.length < sizeLine ∧ Nx (upd H4 D (.lst (acc ++ [y]))) else Nx H3) := by
 have lp := pd_len h0
 refine lc_list (xs := ps0.map V.ref) (fun i H' => i ≤ ps0.length ∧ Same H1 H' ∧ ∃ ps : List Addr, H' D = some (.lst (ps.map V.ref)) ∧ ps.length = i ∧ Paired (R H') ps (ys.take i) ∧ ps.Nodup ∧ (∀ c ∈ ps, H1 c = none)) ⟨Nat.zero_le _, Same.new hD, [], upd_same, rfl, .nil, List.nodup_nil, fun c hc => by simp at hc⟩ (fun i H' _ ⟨_, s, _⟩ => Same.seq s q0) ?_ ?_
 ·rintro i v H3 hv ⟨hi, s3, ps, hD3, hlen, hps, nd, fr⟩
  rw [List.getElem?_map] at hv
  obtain ⟨b, eb, rfl⟩ : ∃ c, ps0[i]? = some c ∧ v = V.ref c := by
   cases e : ps0[i]? with
   | none => rw [e] at hv; cases hv
   | some c => rw [e] at hv; exact ⟨c, rfl, (Option.some.inj hv).symm⟩
  obtain ⟨y, ey, hy⟩ := pd_get h0 eb
  have hi' : i < ps0.length := (List.getElem?_eq_some_iff.mp eb).1
  refine hs b y H3 _ _ (mono _ _ _ _ s3 hy) fun p' H4 s4 hp' hr => ?_
  have hD4 := s4 _ _ hD3
  have k5 : KF (· = D) H4 (upd H4 D (.lst (ps.map V.ref ++ [V.ref p']))) := KF.upd rfl
  have w5 := Wr.lst hD4
  have tr : ∀ c ∈ ps, ∃ C dx fs, H3 c = some (.ins C dx fs) := fun c hc => by
   obtain ⟨j, hj⟩ := List.getElem?_of_mem hc
   obtain ⟨z, _, hz⟩ := pd_get hps hj
   exact ins _ _ _ hz
  refine ⟨_, hD4, by rw [List.length_map, hlen]; exact Nat.lt_of_le_of_lt (show i ≤ 1000 by omega) (by decide), by omega, Same.newKeep hD (s3.trans s4), ps ++ [p'], ?_, ?_, ?_, ?_, ?_⟩
  ·rw [upd_same, List.map_append]; rfl
  ·rw [List.length_append, hlen]; rfl
  ·rw [take_snoc ey]
   refine pd_app (pd_impM (fun c z hc r => kf _ _ _ _ k5 w5 (fun e => ?_) (mono _ _ _ _ s4 r)) hps) (.cons (kf _ _ _ _ k5 w5 (fun e => by rw [e, hD3] at hp'; cases hp') hr) .nil)
   obtain ⟨C, dx, fs, ob⟩ := tr c hc
   rw [e, hD3] at ob; cases ob
  ·refine List.nodup_append.mpr ⟨nd, by simp, fun c hc b hb => ?_⟩
   rw [List.mem_singleton.mp hb]
   intro z
   obtain ⟨C, dx, fs, ob⟩ := tr c hc
   rw [z, hp'] at ob; cases ob
  ·intro c hc
   rcases List.mem_append.mp hc with z | z
   ·exact fr c z
   ·rw [List.mem_singleton.mp z]; exact s3.free hp'
 ·rintro H3 ⟨_, s3, ps, hD3, hlen, hps, nd, fr⟩
  rw [List.length_map, lp, List.take_length] at hps
  exact hd H3 ps s3 hD3 hps nd fr
def spSCopy (t : Ad) (K : PySem.W.Frag) : Sp := fun vs H Q _ => ∃ (s : SA) (w : Works), vs = [.ref s.p] ∧ StateAt t K H s w ∧ WOk w ∧
 ∀ (s' : SA) H', Same H H' → (∀ c, foot s' c → H c = none) → StateAt t K H' s' w → Q (.ref s'.p) H'
theorem ok_State_copied (T : Txt K mg t) : FnOk P w K mg base CX0 5 t.State_copied.f t.State_copied.d ["self"] (spSCopy t K) := by
 refine T.State_copied.fn.ok sc_State_copied (fun vs H Q E h => ?_) (fun cdv A outer s H vs Q E hr h => ?_)
 ·obtain ⟨s, w, rfl, _⟩ := h
  rfl
 ·obtain ⟨s, w, rfl, hs, ok, q⟩ := h
  refine ⟨_, (pss_cons (ps_set (i := 1) sc_State_copied.nd rfl (Or.inl rfl) (pmake T.State T.State_init (ok_State_init T) hr.m (pa_cons (pfld (K := K) (pv 0)) pa_nil))) (pss_cons (psfld (K := K) (pv 1) (pfld (K := K) (pv 0))) (pss_cons (psfld (K := K) (pv 1) (pe_lc rfl sc_State_copied.nd (plistI (K := K) (pfld (K := K) (pv 0))) (own := [("machine", 2)]) (blkOk_by (by rfl)) (fun _ _ _ _ _ => (pg_name (i := 2) sc_State_copied.nd rfl (Or.inl rfl) (Or.inr rfl))) (fun _ _ _ _ _ => pts_nil) (fun _ _ _ _ _ => (pmeth0 T.Machine T.Machine_copied (ok_Machine_copied T) hr.m (pv 2))))) (pss_cons (psfld (K := K) (pv 1) (pe_lc rfl sc_State_copied.nd (plistI (K := K) (pfld (K := K) (pv 0))) (own := [("bay", 3)]) (blkOk_by (by rfl)) (fun _ _ _ _ _ => (pg_name (i := 3) sc_State_copied.nd rfl (Or.inl rfl) (Or.inr rfl))) (fun _ _ _ _ _ => pts_nil) (fun _ _ _ _ _ => (pmeth0 T.Bay T.Bay_copied (ok_Bay_copied T) hr.m (pv 3))))) (pss_cons (psfld (K := K) (pv 1) (pe_callTy (call_listK (K := K)) (by rfl) T.n_list boot_list (pa_cons (pfld (K := K) (pv 0)) pa_nil))) (pss_cons (psfld (K := K) (pv 1) (pfld (K := K) (pv 0))) (pss_cons (psfld (K := K) (pv 1) (pfld (K := K) (pv 0))) (pss_cons (psfld (K := K) (pv 1) (pfld (K := K) (pv 0))) (pss_one (ps_ret (pv 1))))))))))), ?_⟩
  refine ⟨_, rfl, s.p, _, s.dx, _, _, rfl, hs.ob, T.State.cl, T.na_State_harm, rfl, fun p' d' hp' hd' hne => ?_⟩
  refine ⟨p', d', w.harm, rfl, upd_same, fun H1 s0 k1 e1 e2 hs0 hf0 => ⟨rfl, ?_⟩⟩
  have s1 : Same H H1 := KF.sameNew hp' (Same.inst hp' hd') k1
  have hp1 := hs0.ob
  rw [e1, e2] at hp1
  refine ⟨_, rfl, s.p, _, s.dx, _, _, rfl, s1 _ _ hs.ob, T.State.cl, T.na_State_hopper, rfl, _, rfl, p', _, d', _, rfl, hp1, T.State.cl, T.na_State_hopper, by show 8 < 1000; decide, ?_⟩
  have s2 := KF.sameNew hp' s1 (KF.upd (F := (· = p')) (H := H1) (l := p') (o := .ins t.c_State d' (sfs (.int (w.harm : Nat)) (.ref s.ha) (.ref s0.ml) (.ref s0.bl) (.ref s0.sl) (.ref s0.fa) (.ref s0.da) (.int 0))) rfl)
  have hp2 : (upd H1 p' (.ins t.c_State d' (sfs (.int (w.harm : Nat)) (.ref s.ha) (.ref s0.ml) (.ref s0.bl) (.ref s0.sl) (.ref s0.fa) (.ref s0.da) (.int 0)))) p' = _ := upd_same
  change tSeq _ _ _ _ (upd H1 p' (.ins t.c_State d' (sfs (.int (w.harm : Nat)) (.ref s.ha) (.ref s0.ml) (.ref s0.bl) (.ref s0.sl) (.ref s0.fa) (.ref s0.da) (.int 0))))
  generalize upd H1 p' (.ins t.c_State d' (sfs (.int (w.harm : Nat)) (.ref s.ha) (.ref s0.ml) (.ref s0.bl) (.ref s0.sl) (.ref s0.fa) (.ref s0.da) (.int 0))) = H2 at *
  have hs2 := hs.same s2
  have n5 := ok.ms.n5
  refine ⟨_, rfl, s.p, _, s.dx, _, _, rfl, hs2.ob, T.State.cl, T.na_State_machines, rfl, s.ml, rfl, ⟨_, SqL.of hs2.ml⟩, fun D hD => ?_⟩
  refine lc_copy (R := MachAt t K) (fun _ _ _ _ z r => r.same z) (fun _ _ _ _ k w n r => r.kf k w n) (fun _ _ _ r => by obtain ⟨_, _, _, _, ob, _⟩ := r.ob; exact ⟨_, _, _, ob⟩) (SqL.of hs2.ml) hs2.mach hD (by rw [pd_len hs2.mach]; omega) ?_ ?_
  ·intro x y H3 Q3 Z3 hr k3
   obtain ⟨dx3, _, _, _, ob3, _⟩ := id hr.ob
   exact ⟨rfl, _, rfl, x, dx3, _, rfl, ob3, rfl, x, y, rfl, hr, fun p4 H4 s4 hp4 hm4 => k3 p4 H4 s4 hp4 hm4⟩
  intro H3 ms3 s3 hD3 hm3 ndm fm
  have Dp : D ≠ p' := fun z => by rw [z, hp2] at hD; cases hD
  have s23 := s2.trans s3
  refine ⟨_, rfl, p', _, d', _, rfl, s3 _ _ hp2, T.State.cl, T.na_State_machines, by show 8 < 1000; decide, ?_⟩
  have k4 : KF (· = p') H3 (upd H3 p' (.ins t.c_State d' (sfs (.int (w.harm : Nat)) (.ref s.ha) (.ref D) (.ref s0.bl) (.ref s0.sl) (.ref s0.fa) (.ref s0.da) (.int 0)))) := KF.upd rfl
  have s4 := KF.sameNew hp' s23 k4
  have hp4 : (upd H3 p' (.ins t.c_State d' (sfs (.int (w.harm : Nat)) (.ref s.ha) (.ref D) (.ref s0.bl) (.ref s0.sl) (.ref s0.fa) (.ref s0.da) (.int 0)))) p' = _ := upd_same
  change tSeq _ _ _ _ (upd H3 p' (.ins t.c_State d' (sfs (.int (w.harm : Nat)) (.ref s.ha) (.ref D) (.ref s0.bl) (.ref s0.sl) (.ref s0.fa) (.ref s0.da) (.int 0))))
  generalize upd H3 p' (.ins t.c_State d' (sfs (.int (w.harm : Nat)) (.ref s.ha) (.ref D) (.ref s0.bl) (.ref s0.sl) (.ref s0.fa) (.ref s0.da) (.int 0))) = H4 at *
  have hs4 := hs.same s4
  refine ⟨_, rfl, s.p, _, s.dx, _, _, rfl, hs4.ob, T.State.cl, T.na_State_bays, rfl, s.bl, rfl, ⟨_, SqL.of hs4.bl⟩, fun B hB => ?_⟩
  refine lc_copy (R := BayAt t K) (fun _ _ _ _ z r => r.same z) (fun _ _ _ _ k w n r => r.kf k w n) (fun _ _ _ r => by obtain ⟨_, _, ob, _⟩ := r.ob; exact ⟨_, _, _, ob⟩) (SqL.of hs4.bl) hs4.bays hB (by rw [pd_len hs4.bays, ok.b6]; decide) ?_ ?_
  ·intro x y H5 Q5 Z5 hr k5
   obtain ⟨dx5, _, ob5, _⟩ := id hr.ob
   exact ⟨rfl, _, rfl, x, dx5, _, rfl, ob5, rfl, x, y, rfl, hr, fun p6 H6 s6 hp6 hm6 => k5 p6 H6 s6 hp6 hm6⟩
  intro H5 bs5 s5 hB5 hb5 ndb fb
  have Bp : B ≠ p' := fun z => by rw [z, hp4] at hB; cases hB
  have s45 := s4.trans s5
  refine ⟨_, rfl, p', _, d', _, rfl, s5 _ _ hp4, T.State.cl, T.na_State_bays, by show 8 < 1000; decide, ?_⟩
  have k6 : KF (· = p') H5 (upd H5 p' (.ins t.c_State d' (sfs (.int (w.harm : Nat)) (.ref s.ha) (.ref D) (.ref B) (.ref s0.sl) (.ref s0.fa) (.ref s0.da) (.int 0)))) := KF.upd rfl
  have s6 := KF.sameNew hp' s45 k6
  have hp6 : (upd H5 p' (.ins t.c_State d' (sfs (.int (w.harm : Nat)) (.ref s.ha) (.ref D) (.ref B) (.ref s0.sl) (.ref s0.fa) (.ref s0.da) (.int 0)))) p' = _ := upd_same
  change tSeq _ _ _ _ (upd H5 p' (.ins t.c_State d' (sfs (.int (w.harm : Nat)) (.ref s.ha) (.ref D) (.ref B) (.ref s0.sl) (.ref s0.fa) (.ref s0.da) (.int 0))))
  generalize upd H5 p' (.ins t.c_State d' (sfs (.int (w.harm : Nat)) (.ref s.ha) (.ref D) (.ref B) (.ref s0.sl) (.ref s0.fa) (.ref s0.da) (.int 0))) = H6 at *
  have hs6 := hs.same s6
  refine ⟨_, rfl, s.p, _, s.dx, _, _, rfl, hs6.ob, T.State.cl, T.na_State_bales, rfl, s.sl, _, rfl, .inl (SqL.of hs6.sl), fun L hL => ?_⟩
  have Lp : L ≠ p' := fun z => by rw [z, hp6] at hL; cases hL
  have sL : Same H6 (upd H6 L (.lst (s.es.map V.ref))) := Same.new hL
  refine ⟨_, rfl, p', _, d', _, rfl, sL _ _ hp6, T.State.cl, T.na_State_bales, by show 8 < 1000; decide, ?_⟩
  have rd : ∀ o, (upd (upd H6 L (.lst (s.es.map V.ref))) p' o) s.p = some (.ins t.c_State s.dx (sfs (.int (w.harm : Nat)) (.ref s.ha) (.ref s.ml) (.ref s.bl) (.ref s.sl) (.ref s.fa) (.ref s.da) (.int (w.cost : Nat)))) := fun o => by
   rw [upd_ne (ne_of_none hs.ob hp')]; exact sL _ _ hs6.ob
  refine ⟨_, rfl, s.p, _, s.dx, _, _, rfl, rd _, T.State.cl, T.na_State_fed, rfl, _, rfl, p', _, d', _, rfl, upd_same, T.State.cl, T.na_State_fed, by show 8 < 1000; decide, ?_⟩
  rw [upd_upd]
  refine ⟨_, rfl, s.p, _, s.dx, _, _, rfl, rd _, T.State.cl, T.na_State_dumped, rfl, _, rfl, p', _, d', _, rfl, upd_same, T.State.cl, T.na_State_dumped, by show 8 < 1000; decide, ?_⟩
  rw [upd_upd]
  refine ⟨_, rfl, s.p, _, s.dx, _, _, rfl, rd _, T.State.cl, T.na_State_cost, rfl, _, rfl, p', _, d', _, rfl, upd_same, T.State.cl, T.na_State_cost, by show 8 < 1000; decide, _, rfl, ?_⟩
  rw [upd_upd]
  have k7 : KF (· = p') H6 (upd (upd H6 L (.lst (s.es.map V.ref))) p' (.ins t.c_State d' (sfs (.int (w.harm : Nat)) (.ref s.ha) (.ref D) (.ref B) (.ref L) (.ref s.fa) (.ref s.da) (.int (w.cost : Nat))))) := (KF.same sL).trans (KF.upd rfl)
  have hL7 : (upd (upd H6 L (.lst (s.es.map V.ref))) p' (.ins t.c_State d' (sfs (.int (w.harm : Nat)) (.ref s.ha) (.ref D) (.ref B) (.ref L) (.ref s.fa) (.ref s.da) (.int (w.cost : Nat))))) L = some (.lst (s.es.map V.ref)) := by rw [upd_ne Lp, upd_same]
  have hp7 : (upd (upd H6 L (.lst (s.es.map V.ref))) p' (.ins t.c_State d' (sfs (.int (w.harm : Nat)) (.ref s.ha) (.ref D) (.ref B) (.ref L) (.ref s.fa) (.ref s.da) (.int (w.cost : Nat))))) p' = some (.ins t.c_State d' (sfs (.int (w.harm : Nat)) (.ref s.ha) (.ref D) (.ref B) (.ref L) (.ref s.fa) (.ref s.da) (.int (w.cost : Nat)))) := upd_same
  have fin : ∀ H7, KF (· = p') H6 H7 → H7 L = some (.lst (s.es.map V.ref)) → H7 p' = some (.ins t.c_State d' (sfs (.int (w.harm : Nat)) (.ref s.ha) (.ref D) (.ref B) (.ref L) (.ref s.fa) (.ref s.da) (.int (w.cost : Nat)))) → Q (.ref p') H7 := by
   intro H7 k7 hL7 hp7
   have s7 := KF.sameNew hp' s6 k7
   have hs7 := hs.same s7
   have k47 : KF (· = p') H4 H7 := ((KF.same s5).trans k6).trans k7
   have k37 : KF (· = p') H3 H7 := k4.trans k47
   have k57 : KF (· = p') H5 H7 := k6.trans k7
   have w3 : ∀ c, c = p' → Wr H3 c := fun c e => by rw [e]; exact .inr ⟨_, _, _, s3 _ _ hp2⟩
   have w5 : ∀ c, c = p' → Wr H5 c := fun c e => by rw [e]; exact .inr ⟨_, _, _, s5 _ _ hp4⟩
   have hD6 : H6 D = some (.lst (ms3.map V.ref)) := k6 _ _ (s5 _ _ (k4 _ _ hD3 Dp)) Dp
   have hB6 : H6 B = some (.lst (bs5.map V.ref)) := k6 _ _ hB5 Bp
   refine q ⟨p', d', s.ha, D, B, L, s.fa, s.da, ms3, bs5, s.es, s.bm⟩ H7 s7 ?_ ⟨hp7, hs7.hop, k37 _ _ hD3 Dp, ?_, k57 _ _ hB5 Bp, ?_, hL7, hs7.bales, hs.bml, hs.baled, hs7.fed, hs7.dum, ndm, ndb, ?_, ?_, ?_⟩
   ·rintro c (rfl | rfl | rfl | rfl | z | z)
    ·exact hp'
    ·exact s2.free hD
    ·exact s4.free hB
    ·exact s6.free hL
    ·exact s2.free (fm c z)
    ·exact s4.free (fb c z)
   ·exact pd_impM (fun c y hc r => r.kf k37 w3 (fun z => by rw [z] at hc; have := fm p' hc; rw [hp2] at this; cases this)) hm3
   ·exact pd_impM (fun c y hc r => r.kf k57 w5 (fun z => by rw [z] at hc; have := fb p' hc; rw [hp4] at this; cases this)) hb5
   ·intro z; have z : L = D := z; rw [z, hD6] at hL; cases hL
   ·intro z; have z : L = B := z; rw [z, hB6] at hL; cases hL
   ·intro z; have z : D = B := z; rw [← z, k4 _ _ hD3 Dp] at hB; cases hB
  exact fin _ k7 hL7 hp7
section
theorem ins_ne {H : Hp} {a b C C' dx dx' : Addr} {fs fs' : List (Str × V)} (h1 : H a = some (.ins C dx fs)) (h2 : H b = some (.ins C' dx' fs')) (h : fs.length ≠ fs'.length) : a ≠ b :=
 ne_of h1 h2 (fun z => by injection z with _ _ z; exact h (congrArg List.length z))
theorem ins_lst {H : Hp} {a b C dx : Addr} {fs : List (Str × V)} {xs : List V} (h1 : H a = some (.ins C dx fs)) (h2 : H b = some (.lst xs)) : a ≠ b := ne_of h1 h2 (by intro y; cases y)
theorem wrI {H : Hp} {a C dx : Addr} {fs : List (Str × V)} (h : H a = some (.ins C dx fs)) : ∀ c, c = a → Wr H c := fun c e => by rw [e]; exact .inr ⟨_, _, _, h⟩
theorem MachAt.obj {H : Hp} {p : Addr} {x : Machine} (h : MachAt t K H p x) : ∃ dx fs, H p = some (.ins t.c_Machine dx fs) ∧ fs.length = 4 := by
 obtain ⟨dx, _, _, _, ob, _⟩ := h.ob; exact ⟨dx, _, ob, rfl⟩
theorem BayAt.obj {H : Hp} {p : Addr} {x : Bay} (h : BayAt t K H p x) : ∃ dx fs, H p = some (.ins t.c_Bay dx fs) ∧ fs.length = 5 := by
 obtain ⟨dx, _, ob, _⟩ := h.ob; exact ⟨dx, _, ob, rfl⟩
theorem pd_mem {α β : Type} {R : α → β → Prop} {l : List α} {m : List β} (h : Paired R l m) {a : α} (ha : a ∈ l) : ∃ b ∈ m, R a b := by
 obtain ⟨j, hj⟩ := List.getElem?_of_mem ha
 obtain ⟨b, hb, r⟩ := pd_get h hj
 exact ⟨b, List.mem_of_getElem? hb, r⟩
section
variable {H H' : Hp} {s : SA} {w : Works}
theorem StateAt.mobj (h : StateAt t K H s w) {a : Addr} (ha : a ∈ s.ms) : ∃ dx fs, H a = some (.ins t.c_Machine dx fs) ∧ fs.length = 4 := by
 obtain ⟨x, _, r⟩ := pd_mem h.mach ha; exact r.obj
theorem StateAt.bobj (h : StateAt t K H s w) {a : Addr} (ha : a ∈ s.bs) : ∃ dx fs, H a = some (.ins t.c_Bay dx fs) ∧ fs.length = 5 := by
 obtain ⟨x, _, r⟩ := pd_mem h.bays ha; exact r.obj
theorem sfs_len (a b c d e f g i : V) : (sfs a b c d e f g i).length = 8 := rfl
theorem StateAt.setP (h : StateAt t K H s w) {ha fa da : Addr} {hop fed dum : Mix} {cost : Nat} (h1 : MixAt K H ha hop) (h2 : MixAt K H fa fed) (h3 : MixAt K H da dum) :
  StateAt t K (upd H s.p (.ins t.c_State s.dx (sfs (.int (w.harm : Nat)) (.ref ha) (.ref s.ml) (.ref s.bl) (.ref s.sl) (.ref fa) (.ref da) (.int (cost : Nat))))) { s with ha := ha, fa := fa, da := da } { w with hopper := hop, fed := fed, dumped := dum, cost := cost } := by
 have k : KF (· = s.p) H (upd H s.p (.ins t.c_State s.dx (sfs (.int (w.harm : Nat)) (.ref ha) (.ref s.ml) (.ref s.bl) (.ref s.sl) (.ref fa) (.ref da) (.int (cost : Nat))))) := KF.upd rfl
 have wr := wrI h.ob
 refine ⟨upd_same, h1.kf k wr, k _ _ h.ml (Ne.symm (ins_lst h.ob h.ml)), pd_impM (fun c y hc r => r.kf k wr ?_) h.mach, k _ _ h.bl (Ne.symm (ins_lst h.ob h.bl)), pd_impM (fun c y hc r => r.kf k wr ?_) h.bays, k _ _ h.sl (Ne.symm (ins_lst h.ob h.sl)), pd_imp (fun _ _ r => r.kf k wr) h.bales, h.bml, h.baled, h2.kf k wr, h3.kf k wr, h.ndm, h.ndb, h.nsl⟩
 ·obtain ⟨dx, fs, ob, hl⟩ := h.mobj hc
  exact ins_ne ob h.ob (by rw [hl, sfs_len]; decide)
 ·obtain ⟨dx, fs, ob, hl⟩ := h.bobj hc
  exact ins_ne ob h.ob (by rw [hl, sfs_len]; decide)
theorem nd_ne {l : List Addr} (nd : l.Nodup) {k j : Nat} {a b : Addr} (h1 : l[k]? = some a) (h2 : l[j]? = some b) (h : j ≠ k) : b ≠ a := fun z => by
 rw [z] at h2; exact h (nd_ix nd h2 h1)
theorem pd_setI {α β : Type} {R R' : α → β → Prop} {l : List α} {m : List β} {k : Nat} {y : β} (h : Paired R l m) (f : ∀ (j : Nat) a b, j ≠ k → l[j]? = some a → R a b → R' a b) (g : ∀ a, l[k]? = some a → R' a y) : Paired R' l (m.set k y) := by
 induction h generalizing k with
 | nil => exact .nil
 | @cons a b l₁ l₂ r t ih =>
  cases k with
  | zero =>
   refine .cons (g a rfl) ?_
   have : Paired R' l₁ (l₂.set l₂.length y) := ih (k := l₂.length) (fun j a' b' hj h1 h2 => f (j + 1) a' b' (by omega) (by simpa using h1) h2) (fun a' h => by
    have := (List.getElem?_eq_some_iff.mp h).1
    have e := pd_len t
    omega)
   rw [List.set_eq_of_length_le (Nat.le_refl _)] at this
   exact this
  | succ k =>
   exact .cons (f 0 a b (by omega) rfl r) (ih (fun j a' b' hj h1 h2 => f (j + 1) a' b' (by omega) (by simpa using h1) h2) (fun a' h => g a' (by simpa using h)))
theorem StateAt.setM (h : StateAt t K H s w) {k : Nat} {a : Addr} {x : Machine} (ha : s.ms[k]? = some a) (kk : KF (· = a) H H') (hx : MachAt t K H' a x) : StateAt t K H' s { w with machines := w.machines.set k x } := by
 have am := List.mem_of_getElem? ha
 obtain ⟨dx, fs, ob, hl⟩ := h.mobj am
 have wr := wrI ob
 refine ⟨kk _ _ h.ob (Ne.symm (ins_ne ob h.ob (by rw [hl, sfs_len]; decide))), h.hop.kf kk wr, kk _ _ h.ml (Ne.symm (ins_lst ob h.ml)), pd_setI h.mach (fun j c y hj hc r => r.kf kk wr (nd_ne h.ndm ha hc hj)) (fun c hc => ?_), kk _ _ h.bl (Ne.symm (ins_lst ob h.bl)), pd_impM (fun c y hc r => r.kf kk wr ?_) h.bays, kk _ _ h.sl (Ne.symm (ins_lst ob h.sl)), pd_imp (fun _ _ r => r.kf kk wr) h.bales, h.bml, h.baled, h.fed.kf kk wr, h.dum.kf kk wr, h.ndm, h.ndb, h.nsl⟩
 ·rw [ha] at hc; cases hc; exact hx
 ·obtain ⟨dx', fs', ob', hl'⟩ := h.bobj hc
  exact ins_ne ob' ob (by rw [hl, hl']; decide)
theorem StateAt.setB (h : StateAt t K H s w) {k : Nat} {a : Addr} {x : Bay} (ha : s.bs[k]? = some a) (kk : KF (· = a) H H') (hx : BayAt t K H' a x) : StateAt t K H' s { w with bays := w.bays.set k x } := by
 have am := List.mem_of_getElem? ha
 obtain ⟨dx, fs, ob, hl⟩ := h.bobj am
 have wr := wrI ob
 refine ⟨kk _ _ h.ob (Ne.symm (ins_ne ob h.ob (by rw [hl, sfs_len]; decide))), h.hop.kf kk wr, kk _ _ h.ml (Ne.symm (ins_lst ob h.ml)), pd_impM (fun c y hc r => r.kf kk wr ?_) h.mach, kk _ _ h.bl (Ne.symm (ins_lst ob h.bl)), pd_setI h.bays (fun j c y hj hc r => r.kf kk wr (nd_ne h.ndb ha hc hj)) (fun c hc => ?_), kk _ _ h.sl (Ne.symm (ins_lst ob h.sl)), pd_imp (fun _ _ r => r.kf kk wr) h.bales, h.bml, h.baled, h.fed.kf kk wr, h.dum.kf kk wr, h.ndm, h.ndb, h.nsl⟩
 ·rw [ha] at hc; cases hc; exact hx
 ·obtain ⟨dx', fs', ob', hl'⟩ := h.mobj hc
  exact ins_ne ob' ob (by rw [hl, hl']; decide)
theorem StateAt.addM (h : StateAt t K H s w) {a : Addr} {x : Machine} (ha : MachAt t K H a x) (hn : a ∉ s.ms) : StateAt t K (upd H s.ml (.lst ((s.ms ++ [a]).map V.ref))) { s with ms := s.ms ++ [a] } { w with machines := w.machines ++ [x] } := by
 have k : KF (· = s.ml) H (upd H s.ml (.lst ((s.ms ++ [a]).map V.ref))) := KF.upd rfl
 have wr := Wr.lst h.ml
 obtain ⟨n1, n2, n3⟩ := h.nsl
 obtain ⟨dxa, fsa, oba, -⟩ := ha.obj
 refine ⟨k _ _ h.ob (ins_lst h.ob h.ml), h.hop.kf k wr, upd_same, pd_app (pd_impM (fun c y hc r => r.kf k wr ?_) h.mach) (.cons (ha.kf k wr (ins_lst oba h.ml)) .nil), k _ _ h.bl (Ne.symm n3), pd_impM (fun c y hc r => r.kf k wr ?_) h.bays, k _ _ h.sl n1, pd_imp (fun _ _ r => r.kf k wr) h.bales, h.bml, h.baled, h.fed.kf k wr, h.dum.kf k wr, ?_, h.ndb, h.nsl⟩
 ·exact List.nodup_append.mpr ⟨h.ndm, by simp, fun c hc b hb => by rw [List.mem_singleton.mp hb]; intro z; exact hn (z ▸ hc)⟩
 ·obtain ⟨dx, fs, ob, hl⟩ := h.mobj hc
  exact ins_lst ob h.ml
 ·obtain ⟨dx, fs, ob, hl⟩ := h.bobj hc
  exact ins_lst ob h.ml
theorem StateAt.addE (h : StateAt t K H s w) {e : Addr} {b : Bale} {m : Mix} (he : BaleAt K H e (b, m)) : StateAt t K (upd H s.sl (.lst ((s.es ++ [e]).map V.ref))) { s with es := s.es ++ [e], bm := s.bm ++ [m] } { w with bales := w.bales ++ [b], baled := plus w.baled m } := by
 have k : KF (· = s.sl) H (upd H s.sl (.lst ((s.es ++ [e]).map V.ref))) := KF.upd rfl
 have wr := Wr.lst h.sl
 obtain ⟨n1, n2, n3⟩ := h.nsl
 refine ⟨k _ _ h.ob (ins_lst h.ob h.sl), h.hop.kf k wr, k _ _ h.ml (Ne.symm n1), pd_impM (fun c y hc r => r.kf k wr ?_) h.mach, k _ _ h.bl (Ne.symm n2), pd_impM (fun c y hc r => r.kf k wr ?_) h.bays, upd_same, ?_, ?_, ?_, h.fed.kf k wr, h.dum.kf k wr, h.ndm, h.ndb, h.nsl⟩
 case refine_4 =>
  obtain ⟨dx, fs, ob, hl⟩ := h.mobj hc
  exact ins_lst ob h.sl
 case refine_5 =>
  obtain ⟨dx, fs, ob, hl⟩ := h.bobj hc
  exact ins_lst ob h.sl
 ·show Paired _ (s.es ++ [e]) ((w.bales ++ [b]).zip (s.bm ++ [m]))
  rw [List.zip_append h.bml.symm]
  exact pd_app (pd_imp (fun _ _ r => r.kf k wr) h.bales) (.cons (he.kf k wr) .nil)
 ·show (s.bm ++ [m]).length = (w.bales ++ [b]).length
  rw [List.length_append, List.length_append, h.bml]; rfl
 ·show plus w.baled m = (s.bm ++ [m]).foldl plus none6
  rw [List.foldl_append, h.baled]; rfl
end
def ansV (a : Km414.Ans) : List V := (Km414Neutral.told a).map V.int
def ChgPost (t : Ad) (K : PySem.W.Frag) (H : Hp) (s : SA) (r : Works × Km414.Ans) (Q : VK) : Prop := ∀ H' (s' : SA) l, KF (foot s) H H' → (∀ c, foot s' c → foot s c ∨ H c = none) → s'.p = s.p → StateAt t K H' s' r.1 → H' l = some (.lst (ansV r.2)) → (foot s l ∨ H l = none) → Q (.ref l) H'
theorem kf_new {H H' : Hp} {s : SA} {l : Addr} (k : KF (foot s) H H') (hl : H' l = none) : foot s l ∨ H l = none := by
 cases e : H l with
 | none => exact .inr rfl
 | some o =>
  by_cases c : foot s l
  ·exact .inl c
  ·rw [k l o e c] at hl; cases hl
theorem ChgPost.no {H H1 : Hp} {s : SA} {w : Works} {r : Works × Km414.Ans} {Q : VK} {v : Int} (q : ChgPost t K H s r Q) (hs : StateAt t K H s w) (e : r = (w, Km414.only v)) (s1 : Same H H1) {l : Addr} (hl : H1 l = none) : Q (.ref l) (upd H1 l (.lst [.int v])) := by
 subst e
 have s2 := s1.trans (Same.new (o := .lst [.int v]) hl)
 exact q _ s l (KF.same s2) (fun c hc => .inl hc) rfl (hs.same s2) upd_same (kf_new (KF.same s1) hl)
theorem ChgPost.yes {H H3 : Hp} {s s' : SA} {r : Works × Km414.Ans} {Q : VK} {vs : List V} (q : ChgPost t K H s r Q) (k : KF (foot s) H H3) (f : ∀ c, foot s' c → foot s c ∨ H c = none) (ep : s'.p = s.p) (h : StateAt t K H3 s' r.1) {l : Addr} (hl : H3 l = none) (e : ansV r.2 = vs) : Q (.ref l) (upd H3 l (.lst vs)) := by
 have s4 := Same.new (o := .lst vs) hl
 exact q _ s' l (k.trans (KF.same s4)) f ep (h.same s4) (by rw [upd_same, e]) (kf_new k hl)
theorem KF.foot {H H' : Hp} {s : SA} {a : Addr} (k : KF (· = a) H H') (h : foot s a) : KF (Sb.foot s) H H' := k.mono fun c e => by rw [e]; exact h
theorem foot_ms {s : SA} {k : Nat} {a : Addr} (h : s.ms[k]? = some a) : foot s a := .inr (.inr (.inr (.inr (.inl (List.mem_of_getElem? h)))))
theorem foot_bs {s : SA} {k : Nat} {a : Addr} (h : s.bs[k]? = some a) : foot s a := .inr (.inr (.inr (.inr (.inr (List.mem_of_getElem? h)))))
end
def spMost : Sp := fun vs H Q _ => ∃ m : Nat, vs = [.int (m : Nat)] ∧ Q (.bl (decide (1 ≤ m ∧ m ≤ 1000000))) H
theorem ok_most_is_right (T : Txt K mg t) : FnOk P w K mg base CX0 1 t.most_is_right.f t.most_is_right.d ["most"] (spMost) := by
 refine T.most_is_right.fn.ok sc_most_is_right (fun vs H Q E h => ?_) (fun cdv A outer s H vs Q E hr h => ?_)
 ·obtain ⟨m, rfl, _⟩ := h
  rfl
 ·obtain ⟨m, rfl, q⟩ := h
  refine ⟨_, (pss_one (ps_ret (pe_chain op_le op_le pe_int (pv 0) (pgI T.g_MOST_HELD)))), ?_⟩
  refine ⟨_, rfl, _, _, rfl, rfl, _, rfl, ite2 (fun c => ?_) (fun c => ?_)⟩
  ·rw [decide_eq_true_eq] at c
   refine ⟨_, _, rfl, rfl, ?_⟩
   have e : decide (((m : Nat) : Int) ≤ 1000000) = decide (1 ≤ m ∧ m ≤ 1000000) := decide_eq_decide.mpr (by omega)
   dsimp only
   rw [e]
   exact q
  ·rw [decide_eq_true_eq] at c
   have e : decide (1 ≤ m ∧ m ≤ 1000000) = false := decide_eq_false (by omega)
   rw [e] at q
   exact q
def spTakes (t : Ad) (K : PySem.W.Frag) : Sp := fun vs H Q _ => ∃ (s : SA) (w : Works) (kg : Nat), vs = [.ref s.p, .int (kg : Nat)] ∧ StateAt t K H s w ∧ Q (.bl (decide (Km414.sum w.hopper + kg ≤ 100000))) H
theorem ok_hopper_takes (T : Txt K mg t) : FnOk P w K mg base CX0 1 t.hopper_takes.f t.hopper_takes.d ["state", "kg"] (spTakes t K) := by
 refine T.hopper_takes.fn.ok sc_hopper_takes (fun vs H Q E h => ?_) (fun cdv A outer s H vs Q E hr h => ?_)
 ·obtain ⟨s, w, kg, rfl, _⟩ := h
  rfl
 ·obtain ⟨s, w, kg, rfl, hs, q⟩ := h
  refine ⟨_, (pss_one (ps_ret (pe_cmpR op_le (pe_op op_add (pe_callB (cr_sumTK (K := K) rfl) (by rfl) T.n_sum boot_sum (pa_cons (pfld (K := K) (pv 0)) pa_nil)) (pv 1)) (pgI T.g_MOST_IN_HOPPER) (nomark _)))), ?_⟩
  refine ⟨_, rfl, s.p, _, s.dx, _, _, rfl, hs.ob, T.State.cl, T.na_State_hopper, rfl, s.ha, _, rfl, hs.hop.sum, _, rfl, _, _, rfl, rfl, _, _, rfl, rfl, ?_⟩
  dsimp only
  rw [isum]
  have e : decide (((Km414.sum w.hopper : Nat) : Int) + ((kg : Nat) : Int) ≤ 100000) = decide (Km414.sum w.hopper + kg ≤ 100000) := decide_eq_decide.mpr (by omega)
  rw [e]
  exact q
def spLeads (t : Ad) (K : PySem.W.Frag) : Sp := fun vs H Q _ => ∃ (s : SA) (w : Works) (k to_ : Nat), vs = [.ref s.p, .int (k : Nat), .int (to_ : Nat)] ∧ StateAt t K H s w ∧ Q (.bl (decide (to_ < 6 ∨ (6 + k < to_ ∧ to_ < 6 + w.machines.length)))) H
theorem ok_leads_on (T : Txt K mg t) : FnOk P w K mg base CX0 1 t.leads_on.f t.leads_on.d ["state", "k", "to"] (spLeads t K) := by
 refine T.leads_on.fn.ok sc_leads_on (fun vs H Q E h => ?_) (fun cdv A outer s H vs Q E hr h => ?_)
 ·obtain ⟨s, w, k, to_, rfl, _⟩ := h
  rfl
 ·obtain ⟨s, w, k, to_, rfl, hs, q⟩ := h
  have lm := pd_len hs.mach
  refine ⟨_, (pss_one (ps_ret (pe_or (pe_cmpR op_lt (pv 2) (pgI T.g_BAYS) (nomark _)) (pe_one (pe_chain op_lt op_lt (pe_op op_add (pgI T.g_BAYS) (pv 1)) (pv 2) (pe_op op_add (pgI T.g_BAYS) (pe_callB (call_lenK (K := K)) (by rfl) T.n_len PySem.boot_len (pa_cons (pfld (K := K) (pv 0)) pa_nil)))))))), ?_⟩
  refine ⟨_, rfl, _, _, rfl, rfl, _, rfl, ite2 (fun c => ?_) (fun c => ?_)⟩
  ·rw [decide_eq_true_eq] at c
   have e : decide (to_ < 6 ∨ (6 + k < to_ ∧ to_ < 6 + w.machines.length)) = true := decide_eq_true (by omega)
   rw [e] at q
   exact q
  ·rw [decide_eq_true_eq] at c
   refine ⟨_, rfl, _, _, rfl, rfl, _, rfl, _, _, rfl, rfl, _, rfl, ite2 (fun c2 => ?_) (fun c2 => ?_)⟩
   ·rw [decide_eq_true_eq] at c2
    refine ⟨_, rfl, s.p, _, s.dx, _, _, rfl, hs.ob, T.State.cl, T.na_State_machines, rfl, s.ml, _, rfl, .inl (SqL.of hs.ml), _, _, rfl, rfl, _, _, rfl, rfl, ?_⟩
    dsimp only
    rw [List.length_map, lm]
    have e : decide (((to_ : Nat) : Int) < 6 + ((w.machines.length : Nat) : Int)) = decide (to_ < 6 ∨ (6 + k < to_ ∧ to_ < 6 + w.machines.length)) := decide_eq_decide.mpr (by omega)
    rw [e]
    exact q
   ·rw [decide_eq_true_eq] at c2
    have e : decide (to_ < 6 ∨ (6 + k < to_ ∧ to_ < 6 + w.machines.length)) = false := decide_eq_false (by omega)
    rw [e] at q
    exact q
theorem max_ok {p : List Nat} {M : Int} (h1 : M ∈ p.map fun (n : Nat) => ((n : Nat) : Int)) (h2 : ∀ y ∈ p.map fun (n : Nat) => ((n : Nat) : Int), y ≤ M) (b : Nat) : (b : Int) < M ↔ ∃ x ∈ p, b < x := by
 constructor
 ·intro h
  obtain ⟨x, hx, rfl⟩ := List.mem_map.mp h1
  exact ⟨x, hx, by omega⟩
 ·rintro ⟨x, hx, hb⟩
  have := h2 _ (List.mem_map.mpr ⟨x, hx, rfl⟩)
  omega
theorem okParts_no {p : List Nat} : Km414.okParts p = false ↔ ∃ x ∈ p, 1000 < x := by
 unfold Km414.okParts
 rw [List.all_eq_false]
 simp
def spSoMachine (t : Ad) (K : PySem.W.Frag) : Sp := fun vs H Q _ => ∃ (s : SA) (w : Works) (m : Nat) (l : Addr) (p : List Nat), vs = [.ref s.p, .int (m : Nat), .ref l] ∧ StateAt t K H s w ∧ WOk w ∧ SqL K H l (nts p) ∧ p.length = 6 ∧ ChgPost t K H s (chg w (.machine m p)) Q
theorem chg_machine1 {w : Works} {m : Nat} {p : List Nat} (h : m = 0 ∨ 1000000 < m ∨ Km414.okParts p = false) : chg w (.machine m p) = (w, Km414.only (-22)) := by
 unfold chg Km414.act; simp only [h, if_true]
theorem chg_machine2 {w : Works} {m : Nat} {p : List Nat} (h : ¬ (m = 0 ∨ 1000000 < m ∨ Km414.okParts p = false)) (h2 : 5 ≤ w.machines.length) : chg w (.machine m p) = (w, Km414.only (-28)) := by
 unfold chg Km414.act; simp only [h, if_false, Km414.MACHINES, h2, if_true]
theorem chg_machine3 {w : Works} {m : Nat} {p : List Nat} (h : ¬ (m = 0 ∨ 1000000 < m ∨ Km414.okParts p = false)) (h2 : ¬ 5 ≤ w.machines.length) : chg w (.machine m p) = ({ w with machines := w.machines ++ [⟨[p], 0, m, 0, 1⟩] }, Km414.only ((w.machines.length : Nat) : Int)) := by
 unfold chg Km414.act; simp only [h, if_false, Km414.MACHINES, h2, Km414.Desk.become]
theorem ok_so_machine (T : Txt K mg t) : FnOk P w K mg base CX0 3 t.so_machine.f t.so_machine.d ["state", "most", "p"] (spSoMachine t K) := by
 refine T.so_machine.fn.ok sc_so_machine (fun vs H Q E h => ?_) (fun cdv A outer s H vs Q E hr h => ?_)
 ·obtain ⟨s, w, m, l, p, rfl, _⟩ := h
  rfl
 ·obtain ⟨s, w, m, l, p, rfl, hs, ok, hp, l6, q⟩ := h
  have lm := pd_len hs.mach
  refine ⟨_, (pss_cons (ps_if (PW.pt (pw_or (pt_not (pt_val (pcall T.most_is_right (ok_most_is_right T) hr.m (pa_cons (pv 1) pa_nil)))) (pw_or1 (pt_cmpR op_gt (pe_callB (cr_maxK (K := K) rfl) (by rfl) T.n_max boot_max (pa_cons (pv 2) pa_nil)) (pgI T.g_THOUSAND) (nomark _))))) (pss_one (ps_ret (pe_lst (pa_cons (pgI T.g_WRONG) pa_nil)))) pss_nil) (pss_cons (ps_if (pt_cmpR op_ge (pe_callB (call_lenK (K := K)) (by rfl) T.n_len PySem.boot_len (pa_cons (pfld (K := K) (pv 0)) pa_nil)) (pgI T.g_MACHINES) (nomark _)) (pss_one (ps_ret (pe_lst (pa_cons (pgI T.g_FULL) pa_nil)))) pss_nil) (pss_cons (ps_expr (pe_bm PySem.F.plainAttrs_list PySem.F.slot_list_append PySem.F.type_list_append mt_append (pfld (K := K) (pv 0)) (pa_cons (pmake T.Machine T.Machine_init (ok_Machine_init T) hr.m (pa_cons (pv 1) (pa_cons (pe_callTy (call_tupleK (K := K)) (by rfl) T.n_tuple boot_tuple (pa_cons (pv 2) pa_nil)) pa_nil))) pa_nil))) (pss_one (ps_ret (pe_lst (pa_cons (pe_op op_sub (pe_callB (call_lenK (K := K)) (by rfl) T.n_len PySem.boot_len (pa_cons (pfld (K := K) (pv 0)) pa_nil)) pe_int) pa_nil))))))), ?_⟩
  refine ⟨_, rfl, m, rfl, _, rfl, ?_⟩
  by_cases c1 : 1 ≤ m ∧ m ≤ 1000000
  ·rw [decide_eq_true c1]
   refine ⟨_, rfl, l, _, rfl, by rw [← nts_eq]; exact hp, by rw [List.length_map, l6]; decide, fun M hM1 hM2 => ⟨_, _, rfl, rfl, _, rfl, ite2 (fun c2 => ?_) (fun c2 => ?_)⟩⟩
   ·rw [decide_eq_true_eq] at c2
    have c2 := okParts_no.mpr ((max_ok hM1 hM2 1000).mp c2)
    exact ⟨by show 1 ≤ sizeLine; decide, fun r hr => q.no hs (chg_machine1 (.inr (.inr c2))) (Same.refl H) hr⟩
   ·rw [decide_eq_true_eq] at c2
    have c3 : ¬ (m = 0 ∨ 1000000 < m ∨ Km414.okParts p = false) := by
     rintro (h | h | h)
     ·omega
     ·omega
     ·exact c2 ((max_ok hM1 hM2 1000).mpr (okParts_no.mp h))
    refine ⟨_, rfl, s.p, _, s.dx, _, _, rfl, hs.ob, T.State.cl, T.na_State_machines, rfl, s.ml, _, rfl, .inl (SqL.of hs.ml), _, _, rfl, rfl, _, rfl, ite2 (fun c4 => ?_) (fun c4 => ?_)⟩
    ·rw [decide_eq_true_eq, List.length_map, lm] at c4
     exact ⟨by show 1 ≤ sizeLine; decide, fun r hr => q.no hs (chg_machine2 c3 (by omega)) (Same.refl H) hr⟩
    ·rw [decide_eq_true_eq, List.length_map, lm] at c4
     have c5 : ¬ 5 ≤ w.machines.length := by omega
     rw [chg_machine3 c3 c5] at q
     refine ⟨_, rfl, s.p, _, s.dx, _, _, rfl, hs.ob, T.State.cl, T.na_State_machines, rfl, .inl ⟨rfl, _, SqL.of hs.ml⟩, _, rfl, _, rfl, l, _, rfl, .inl ⟨hp, fun tp htp => ?_⟩⟩
     have s1 : Same H (upd H tp (.tup (nts p))) := Same.new htp
     have ht1 : (upd H tp (.tup (nts p))) tp = some (.tup (nts p)) := upd_same
     generalize upd H tp (.tup (nts p)) = H1 at *
     intro x dx hx hd hne
     refine ⟨x, dx, _, _, rfl, upd_same, fun H2 sa ba k2 hx2 hsa hba => ⟨rfl, ?_⟩⟩
     have s2 : Same H1 H2 := KF.sameNew hx (Same.inst hx hd) k2
     have s12 := s1.trans s2
     have hs2 := hs.same s12
     have mx : MachAt t K H2 x ⟨[p], 0, m, 0, 1⟩ := ⟨dx, sa, ba, [tp], hx2, SqT.of hsa, .cons ⟨SqT.of (s2 _ _ ht1), l6⟩ .nil, SqT.of hba⟩
     have xn : x ∉ s.ms := fun hm => by
      obtain ⟨_, _, ob, _⟩ := hs.mobj hm
      rw [s1 _ _ ob] at hx; cases hx
     refine ⟨s.ml, _, _, rfl, rfl, hs2.ml, by rw [List.length_map, lm]; exact Nat.lt_of_le_of_lt (show w.machines.length ≤ 5 by omega) (by decide), ?_⟩
     have hs3 := hs2.addM mx xn
     rw [List.map_append] at hs3
     have k3 : KF (foot s) H2 (upd H2 s.ml (.lst (s.ms.map V.ref ++ [V.ref x]))) := KF.upd (.inr (.inl rfl))
     change StateAt t K (upd H2 s.ml (.lst (s.ms.map V.ref ++ [V.ref x]))) _ _ at hs3
     generalize upd H2 s.ml (.lst (s.ms.map V.ref ++ [V.ref x])) = H3 at *
     refine ⟨_, rfl, s.p, _, s.dx, _, _, rfl, hs3.ob, T.State.cl, T.na_State_machines, rfl, s.ml, _, rfl, .inl (SqL.of hs3.ml), _, _, rfl, rfl, by show 1 ≤ sizeLine; decide, fun r hr => ?_⟩
     have s4 := Same.new (o := .lst [.int (((s.ms ++ [x]).map V.ref).length - 1)]) hr
     refine q _ { s with ms := s.ms ++ [x] } r (((KF.same s12).trans k3).trans (KF.same s4)) ?_ rfl (hs3.same s4) ?_ (kf_new ((KF.same s12).trans k3) hr)
     ·rintro c (z | z | z | z | z | z)
      ·exact .inl (.inl z)
      ·exact .inl (.inr (.inl z))
      ·exact .inl (.inr (.inr (.inl z)))
      ·exact .inl (.inr (.inr (.inr (.inl z))))
      ·rcases List.mem_append.mp z with z | z
       ·exact .inl (.inr (.inr (.inr (.inr (.inl z)))))
       ·rw [List.mem_singleton.mp z]; exact .inr (s1.free hx)
      ·exact .inl (.inr (.inr (.inr (.inr (.inr z)))))
     ·rw [upd_same]
      show some (HO.lst [V.int ((((s.ms ++ [x]).map V.ref).length : Nat) - 1)]) = some (HO.lst [V.int ((w.machines.length : Nat) : Int)])
      rw [List.length_map, List.length_append, lm]
      simp
  ·rw [decide_eq_false c1]
   have c2 : m = 0 ∨ 1000000 < m ∨ Km414.okParts p = false := by omega
   exact ⟨by show 1 ≤ sizeLine; decide, fun r hr => q.no hs (chg_machine1 c2) (Same.refl H) hr⟩
theorem chg_m {w : Works} {k : Nat} (h : w.machines.length ≤ k) : w.machines[k]? = none := List.getElem?_eq_none h
def spSoSetting (t : Ad) (K : PySem.W.Frag) : Sp := fun vs H Q _ => ∃ (s : SA) (w : Works) (k : Nat) (l : Addr) (p : List Nat), vs = [.ref s.p, .int (k : Nat), .ref l] ∧ StateAt t K H s w ∧ WOk w ∧ SqL K H l (nts p) ∧ p.length = 6 ∧ ChgPost t K H s (chg w (.setting k p)) Q
theorem ok_so_setting (T : Txt K mg t) : FnOk P w K mg base CX0 1 t.so_setting.f t.so_setting.d ["state", "k", "p"] (spSoSetting t K) := by
 refine T.so_setting.fn.ok sc_so_setting (fun vs H Q E h => ?_) (fun cdv A outer s H vs Q E hr h => ?_)
 ·obtain ⟨s, w, k, l, p, rfl, _⟩ := h
  rfl
 ·obtain ⟨s, w, k, l, p, rfl, hs, ok, hp, l6, q⟩ := h
  have lm := pd_len hs.mach
  have n5 := ok.ms.n5
  refine ⟨_, (pss_cons (ps_if (pt_cmpR op_ge (pv 1) (pe_callB (call_lenK (K := K)) (by rfl) T.n_len PySem.boot_len (pa_cons (pfld (K := K) (pv 0)) pa_nil)) (nomark _)) (pss_one (ps_ret (pe_lst (pa_cons (pgI T.g_MISSING) pa_nil)))) pss_nil) (pss_cons (ps_if (pt_cmpR op_gt (pe_callB (cr_maxK (K := K) rfl) (by rfl) T.n_max boot_max (pa_cons (pv 2) pa_nil)) (pgI T.g_THOUSAND) (nomark _)) (pss_one (ps_ret (pe_lst (pa_cons (pgI T.g_WRONG) pa_nil)))) pss_nil) (pss_cons (ps_set (i := 3) sc_so_setting.nd rfl (Or.inl rfl) (pe_ix (ix_listK (K := K)) (pfld (K := K) (pv 0)) (pv 1) (fun _ _ => rfl))) (pss_cons (ps_if (pt_cmpR op_ge (pe_callB (call_lenK (K := K)) (by rfl) T.n_len PySem.boot_len (pa_cons (pfld (K := K) (pv 3)) pa_nil)) (pgI T.g_MOST_SETTINGS) (nomark _)) (pss_one (ps_ret (pe_lst (pa_cons (pgI T.g_FULL) pa_nil)))) pss_nil) (pss_cons (psfld (K := K) (pv 3) (pe_op (op_catK (K := K)) (pfld (K := K) (pv 3)) (pe_tup (pa_cons (pe_callTy (call_tupleK (K := K)) (by rfl) T.n_tuple boot_tuple (pa_cons (pv 2) pa_nil)) pa_nil)))) (pss_one (ps_ret (pe_lst (pa_cons (pe_op op_sub (pe_callB (call_lenK (K := K)) (by rfl) T.n_len PySem.boot_len (pa_cons (pfld (K := K) (pv 3)) pa_nil)) pe_int) pa_nil))))))))), ?_⟩
  refine ⟨_, rfl, _, rfl, s.p, _, s.dx, _, _, rfl, hs.ob, T.State.cl, T.na_State_machines, rfl, s.ml, _, rfl, .inl (SqL.of hs.ml), _, _, rfl, rfl, _, rfl, ite2 (fun c => ?_) (fun c => ?_)⟩
  ·rw [decide_eq_true_eq, List.length_map, lm] at c
   refine ⟨by show 1 ≤ sizeLine; decide, fun r hr => q.no hs ?_ (Same.refl H) hr⟩
   unfold chg Km414.act; simp only [chg_m (show w.machines.length ≤ k by omega)]
  ·rw [decide_eq_true_eq, List.length_map, lm] at c
   have hk : k < w.machines.length := by omega
   obtain ⟨a, ea, ma⟩ := pd_get' hs.mach (List.getElem?_eq_getElem hk)
   generalize hx : w.machines[k] = x at *
   have ex : w.machines[k]? = some x := by rw [List.getElem?_eq_getElem hk, hx]
   obtain ⟨dx, sa, ba, ss, ob, q1, q2, q3⟩ := ma.ob
   have lss := pd_len q2
   refine ⟨_, rfl, l, _, rfl, by rw [← nts_eq]; exact hp, by rw [List.length_map, l6]; decide, fun M hM1 hM2 => ⟨_, _, rfl, rfl, _, rfl, ite2 (fun c2 => ?_) (fun c2 => ?_)⟩⟩
   ·rw [decide_eq_true_eq] at c2
    have c2 := okParts_no.mpr ((max_ok hM1 hM2 1000).mp c2)
    refine ⟨by show 1 ≤ sizeLine; decide, fun r hr => q.no hs ?_ (Same.refl H) hr⟩
    unfold chg Km414.act; simp only [ex, c2, if_true]
   ·rw [decide_eq_true_eq] at c2
    have c3 : ¬ Km414.okParts p = false := fun h => c2 ((max_ok hM1 hM2 1000).mpr (okParts_no.mp h))
    refine ⟨_, rfl, s.p, _, s.dx, _, _, rfl, hs.ob, T.State.cl, T.na_State_machines, rfl, _, rfl, s.ml, _, _, _, rfl, rfl, SqL.of hs.ml, atN (refs_at ea), ?_⟩
    refine ⟨_, rfl, a, _, dx, _, _, rfl, ob, T.Machine.cl, T.na_Machine_settings, rfl, sa, _, rfl, .inr q1, _, _, rfl, rfl, _, rfl, ite2 (fun c4 => ?_) (fun c4 => ?_)⟩
    ·rw [decide_eq_true_eq, List.length_map, lss] at c4
     refine ⟨by show 1 ≤ sizeLine; decide, fun r hr => q.no hs ?_ (Same.refl H) hr⟩
     have c5 : Km414.SETTINGS ≤ x.settings.length := by unfold Km414.SETTINGS; omega
     unfold chg Km414.act; simp only [ex, if_neg c3, if_pos c5]
    ·rw [decide_eq_true_eq, List.length_map, lss] at c4
     have c5 : ¬ Km414.SETTINGS ≤ x.settings.length := by unfold Km414.SETTINGS; omega
     have er : chg w (.setting k p) = ({ w with machines := w.machines.set k { x with settings := x.settings ++ [p] } }, Km414.only ((x.settings.length : Nat) : Int)) := by
      unfold chg Km414.act; simp only [ex, if_neg c3, if_neg c5, Km414.Desk.become]
     rw [er] at q
     refine ⟨_, rfl, a, _, dx, _, _, rfl, ob, T.Machine.cl, T.na_Machine_settings, rfl, _, rfl, l, _, rfl, .inl ⟨hp, fun tp htp => ?_⟩⟩
     have s1 : Same H (upd H tp (.tup (nts p))) := Same.new htp
     have ht1 : (upd H tp (.tup (nts p))) tp = some (.tup (nts p)) := upd_same
     generalize upd H tp (.tup (nts p)) = H1 at *
     refine ⟨by show 1 ≤ sizeLine; decide, fun t1 ht1' => ?_⟩
     have s2 : Same H1 (upd H1 t1 (.tup [.ref tp])) := Same.new ht1'
     have ht2 : (upd H1 t1 (.tup [.ref tp])) t1 = some (.tup [.ref tp]) := upd_same
     generalize upd H1 t1 (.tup [.ref tp]) = H2 at *
     have s12 := s1.trans s2
     refine ⟨sa, t1, _, _, rfl, rfl, SqT.same s12 q1, SqT.of ht2, by rw [List.length_map, lss]; exact Nat.le_trans (show x.settings.length + 1 ≤ 4 by omega) (by decide), fun np H3 s3 hnp => ?_⟩
     have s13 := s12.trans s3
     have ob3 := s13 _ _ ob
     refine ⟨_, rfl, a, _, dx, _, rfl, ob3, T.Machine.cl, T.na_Machine_settings, by show 4 < 1000; decide, ?_⟩
     have k4 : KF (· = a) H3 (upd H3 a (.ins t.c_Machine dx (mfs (.int (x.most : Nat)) (.ref np) (.int (x.now : Nat)) (.ref ba)))) := KF.upd rfl
     have ob4 : (upd H3 a (.ins t.c_Machine dx (mfs (.int (x.most : Nat)) (.ref np) (.int (x.now : Nat)) (.ref ba)))) a = _ := upd_same
     have wr := wrI ob3
     have hm4 : MachAt t K (upd H3 a (.ins t.c_Machine dx (mfs (.int (x.most : Nat)) (.ref np) (.int (x.now : Nat)) (.ref ba)))) a { x with settings := x.settings ++ [p] } := by
      refine ⟨dx, np, ba, ss ++ [tp], ob4, SqT.kf k4 wr (by rw [List.map_append]; exact hnp), pd_app (pd_imp (fun _ _ z => (z.same s13).kf k4 wr) q2) (.cons ?_ .nil), SqT.kf k4 wr (SqT.same s13 q3)⟩
      exact MixAt.kf k4 wr ⟨SqT.same s3 (SqT.same s2 (SqT.of ht1)), l6⟩
     have hs4 := (hs.same s13).setM ea k4 hm4
     have hnp4 := SqT.kf k4 wr hnp
     refine ⟨_, rfl, a, _, dx, _, _, rfl, ob4, T.Machine.cl, T.na_Machine_settings, rfl, np, _, rfl, .inr hnp4, _, _, rfl, rfl, by show 1 ≤ sizeLine; decide, fun r hr => ?_⟩
     refine q.yes (s' := s) ((KF.same s13).trans (k4.foot (foot_ms ea))) (fun c hc => .inl hc) rfl hs4 hr ?_
     show [V.int ((x.settings.length : Nat) : Int)] = [V.int (((ss.map V.ref ++ [V.ref tp]).length : Nat) - 1)]
     rw [List.length_append, List.length_map, lss]
     simp
def spSoTurn (t : Ad) (K : PySem.W.Frag) : Sp := fun vs H Q _ => ∃ (s : SA) (w : Works) (k e : Nat), vs = [.ref s.p, .int (k : Nat), .int (e : Nat)] ∧ StateAt t K H s w ∧ WOk w ∧ ChgPost t K H s (chg w (.turn k e)) Q
theorem ok_so_turn (T : Txt K mg t) : FnOk P w K mg base CX0 1 t.so_turn.f t.so_turn.d ["state", "k", "s"] (spSoTurn t K) := by
 refine T.so_turn.fn.ok sc_so_turn (fun vs H Q E h => ?_) (fun cdv A outer s H vs Q E hr h => ?_)
 ·obtain ⟨s, w, k, e, rfl, _⟩ := h
  rfl
 ·obtain ⟨s, w, k, e, rfl, hs, ok, q⟩ := h
  have lm := pd_len hs.mach
  refine ⟨_, (pss_cons (ps_if (pt_cmpR op_ge (pv 1) (pe_callB (call_lenK (K := K)) (by rfl) T.n_len PySem.boot_len (pa_cons (pfld (K := K) (pv 0)) pa_nil)) (nomark _)) (pss_one (ps_ret (pe_lst (pa_cons (pgI T.g_MISSING) pa_nil)))) pss_nil) (pss_cons (ps_set (i := 3) sc_so_turn.nd rfl (Or.inl rfl) (pe_ix (ix_listK (K := K)) (pfld (K := K) (pv 0)) (pv 1) (fun _ _ => rfl))) (pss_cons (ps_if (pt_cmpR op_ge (pv 2) (pe_callB (call_lenK (K := K)) (by rfl) T.n_len PySem.boot_len (pa_cons (pfld (K := K) (pv 3)) pa_nil)) (nomark _)) (pss_one (ps_ret (pe_lst (pa_cons (pgI T.g_WRONG) pa_nil)))) pss_nil) (pss_cons (ps_set (i := 4) sc_so_turn.nd rfl (Or.inl rfl) (pfld (K := K) (pv 3))) (pss_cons (psfld (K := K) (pv 3) (pv 2)) (pss_one (ps_ret (pe_lst (pa_cons (pv 4) pa_nil))))))))), ?_⟩
  refine ⟨_, rfl, _, rfl, s.p, _, s.dx, _, _, rfl, hs.ob, T.State.cl, T.na_State_machines, rfl, s.ml, _, rfl, .inl (SqL.of hs.ml), _, _, rfl, rfl, _, rfl, ite2 (fun c => ?_) (fun c => ?_)⟩
  ·rw [decide_eq_true_eq, List.length_map, lm] at c
   refine ⟨by show 1 ≤ sizeLine; decide, fun r hr => q.no hs ?_ (Same.refl H) hr⟩
   unfold chg Km414.act; simp only [chg_m (show w.machines.length ≤ k by omega)]
  ·rw [decide_eq_true_eq, List.length_map, lm] at c
   have hk : k < w.machines.length := by omega
   obtain ⟨a, ea, ma⟩ := pd_get' hs.mach (List.getElem?_eq_getElem hk)
   generalize hx : w.machines[k] = x at *
   have ex : w.machines[k]? = some x := by rw [List.getElem?_eq_getElem hk, hx]
   obtain ⟨dx, sa, ba, ss, ob, q1, q2, q3⟩ := ma.ob
   have lss := pd_len q2
   refine ⟨_, rfl, s.p, _, s.dx, _, _, rfl, hs.ob, T.State.cl, T.na_State_machines, rfl, _, rfl, s.ml, _, _, _, rfl, rfl, SqL.of hs.ml, atN (refs_at ea), ?_⟩
   refine ⟨_, rfl, _, rfl, a, _, dx, _, _, rfl, ob, T.Machine.cl, T.na_Machine_settings, rfl, sa, _, rfl, .inr q1, _, _, rfl, rfl, _, rfl, ite2 (fun c4 => ?_) (fun c4 => ?_)⟩
   ·rw [decide_eq_true_eq, List.length_map, lss] at c4
    refine ⟨by show 1 ≤ sizeLine; decide, fun r hr => q.no hs ?_ (Same.refl H) hr⟩
    have c5 : x.settings.length ≤ e := by omega
    unfold chg Km414.act; simp only [ex, c5, if_true]
   ·rw [decide_eq_true_eq, List.length_map, lss] at c4
    have c5 : ¬ x.settings.length ≤ e := by omega
    have er : chg w (.turn k e) = ({ w with machines := w.machines.set k { x with now := e } }, Km414.only ((x.now : Nat) : Int)) := by
     unfold chg Km414.act; simp only [ex, c5, if_false, Km414.Desk.become]
    rw [er] at q
    refine ⟨_, rfl, a, _, dx, _, _, rfl, ob, T.Machine.cl, T.na_Machine_chosen, rfl, _, rfl, _, rfl, a, _, dx, _, rfl, ob, T.Machine.cl, T.na_Machine_chosen, by show 4 < 1000; decide, ?_⟩
    have k4 : KF (· = a) H (upd H a (.ins t.c_Machine dx (mfs (.int (x.most : Nat)) (.ref sa) (.int (e : Nat)) (.ref ba)))) := KF.upd rfl
    have wr := wrI ob
    have hm4 : MachAt t K (upd H a (.ins t.c_Machine dx (mfs (.int (x.most : Nat)) (.ref sa) (.int (e : Nat)) (.ref ba)))) a { x with now := e } :=
     ⟨dx, sa, ba, ss, upd_same, SqT.kf k4 wr q1, pd_imp (fun _ _ z => z.kf k4 wr) q2, SqT.kf k4 wr q3⟩
    have hs4 := hs.setM ea k4 hm4
    refine ⟨_, rfl, by show 1 ≤ sizeLine; decide, fun r hr => ?_⟩
    exact q.yes (s' := s) (k4.foot (foot_ms ea)) (fun c hc => .inl hc) rfl hs4 hr rfl
def spSoBelt (t : Ad) (K : PySem.W.Frag) : Sp := fun vs H Q _ => ∃ (s : SA) (w : Works) (k e to_ : Nat), vs = [.ref s.p, .int (k : Nat), .int (e : Nat), .int (to_ : Nat)] ∧ StateAt t K H s w ∧ WOk w ∧ ChgPost t K H s (chg w (.belt k e to_)) Q
theorem ok_so_belt (T : Txt K mg t) : FnOk P w K mg base CX0 2 t.so_belt.f t.so_belt.d ["state", "k", "side", "to"] (spSoBelt t K) := by
 refine T.so_belt.fn.ok sc_so_belt (fun vs H Q E h => ?_) (fun cdv A outer s H vs Q E hr h => ?_)
 ·obtain ⟨s, w, k, e, to_, rfl, _⟩ := h
  rfl
 ·obtain ⟨s, w, k, e, to_, rfl, hs, ok, q⟩ := h
  have lm := pd_len hs.mach
  refine ⟨_, (pss_cons (ps_if (pt_cmpR op_ge (pv 1) (pe_callB (call_lenK (K := K)) (by rfl) T.n_len PySem.boot_len (pa_cons (pfld (K := K) (pv 0)) pa_nil)) (nomark _)) (pss_one (ps_ret (pe_lst (pa_cons (pgI T.g_MISSING) pa_nil)))) pss_nil) (pss_cons (ps_if (PW.pt (pw_or (pt_cmpR op_gt (pv 2) pe_int (nomark _)) (pw_or1 (pt_not (pt_val (pcall T.leads_on (ok_leads_on T) hr.m (pa_cons (pv 0) (pa_cons (pv 1) (pa_cons (pv 3) pa_nil))))))))) (pss_one (ps_ret (pe_lst (pa_cons (pgI T.g_WRONG) pa_nil)))) pss_nil) (pss_cons (ps_set (i := 4) sc_so_belt.nd rfl (Or.inl rfl) (pe_ix (ix_listK (K := K)) (pfld (K := K) (pv 0)) (pv 1) (fun _ _ => rfl))) (pss_cons (ps_set (i := 5) sc_so_belt.nd rfl (Or.inl rfl) (pfld (K := K) (pv 4))) (pss_cons (psfld (K := K) (pv 4) (pe_ifExp (pt_cmpR op_eq (pv 2) pe_int (nomark _)) (pe_tup (pa_cons (pv 3) (pa_cons (pe_ix (ix_tupK (K := K)) (pv 5) pe_int (fun _ _ => rfl)) pa_nil))) (pe_tup (pa_cons (pe_ix (ix_tupK (K := K)) (pv 5) pe_int (fun _ _ => rfl)) (pa_cons (pv 3) pa_nil))))) (pss_one (ps_ret (pe_lst (pa_cons (pe_ix (ix_tupK (K := K)) (pv 5) (pv 2) (fun _ _ => rfl)) pa_nil))))))))), ?_⟩
  refine ⟨_, rfl, _, rfl, s.p, _, s.dx, _, _, rfl, hs.ob, T.State.cl, T.na_State_machines, rfl, s.ml, _, rfl, .inl (SqL.of hs.ml), _, _, rfl, rfl, _, rfl, ite2 (fun c => ?_) (fun c => ?_)⟩
  ·rw [decide_eq_true_eq, List.length_map, lm] at c
   refine ⟨by show 1 ≤ sizeLine; decide, fun r hr => q.no hs ?_ (Same.refl H) hr⟩
   unfold chg Km414.act; simp only [chg_m (show w.machines.length ≤ k by omega)]
  ·rw [decide_eq_true_eq, List.length_map, lm] at c
   have hk : k < w.machines.length := by omega
   obtain ⟨a, ea, ma⟩ := pd_get' hs.mach (List.getElem?_eq_getElem hk)
   generalize hx : w.machines[k] = x at *
   have ex : w.machines[k]? = some x := by rw [List.getElem?_eq_getElem hk, hx]
   obtain ⟨dx, sa, ba, ss, ob, q1, q2, q3⟩ := ma.ob
   have no : (1 < e ∨ (Km414.BAYS ≤ to_ ∧ (to_ ≤ Km414.BAYS + k ∨ Km414.BAYS + w.machines.length ≤ to_))) → ∀ r, H r = none → Q (.ref r) (upd H r (.lst [.int (-22)])) := fun hc r hr => q.no hs (by
    unfold chg Km414.act; simp only [ex, hc, if_true]) (Same.refl H) hr
   refine ⟨_, rfl, _, _, rfl, rfl, _, rfl, ?_⟩
   by_cases c1 : 1 < e
   ·rw [decide_eq_true (show (1 : Int) < ((e : Nat) : Int) by omega)]
    exact ⟨by show 1 ≤ sizeLine; decide, no (.inl c1)⟩
   ·rw [decide_eq_false (show ¬ (1 : Int) < ((e : Nat) : Int) by omega)]
    refine ⟨_, rfl, _, rfl, _, rfl, s, w, k, to_, rfl, hs, _, rfl, ?_⟩
    by_cases c2 : to_ < 6 ∨ (6 + k < to_ ∧ to_ < 6 + w.machines.length)
    ·rw [decide_eq_true c2]
     have c3 : ¬ (1 < e ∨ (Km414.BAYS ≤ to_ ∧ (to_ ≤ Km414.BAYS + k ∨ Km414.BAYS + w.machines.length ≤ to_))) := by unfold Km414.BAYS; omega
     have er : chg w (.belt k e to_) = ({ w with machines := w.machines.set k (if e = 0 then { x with a := to_ } else { x with b := to_ }) }, Km414.only (((if e = 0 then x.a else x.b) : Nat) : Int)) := by
      unfold chg Km414.act; simp only [ex, c3, if_false, Km414.Desk.become]
     rw [er] at q
     refine ⟨_, rfl, s.p, _, s.dx, _, _, rfl, hs.ob, T.State.cl, T.na_State_machines, rfl, _, rfl, s.ml, _, _, _, rfl, rfl, SqL.of hs.ml, atN (refs_at ea), ?_⟩
     refine ⟨_, rfl, a, _, dx, _, _, rfl, ob, T.Machine.cl, T.na_Machine_belts, rfl, ?_⟩
     have fin : ∀ nb (xa xb : Nat), H nb = none → (if e = 0 then { x with a := to_ } else { x with b := to_ }) = ({ x with a := xa, b := xb } : Machine) →
       tRet (tLst (tCons (tOp (rIxT K) (tVar 5) (tVar 2)) tNil)) { nx := fun _ H' => Q .non H', rt := Q } [some (.ref s.p), some (.int (k : Nat)), some (.int (e : Nat)), some (.int (to_ : Nat)), some (.ref a), some (.ref ba)] (upd (upd H nb (.tup [.int (xa : Nat), .int (xb : Nat)])) a (.ins t.c_Machine dx (mfs (.int (x.most : Nat)) (.ref sa) (.int (x.now : Nat)) (.ref nb)))) := by
      intro nb xa xb hnb exx
      have s1 : Same H (upd H nb (.tup [.int (xa : Nat), .int (xb : Nat)])) := Same.new hnb
      have hb1 : (upd H nb (.tup [.int (xa : Nat), .int (xb : Nat)])) nb = some (.tup [.int (xa : Nat), .int (xb : Nat)]) := upd_same
      generalize upd H nb (.tup [.int (xa : Nat), .int (xb : Nat)]) = H1 at *
      have k4 : KF (· = a) H1 (upd H1 a (.ins t.c_Machine dx (mfs (.int (x.most : Nat)) (.ref sa) (.int (x.now : Nat)) (.ref nb)))) := KF.upd rfl
      have wr := wrI (s1 _ _ ob)
      have hm4 : MachAt t K (upd H1 a (.ins t.c_Machine dx (mfs (.int (x.most : Nat)) (.ref sa) (.int (x.now : Nat)) (.ref nb)))) a { x with a := xa, b := xb } :=
       ⟨dx, sa, nb, ss, upd_same, SqT.kf k4 wr (SqT.same s1 q1), pd_imp (fun _ _ z => (z.same s1).kf k4 wr) q2, SqT.kf k4 wr (SqT.of hb1)⟩
      rw [← exx] at hm4
      have hs4 := (hs.same s1).setM ea k4 hm4
      have hb4 := SqT.kf k4 wr (SqT.same s1 q3)
      have at_ : atI [V.int (x.a : Nat), V.int (x.b : Nat)] ((e : Nat) : Int) = some (V.int (((if e = 0 then x.a else x.b) : Nat) : Int)) := by
       have : e = 0 ∨ e = 1 := by omega
       rcases this with rfl | rfl <;> rfl
      refine ⟨_, rfl, _, rfl, ba, _, _, _, rfl, rfl, hb4, at_, by show 1 ≤ sizeLine; decide, fun r hr => ?_⟩
      exact q.yes (s' := s) ((KF.same s1).trans (k4.foot (foot_ms ea))) (fun c hc => .inl hc) rfl hs4 hr rfl
     refine ⟨_, rfl, rfl, _, rfl, ite2 (fun c4 => ?_) (fun c4 => ?_)⟩
     ·rw [decide_eq_true_eq] at c4
      have c4 : e = 0 := by simp only [V.int.injEq] at c4; omega
      refine ⟨_, rfl, _, rfl, ba, _, _, _, rfl, rfl, q3, rfl, by show 2 ≤ sizeLine; decide, fun nb hnb => ?_⟩
      refine ⟨_, rfl, a, _, dx, _, rfl, (Same.new hnb) _ _ ob, T.Machine.cl, T.na_Machine_belts, by show 4 < 1000; decide, ?_⟩
      exact fin nb to_ x.b hnb (by rw [if_pos c4])
     ·rw [decide_eq_true_eq] at c4
      have c4 : ¬ e = 0 := by simp only [V.int.injEq] at c4; omega
      refine ⟨_, rfl, ba, _, _, _, rfl, rfl, q3, rfl, _, rfl, by show 2 ≤ sizeLine; decide, fun nb hnb => ?_⟩
      refine ⟨_, rfl, a, _, dx, _, rfl, (Same.new hnb) _ _ ob, T.Machine.cl, T.na_Machine_belts, by show 4 < 1000; decide, ?_⟩
      exact fin nb x.a to_ hnb (by rw [if_neg c4])
    ·rw [decide_eq_false c2]
     exact ⟨by show 1 ≤ sizeLine; decide, no (.inr (by unfold Km414.BAYS; omega))⟩
theorem bay_at {w : Works} {i : Nat} {b : Bay} (h : w.bays[i]? = some b) : w.bay i = b := by
 unfold Km414.Works.bay; rw [List.getD_eq_getElem?_getD, h]; rfl
def spSoBay (t : Ad) (K : PySem.W.Frag) : Sp := fun vs H Q _ => ∃ (s : SA) (w : Works) (i kd pu pr mo : Nat), vs = [.ref s.p, .int (i : Nat), .int (kd : Nat), .int (pu : Nat), .int (pr : Nat), .int (mo : Nat)] ∧ StateAt t K H s w ∧ WOk w ∧ ChgPost t K H s (chg w (.bay i kd pu pr mo)) Q
theorem ok_so_bay (T : Txt K mg t) : FnOk P w K mg base CX0 2 t.so_bay.f t.so_bay.d ["state", "i", "kind", "pure", "price", "most"] (spSoBay t K) := by
 refine T.so_bay.fn.ok sc_so_bay (fun vs H Q E h => ?_) (fun cdv A outer s H vs Q E hr h => ?_)
 ·obtain ⟨s, w, i, kd, pu, pr, mo, rfl, _⟩ := h
  rfl
 ·obtain ⟨s, w, i, kd, pu, pr, mo, rfl, hs, ok, q⟩ := h
  have lb := pd_len hs.bays
  have b6 := ok.b6
  refine ⟨_, (pss_cons (ps_if (pt_cmpR op_ge (pv 1) (pgI T.g_BAYS) (nomark _)) (pss_one (ps_ret (pe_lst (pa_cons (pgI T.g_MISSING) pa_nil)))) pss_nil) (pss_cons (ps_if (PW.pt (pw_or (pt_cmpR op_ge (pv 2) (pgI T.g_KINDS) (nomark _)) (pw_or (pt_cmpR op_gt (pv 3) (pgI T.g_THOUSAND) (nomark _)) (pw_or (pt_cmpR op_gt (pv 4) (pgI T.g_HIGHEST_PRICE) (nomark _)) (pw_or1 (pt_not (pt_val (pcall T.most_is_right (ok_most_is_right T) hr.m (pa_cons (pv 5) pa_nil))))))))) (pss_one (ps_ret (pe_lst (pa_cons (pgI T.g_WRONG) pa_nil)))) pss_nil) (pss_cons (ps_set (i := 6) sc_so_bay.nd rfl (Or.inl rfl) (pe_ix (ix_listK (K := K)) (pfld (K := K) (pv 0)) (pv 1) (fun _ _ => rfl))) (pss_cons (ps_if (pt_cmpR op_gt (pe_callB (cr_sumTK (K := K) rfl) (by rfl) T.n_sum boot_sum (pa_cons (pfld (K := K) (pv 6)) pa_nil)) (pv 5) (nomark _)) (pss_one (ps_ret (pe_lst (pa_cons (pgI T.g_NO_ROOM) pa_nil)))) pss_nil) (pss_cons (psfld (K := K) (pv 6) (pv 2)) (pss_cons (psfld (K := K) (pv 6) (pv 3)) (pss_cons (psfld (K := K) (pv 6) (pv 4)) (pss_cons (psfld (K := K) (pv 6) (pv 5)) (pss_one (ps_ret (pe_lst (pa_cons pe_int pa_nil)))))))))))), ?_⟩
  refine ⟨_, rfl, _, _, rfl, rfl, _, rfl, ite2 (fun c => ?_) (fun c => ?_)⟩
  ·rw [decide_eq_true_eq] at c
   refine ⟨by show 1 ≤ sizeLine; decide, fun r hr => q.no hs ?_ (Same.refl H) hr⟩
   unfold chg Km414.act; simp only [if_pos (show Km414.BAYS ≤ i by unfold Km414.BAYS; omega)]
  ·rw [decide_eq_true_eq] at c
   have hi : i < w.bays.length := by omega
   have ci : ¬ Km414.BAYS ≤ i := by unfold Km414.BAYS; omega
   obtain ⟨a, ea, ma⟩ := pd_get' hs.bays (List.getElem?_eq_getElem hi)
   generalize hx : w.bays[i] = x at *
   have ex : w.bays[i]? = some x := by rw [List.getElem?_eq_getElem hi, hx]
   have ebay := bay_at ex
   obtain ⟨dx, mx, ob, hmx⟩ := ma.ob
   have no : (Km414.KINDS ≤ kd ∨ 1000 < pu ∨ 10000 < pr ∨ mo = 0 ∨ 1000000 < mo) → 1 ≤ sizeLine ∧ ∀ r, H r = none → Q (.ref r) (upd H r (.lst [.int (-22)])) := fun hc => ⟨by decide, fun r hr => q.no hs (by
    unfold chg Km414.act; simp only [if_neg ci, if_pos hc]) (Same.refl H) hr⟩
   refine ⟨_, rfl, _, _, rfl, rfl, _, rfl, ?_⟩
   by_cases c1 : 6 ≤ kd
   ·rw [decide_eq_true (show (6 : Int) ≤ ((kd : Nat) : Int) by omega)]
    exact no (.inl c1)
   rw [decide_eq_false (show ¬ (6 : Int) ≤ ((kd : Nat) : Int) by omega)]
   refine ⟨_, rfl, _, _, rfl, rfl, _, rfl, ?_⟩
   by_cases c2 : 1000 < pu
   ·rw [decide_eq_true (show (1000 : Int) < ((pu : Nat) : Int) by omega)]
    exact no (.inr (.inl c2))
   rw [decide_eq_false (show ¬ (1000 : Int) < ((pu : Nat) : Int) by omega)]
   refine ⟨_, rfl, _, _, rfl, rfl, _, rfl, ?_⟩
   by_cases c3 : 10000 < pr
   ·rw [decide_eq_true (show (10000 : Int) < ((pr : Nat) : Int) by omega)]
    exact no (.inr (.inr (.inl c3)))
   rw [decide_eq_false (show ¬ (10000 : Int) < ((pr : Nat) : Int) by omega)]
   refine ⟨_, rfl, mo, rfl, _, rfl, ?_⟩
   by_cases c4 : 1 ≤ mo ∧ mo ≤ 1000000
   ·rw [decide_eq_true c4]
    have c5 : ¬ (Km414.KINDS ≤ kd ∨ 1000 < pu ∨ 10000 < pr ∨ mo = 0 ∨ 1000000 < mo) := by unfold Km414.KINDS; omega
    refine ⟨_, rfl, s.p, _, s.dx, _, _, rfl, hs.ob, T.State.cl, T.na_State_bays, rfl, _, rfl, s.bl, _, _, _, rfl, rfl, SqL.of hs.bl, atN (refs_at ea), ?_⟩
    refine ⟨_, rfl, a, _, dx, _, _, rfl, ob, T.Bay.cl, T.na_Bay_mix, rfl, mx, _, rfl, hmx.sum, _, rfl, _, _, rfl, rfl, _, rfl, ite2 (fun c6 => ?_) (fun c6 => ?_)⟩
    ·rw [decide_eq_true_eq, isum] at c6
     refine ⟨by show 1 ≤ sizeLine; decide, fun r hr => q.no hs ?_ (Same.refl H) hr⟩
     unfold chg Km414.act; simp only [if_neg ci, if_neg c5, ebay, if_pos (show mo < Km414.sum x.mix by omega)]
    ·rw [decide_eq_true_eq, isum] at c6
     have er : chg w (.bay i kd pu pr mo) = ({ w with bays := w.bays.set i ⟨kd, pu, pr, mo, x.mix⟩ }, Km414.only 0) := by
      unfold chg Km414.act; simp only [if_neg ci, if_neg c5, ebay, if_neg (show ¬ mo < Km414.sum x.mix by omega), Km414.Desk.become, Km414.Works.setBay]
     rw [er] at q
     refine ⟨_, rfl, _, rfl, a, _, dx, _, rfl, ob, T.Bay.cl, T.na_Bay_kind, by show 5 < 1000; decide, ?_⟩
     refine ⟨_, rfl, _, rfl, a, _, dx, _, rfl, upd_same, T.Bay.cl, T.na_Bay_pure, by show 5 < 1000; decide, ?_⟩
     rw [upd_upd]
     refine ⟨_, rfl, _, rfl, a, _, dx, _, rfl, upd_same, T.Bay.cl, T.na_Bay_price, by show 5 < 1000; decide, ?_⟩
     rw [upd_upd]
     refine ⟨_, rfl, _, rfl, a, _, dx, _, rfl, upd_same, T.Bay.cl, T.na_Bay_most, by show 5 < 1000; decide, ?_⟩
     rw [upd_upd]
     have k4 : KF (· = a) H (upd H a (.ins t.c_Bay dx (bfs (.int (kd : Nat)) (.int (pu : Nat)) (.int (pr : Nat)) (.int (mo : Nat)) (.ref mx)))) := KF.upd rfl
     have wr := wrI ob
     have hm4 : BayAt t K (upd H a (.ins t.c_Bay dx (bfs (.int (kd : Nat)) (.int (pu : Nat)) (.int (pr : Nat)) (.int (mo : Nat)) (.ref mx)))) a ⟨kd, pu, pr, mo, x.mix⟩ := ⟨dx, mx, upd_same, hmx.kf k4 wr⟩
     have hs4 := hs.setB ea k4 hm4
     refine ⟨by show 1 ≤ sizeLine; decide, fun r hr => ?_⟩
     exact q.yes (s' := s) (k4.foot (foot_bs ea)) (fun c hc => .inl hc) rfl hs4 hr rfl
   ·rw [decide_eq_false c4]
    exact no (by omega)
def spSoFeed (t : Ad) (K : PySem.W.Frag) : Sp := fun vs H Q _ => ∃ (s : SA) (w : Works) (l : Addr) (m : List Nat), vs = [.ref s.p, .ref l] ∧ StateAt t K H s w ∧ WOk w ∧ H l = some (.lst (nts m)) ∧ m.length = 6 ∧ ChgPost t K H s (chg w (.feed m)) Q
theorem any_big {m : List Nat} : (m.any fun x => decide (10000 < x)) = true ↔ ∃ x ∈ m, 10000 < x := by
 rw [List.any_eq_true]; simp
theorem ok_so_feed (T : Txt K mg t) : FnOk P w K mg base CX0 2 t.so_feed.f t.so_feed.d ["state", "m"] (spSoFeed t K) := by
 refine T.so_feed.fn.ok sc_so_feed (fun vs H Q E h => ?_) (fun cdv A outer s H vs Q E hr h => ?_)
 ·obtain ⟨s, w, l, m, rfl, _⟩ := h
  rfl
 ·obtain ⟨s, w, l, m, rfl, hs, ok, hml, l6, q⟩ := h
  have hm : SqL K H l (nts m) := SqL.of hml
  have hm' : SqL K H l ((m.map fun (n : Nat) => ((n : Nat) : Int)).map V.int) := by rw [← nts_eq]; exact hm
  refine ⟨_, (pss_cons (ps_set (i := 2) sc_so_feed.nd rfl (Or.inl rfl) (pe_callB (cr_sumK (K := K) rfl) (by rfl) T.n_sum boot_sum (pa_cons (pv 1) pa_nil))) (pss_cons (ps_if (PW.pt (pw_or (pt_cmpR op_eq (pv 2) pe_int (nomark _)) (pw_or1 (pt_cmpR op_gt (pe_callB (cr_maxK (K := K) rfl) (by rfl) T.n_max boot_max (pa_cons (pv 1) pa_nil)) (pgI T.g_MOST_FED_OF_A_KIND) (nomark _))))) (pss_one (ps_ret (pe_lst (pa_cons (pgI T.g_WRONG) pa_nil)))) pss_nil) (pss_cons (ps_if (pt_not (pt_val (pcall T.hopper_takes (ok_hopper_takes T) hr.m (pa_cons (pv 0) (pa_cons (pv 2) pa_nil))))) (pss_one (ps_ret (pe_lst (pa_cons (pgI T.g_NO_ROOM) pa_nil)))) pss_nil) (pss_cons (ps_if (pt_cmpR op_gt (pe_op op_add (pe_callB (cr_sumTK (K := K) rfl) (by rfl) T.n_sum boot_sum (pa_cons (pfld (K := K) (pv 0)) pa_nil)) (pv 2)) (pgI T.g_MOST_EVER_FED) (nomark _)) (pss_one (ps_ret (pe_lst (pa_cons (pgI T.g_FULL) pa_nil)))) pss_nil) (pss_cons (psfld (K := K) (pv 0) (pcall T.added (ok_added T) hr.m (pa_cons (pfld (K := K) (pv 0)) (pa_cons (pv 1) pa_nil)))) (pss_cons (psfld (K := K) (pv 0) (pcall T.added (ok_added T) hr.m (pa_cons (pfld (K := K) (pv 0)) (pa_cons (pv 1) pa_nil)))) (pss_one (ps_ret (pe_lst (pa_cons (pe_callB (cr_sumTK (K := K) rfl) (by rfl) T.n_sum boot_sum (pa_cons (pfld (K := K) (pv 0)) pa_nil)) pa_nil)))))))))), ?_⟩
  refine ⟨_, rfl, l, _, rfl, hm', ?_⟩
  rw [isum]
  refine ⟨_, rfl, rfl, _, rfl, ?_⟩
  by_cases c1 : Km414.sum m = 0
  ·rw [c1]
   refine ⟨by show 1 ≤ sizeLine; decide, fun r hr => q.no hs ?_ (Same.refl H) hr⟩
   unfold chg Km414.act; simp only [c1, or_true, if_true]
  ·rw [decide_eq_false (show ¬ V.int ((Km414.sum m : Nat) : Int) = V.int 0 by intro z; injection z with z; omega)]
   refine ⟨_, rfl, l, _, rfl, hm', by rw [List.length_map, l6]; decide, fun M hM1 hM2 => ⟨_, _, rfl, rfl, _, rfl, ite2 (fun c2 => ?_) (fun c2 => ?_)⟩⟩
   ·rw [decide_eq_true_eq] at c2
    have c2 := any_big.mpr ((max_ok hM1 hM2 10000).mp c2)
    refine ⟨by show 1 ≤ sizeLine; decide, fun r hr => q.no hs ?_ (Same.refl H) hr⟩
    unfold chg Km414.act; simp only [c2, true_or, if_true]
   ·rw [decide_eq_true_eq] at c2
    have c3 : ¬ ((m.any fun x => decide (10000 < x)) = true ∨ Km414.sum m = 0) := by
     rintro (h | h)
     ·exact c2 ((max_ok hM1 hM2 10000).mpr (any_big.mp h))
     ·exact c1 h
    refine ⟨_, rfl, _, rfl, s, w, Km414.sum m, rfl, hs, _, rfl, ?_⟩
    by_cases c4 : Km414.sum w.hopper + Km414.sum m ≤ 100000
    ·rw [decide_eq_true c4]
     have c4' : ¬ Km414.HOPPER < Km414.sum w.hopper + Km414.sum m := by unfold Km414.HOPPER; omega
     refine ⟨_, rfl, s.p, _, s.dx, _, _, rfl, hs.ob, T.State.cl, T.na_State_fed, rfl, s.fa, _, rfl, hs.fed.sum, _, rfl, _, _, rfl, rfl, _, _, rfl, rfl, _, rfl, ite2 (fun c5 => ?_) (fun c5 => ?_)⟩
     ·rw [decide_eq_true_eq, isum] at c5
      have c5 : Km414.FED < Km414.sum w.fed + Km414.sum m := by unfold Km414.FED; have c5 : (100000000 : Int) < (Km414.sum w.fed : Nat) + (Km414.sum m : Nat) := c5; omega
      refine ⟨by show 1 ≤ sizeLine; decide, fun r hr => q.no hs ?_ (Same.refl H) hr⟩
      unfold chg Km414.act; simp only [if_neg c3, if_neg c4', if_pos c5]
     ·rw [decide_eq_true_eq, isum] at c5
      have c5 : ¬ Km414.FED < Km414.sum w.fed + Km414.sum m := by unfold Km414.FED; have c5 : ¬ (100000000 : Int) < (Km414.sum w.fed : Nat) + (Km414.sum m : Nat) := c5; omega
      have er : chg w (.feed m) = ({ w with hopper := plus w.hopper m, fed := plus w.fed m }, Km414.only ((Km414.sum w.hopper + Km414.sum m : Nat) : Int)) := by
       unfold chg Km414.act; simp only [if_neg c3, if_neg c4', if_neg c5, Km414.Desk.become]
      rw [er] at q
      refine ⟨_, rfl, s.p, _, s.dx, _, _, rfl, hs.ob, T.State.cl, T.na_State_hopper, rfl, _, rfl, true, false, s.ha, l, _, m, rfl, hs.hop.1, hm, hs.hop.2, l6, trivial, fun p1 H1 s1 hp1 => ?_⟩
      have hs1 := hs.same s1
      refine ⟨_, rfl, s.p, _, s.dx, _, rfl, hs1.ob, T.State.cl, T.na_State_hopper, by show 8 < 1000; decide, ?_⟩
      have hs2 := hs1.setP (cost := w.cost) hp1 hs1.fed hs1.dum
      have k2 : KF (· = s.p) H1 (upd H1 s.p (.ins t.c_State s.dx (sfs (.int (w.harm : Nat)) (.ref p1) (.ref s.ml) (.ref s.bl) (.ref s.sl) (.ref s.fa) (.ref s.da) (.int (w.cost : Nat))))) := KF.upd rfl
      have hm2 : SqL K (upd H1 s.p (.ins t.c_State s.dx (sfs (.int (w.harm : Nat)) (.ref p1) (.ref s.ml) (.ref s.bl) (.ref s.sl) (.ref s.fa) (.ref s.da) (.int (w.cost : Nat))))) l (nts m) := SqL.kf k2 (Ne.symm (ins_lst hs.ob hml)) (Same.seq s1 hm)
      refine ⟨_, rfl, s.p, _, s.dx, _, _, rfl, hs2.ob, T.State.cl, T.na_State_fed, rfl, _, rfl, true, false, s.fa, l, _, m, rfl, hs2.fed.1, hm2, hs2.fed.2, l6, trivial, fun p3 H3 s3 hp3 => ?_⟩
      have hs3 := hs2.same s3
      refine ⟨_, rfl, s.p, _, s.dx, _, rfl, hs3.ob, T.State.cl, T.na_State_fed, by show 8 < 1000; decide, ?_⟩
      have hs4 := hs3.setP (cost := w.cost) hs3.hop hp3 hs3.dum
      have k4 : KF (· = s.p) H3 (upd H3 s.p (.ins t.c_State s.dx (sfs (.int (w.harm : Nat)) (.ref p1) (.ref s.ml) (.ref s.bl) (.ref s.sl) (.ref p3) (.ref s.da) (.int (w.cost : Nat))))) := KF.upd rfl
      refine ⟨_, rfl, s.p, _, s.dx, _, _, rfl, hs4.ob, T.State.cl, T.na_State_hopper, rfl, p1, _, rfl, hs4.hop.sum, by show 1 ≤ sizeLine; decide, fun r hr => ?_⟩
      have kk := ((KF.same s1).trans k2).trans ((KF.same s3).trans k4)
      refine q.yes (s' := { s with ha := p1, fa := p3, da := s.da }) (kk.foot (.inl rfl)) (fun c hc => .inl hc) rfl hs4 hr ?_
      show [V.int ((Km414.sum w.hopper + Km414.sum m : Nat) : Int)] = [V.int _]
      rw [isum]
      show [V.int ((Km414.sum w.hopper + Km414.sum m : Nat) : Int)] = [V.int ((Km414.sum (plus w.hopper m) : Nat) : Int)]
      rw [sum_plus ok.hop l6]
    ·rw [decide_eq_false c4]
     have c4' : Km414.HOPPER < Km414.sum w.hopper + Km414.sum m := by unfold Km414.HOPPER; omega
     refine ⟨by show 1 ≤ sizeLine; decide, fun r hr => q.no hs ?_ (Same.refl H) hr⟩
     unfold chg Km414.act; simp only [if_neg c3, if_pos c4']
theorem StateAt.clearB {H : Hp} {s : SA} {w : Works} (T : Txt K mg t) (h : StateAt t K H s w) {i : Nat} {a dx mx : Addr} {x : Bay} (ea : s.bs[i]? = some a) (ob : H a = some (.ins t.c_Bay dx (bfs (.int (x.kind : Nat)) (.int (x.pure_ : Nat)) (.int (x.price : Nat)) (.int (x.most : Nat)) (.ref mx)))) :
  StateAt t K (upd H a (.ins t.c_Bay dx (bfs (.int (x.kind : Nat)) (.int (x.pure_ : Nat)) (.int (x.price : Nat)) (.int (x.most : Nat)) (.ref t.c_NOTHING)))) s { w with bays := w.bays.set i { x with mix := none6 } } ∧
  KF (· = a) H (upd H a (.ins t.c_Bay dx (bfs (.int (x.kind : Nat)) (.int (x.pure_ : Nat)) (.int (x.price : Nat)) (.int (x.most : Nat)) (.ref t.c_NOTHING)))) := by
 have k4 : KF (· = a) H (upd H a (.ins t.c_Bay dx (bfs (.int (x.kind : Nat)) (.int (x.pure_ : Nat)) (.int (x.price : Nat)) (.int (x.most : Nat)) (.ref t.c_NOTHING)))) := KF.upd rfl
 exact ⟨h.setB ea k4 ⟨dx, t.c_NOTHING, upd_same, nothingAt T _⟩, k4⟩
def spSoBale (t : Ad) (K : PySem.W.Frag) : Sp := fun vs H Q _ => ∃ (s : SA) (w : Works) (i : Nat), vs = [.ref s.p, .int (i : Nat)] ∧ StateAt t K H s w ∧ WOk w ∧ ChgPost t K H s (chg w (.bale i)) Q
theorem ok_so_bale (T : Txt K mg t) : FnOk P w K mg base CX0 2 t.so_bale.f t.so_bale.d ["state", "i"] (spSoBale t K) := by
 refine T.so_bale.fn.ok sc_so_bale (fun vs H Q E h => ?_) (fun cdv A outer s H vs Q E hr h => ?_)
 ·obtain ⟨s, w, i, rfl, _⟩ := h
  rfl
 ·obtain ⟨s, w, i, rfl, hs, ok, q⟩ := h
  have lb := pd_len hs.bays
  have b6 := ok.b6
  refine ⟨_, (pss_cons (ps_if (pt_cmpR op_ge (pv 1) (pgI T.g_BAYS) (nomark _)) (pss_one (ps_ret (pe_lst (pa_cons (pgI T.g_MISSING) pa_nil)))) pss_nil) (pss_cons (ps_set (i := 2) sc_so_bale.nd rfl (Or.inl rfl) (pe_ix (ix_listK (K := K)) (pfld (K := K) (pv 0)) (pv 1) (fun _ _ => rfl))) (pss_cons (ps_set (i := 3) sc_so_bale.nd rfl (Or.inl rfl) (pe_callB (cr_sumTK (K := K) rfl) (by rfl) T.n_sum boot_sum (pa_cons (pfld (K := K) (pv 2)) pa_nil))) (pss_cons (ps_if (pt_cmpR op_eq (pv 3) pe_int (nomark _)) (pss_one (ps_ret (pe_lst (pa_cons (pgI T.g_EMPTY) pa_nil)))) pss_nil) (pss_cons (ps_if (pt_not (pt_val (pcall T.is_good (ok_is_good T) hr.m (pa_cons (pv 2) (pa_cons (pfld (K := K) (pv 2)) (pa_cons (pfld (K := K) (pv 0)) pa_nil)))))) (pss_one (ps_ret (pe_lst (pa_cons (pgI T.g_UNFIT) pa_nil)))) pss_nil) (pss_cons (ps_if (pt_cmpR op_ge (pe_callB (call_lenK (K := K)) (by rfl) T.n_len PySem.boot_len (pa_cons (pfld (K := K) (pv 0)) pa_nil)) (pgI T.g_MOST_BALES) (nomark _)) (pss_one (ps_ret (pe_lst (pa_cons (pgI T.g_FULL) pa_nil)))) pss_nil) (pss_cons (ps_set (i := 4) sc_so_bale.nd rfl (Or.inl rfl) (pcall T.brought (ok_brought T) hr.m (pa_cons (pv 2) (pa_cons (pfld (K := K) (pv 2)) pa_nil)))) (pss_cons (ps_expr (pe_bm PySem.F.plainAttrs_list PySem.F.slot_list_append PySem.F.type_list_append mt_append (pfld (K := K) (pv 0)) (pa_cons (pe_tup (pa_cons (pv 1) (pa_cons (pfld (K := K) (pv 2)) (pa_cons (pv 4) pa_nil)))) pa_nil))) (pss_cons (psfld (K := K) (pv 2) (pgR T.g_NOTHING)) (pss_one (ps_ret (pe_lst (pa_cons (pv 4) (pa_cons (pv 3) pa_nil)))))))))))))), ?_⟩
  refine ⟨_, rfl, _, _, rfl, rfl, _, rfl, ite2 (fun c => ?_) (fun c => ?_)⟩
  ·rw [decide_eq_true_eq] at c
   refine ⟨by show 1 ≤ sizeLine; decide, fun r hr => q.no hs ?_ (Same.refl H) hr⟩
   unfold chg Km414.act; simp only [if_pos (show Km414.BAYS ≤ i by unfold Km414.BAYS; omega)]
  ·rw [decide_eq_true_eq] at c
   have hi : i < w.bays.length := by omega
   have ci : ¬ Km414.BAYS ≤ i := by unfold Km414.BAYS; omega
   obtain ⟨a, ea, ma⟩ := pd_get' hs.bays (List.getElem?_eq_getElem hi)
   have obk := ok.bays _ (List.getElem_mem hi)
   generalize hx : w.bays[i] = x at *
   have ex : w.bays[i]? = some x := by rw [List.getElem?_eq_getElem hi, hx]
   have ebay := bay_at ex
   obtain ⟨dx, mx, ob, hmx⟩ := ma.ob
   refine ⟨_, rfl, s.p, _, s.dx, _, _, rfl, hs.ob, T.State.cl, T.na_State_bays, rfl, _, rfl, s.bl, _, _, _, rfl, rfl, SqL.of hs.bl, atN (refs_at ea), ?_⟩
   refine ⟨_, rfl, a, _, dx, _, _, rfl, ob, T.Bay.cl, T.na_Bay_mix, rfl, mx, _, rfl, hmx.sum, ?_⟩
   rw [isum]
   refine ⟨_, rfl, rfl, _, rfl, ite2 (fun c1 => ?_) (fun c1 => ?_)⟩
   ·rw [decide_eq_true_eq] at c1
    have c1 : Km414.sum x.mix = 0 := by injection c1 with c1; omega
    refine ⟨by show 1 ≤ sizeLine; decide, fun r hr => q.no hs ?_ (Same.refl H) hr⟩
    unfold chg Km414.act; simp only [if_neg ci, ebay, if_pos c1]
   ·rw [decide_eq_true_eq] at c1
    have c1 : ¬ Km414.sum x.mix = 0 := fun z => c1 (by rw [z]; rfl)
    refine ⟨_, rfl, _, rfl, a, _, dx, _, _, rfl, ob, T.Bay.cl, T.na_Bay_mix, rfl, _, rfl, s.p, _, s.dx, _, _, rfl, hs.ob, T.State.cl, T.na_State_harm, rfl, a, mx, x, _, w.harm, rfl, ma, hmx, obk.kind, obk.pure, _, rfl, ?_⟩
    cases c2 : x.good w.harm x.mix with
    | false =>
     refine ⟨by show 1 ≤ sizeLine; decide, fun r hr => q.no hs ?_ (Same.refl H) hr⟩
     unfold chg Km414.act; simp only [if_neg ci, ebay, if_neg c1, c2, if_true]
    | true =>
     refine ⟨_, rfl, s.p, _, s.dx, _, _, rfl, hs.ob, T.State.cl, T.na_State_bales, rfl, s.sl, _, rfl, .inl (SqL.of hs.sl), _, _, rfl, rfl, _, rfl, ite2 (fun c3 => ?_) (fun c3 => ?_)⟩
     ·rw [decide_eq_true_eq, List.length_map, pd_len hs.bales, List.length_zip, hs.bml, Nat.min_self] at c3
      refine ⟨by show 1 ≤ sizeLine; decide, fun r hr => q.no hs ?_ (Same.refl H) hr⟩
      unfold chg Km414.act; simp only [if_neg ci, ebay, if_neg c1, c2, if_pos (show 40 ≤ w.bales.length by omega)]
      rfl
     ·rw [decide_eq_true_eq, List.length_map, pd_len hs.bales, List.length_zip, hs.bml, Nat.min_self] at c3
      have c4 : ¬ 40 ≤ w.bales.length := by omega
      have er : chg w (.bale i) = ({ w with bays := w.bays.set i { x with mix := none6 }, bales := w.bales ++ [⟨i, Km414.sum x.mix, x.money x.mix⟩], baled := plus w.baled x.mix }, ⟨((x.money x.mix : Nat) : Int), [Km414.sum x.mix]⟩) := by
       unfold chg Km414.act; simp only [if_neg ci, ebay, if_neg c1, c2, if_neg c4, Km414.Desk.become, Km414.Works.setBay]
       rfl
      rw [er] at q
      refine ⟨_, rfl, _, rfl, a, _, dx, _, _, rfl, ob, T.Bay.cl, T.na_Bay_mix, rfl, a, mx, x, _, rfl, ma, hmx, obk.price, ?_⟩
      refine ⟨_, rfl, s.p, _, s.dx, _, _, rfl, hs.ob, T.State.cl, T.na_State_bales, rfl, .inl ⟨rfl, _, SqL.of hs.sl⟩, _, rfl, _, rfl, a, _, dx, _, _, rfl, ob, T.Bay.cl, T.na_Bay_mix, rfl, _, rfl, by show 3 ≤ sizeLine; decide, fun e he => ?_⟩
      have s1 : Same H (upd H e (.tup [.int (i : Nat), .ref mx, .int ((x.money x.mix : Nat) : Int)])) := Same.new he
      have he1 : (upd H e (.tup [.int (i : Nat), .ref mx, .int ((x.money x.mix : Nat) : Int)])) e = some (.tup [.int (i : Nat), .ref mx, .int ((x.money x.mix : Nat) : Int)]) := upd_same
      generalize upd H e (.tup [.int (i : Nat), .ref mx, .int ((x.money x.mix : Nat) : Int)]) = H1 at *
      have hs1 := hs.same s1
      refine ⟨s.sl, _, _, rfl, rfl, hs1.sl, by rw [List.length_map, pd_len hs.bales, List.length_zip, hs.bml, Nat.min_self]; exact Nat.lt_of_le_of_lt (show w.bales.length ≤ 40 by omega) (by decide), ?_⟩
      have hs2 := hs1.addE (e := e) (b := ⟨i, Km414.sum x.mix, x.money x.mix⟩) (m := x.mix) ⟨⟨mx, SqT.of he1, hmx.same s1⟩, rfl⟩
      rw [List.map_append] at hs2
      have k2 : KF (· = s.sl) H1 (upd H1 s.sl (.lst (s.es.map V.ref ++ [V.ref e]))) := KF.upd rfl
      change StateAt t K (upd H1 s.sl (.lst (s.es.map V.ref ++ [V.ref e]))) _ _ at hs2
      have ob2 := k2 _ _ (s1 _ _ ob) (ins_lst (s1 _ _ ob) hs1.sl)
      generalize upd H1 s.sl (.lst (s.es.map V.ref ++ [V.ref e])) = H2 at *
      refine ⟨_, rfl, a, _, dx, _, rfl, ob2, T.Bay.cl, T.na_Bay_mix, by show 5 < 1000; decide, ?_⟩
      obtain ⟨hs3, k3⟩ := hs2.clearB T (x := x) ea ob2
      refine ⟨_, rfl, _, rfl, by show 2 ≤ sizeLine; decide, fun r hr => ?_⟩
      exact q.yes (s' := { s with es := s.es ++ [e], bm := s.bm ++ [x.mix] }) (((KF.same s1).trans (k2.foot (.inr (.inr (.inr (.inl rfl)))))).trans (k3.foot (foot_bs ea))) (fun c hc => .inl hc) rfl hs3 hr rfl
def spSoDump (t : Ad) (K : PySem.W.Frag) : Sp := fun vs H Q _ => ∃ (s : SA) (w : Works) (i pc : Nat), vs = [.ref s.p, .int (i : Nat), .int (pc : Nat)] ∧ StateAt t K H s w ∧ WOk w ∧ ChgPost t K H s (chg w (.dump i pc)) Q
theorem ok_so_dump (T : Txt K mg t) : FnOk P w K mg base CX0 2 t.so_dump.f t.so_dump.d ["state", "i", "price"] (spSoDump t K) := by
 refine T.so_dump.fn.ok sc_so_dump (fun vs H Q E h => ?_) (fun cdv A outer s H vs Q E hr h => ?_)
 ·obtain ⟨s, w, i, pc, rfl, _⟩ := h
  rfl
 ·obtain ⟨s, w, i, pc, rfl, hs, ok, q⟩ := h
  have lb := pd_len hs.bays
  have b6 := ok.b6
  refine ⟨_, (pss_cons (ps_if (pt_cmpR op_ge (pv 1) (pgI T.g_BAYS) (nomark _)) (pss_one (ps_ret (pe_lst (pa_cons (pgI T.g_MISSING) pa_nil)))) pss_nil) (pss_cons (ps_if (pt_cmpR op_gt (pv 2) (pgI T.g_HIGHEST_DUMP_PRICE) (nomark _)) (pss_one (ps_ret (pe_lst (pa_cons (pgI T.g_WRONG) pa_nil)))) pss_nil) (pss_cons (ps_set (i := 3) sc_so_dump.nd rfl (Or.inl rfl) (pe_ix (ix_listK (K := K)) (pfld (K := K) (pv 0)) (pv 1) (fun _ _ => rfl))) (pss_cons (ps_set (i := 4) sc_so_dump.nd rfl (Or.inl rfl) (pe_callB (cr_sumTK (K := K) rfl) (by rfl) T.n_sum boot_sum (pa_cons (pfld (K := K) (pv 3)) pa_nil))) (pss_cons (ps_if (pt_cmpR op_eq (pv 4) pe_int (nomark _)) (pss_one (ps_ret (pe_lst (pa_cons (pgI T.g_EMPTY) pa_nil)))) pss_nil) (pss_cons (ps_set (i := 5) sc_so_dump.nd rfl (Or.inl rfl) (pe_op op_fdiv (pe_op op_sub (pe_op op_add (pe_op op_mul (pv 4) (pv 2)) (pgI T.g_THOUSAND)) pe_int) (pgI T.g_THOUSAND))) (pss_cons (psfld (K := K) (pv 0) (pcall T.added (ok_added T) hr.m (pa_cons (pfld (K := K) (pv 0)) (pa_cons (pfld (K := K) (pv 3)) pa_nil)))) (pss_cons (psfldaug (K := K) (pv 0) (pv 5) in_add) (pss_cons (psfld (K := K) (pv 3) (pgR T.g_NOTHING)) (pss_one (ps_ret (pe_lst (pa_cons (pv 5) pa_nil))))))))))))), ?_⟩
  refine ⟨_, rfl, _, _, rfl, rfl, _, rfl, ite2 (fun c => ?_) (fun c => ?_)⟩
  ·rw [decide_eq_true_eq] at c
   refine ⟨by show 1 ≤ sizeLine; decide, fun r hr => q.no hs ?_ (Same.refl H) hr⟩
   unfold chg Km414.act; simp only [if_pos (show Km414.BAYS ≤ i by unfold Km414.BAYS; omega)]
  ·rw [decide_eq_true_eq] at c
   have hi : i < w.bays.length := by omega
   have ci : ¬ Km414.BAYS ≤ i := by unfold Km414.BAYS; omega
   obtain ⟨a, ea, ma⟩ := pd_get' hs.bays (List.getElem?_eq_getElem hi)
   generalize hx : w.bays[i] = x at *
   have ex : w.bays[i]? = some x := by rw [List.getElem?_eq_getElem hi, hx]
   have ebay := bay_at ex
   obtain ⟨dx, mx, ob, hmx⟩ := ma.ob
   refine ⟨_, rfl, _, _, rfl, rfl, _, rfl, ite2 (fun c0 => ?_) (fun c0 => ?_)⟩
   ·rw [decide_eq_true_eq] at c0
    refine ⟨by show 1 ≤ sizeLine; decide, fun r hr => q.no hs ?_ (Same.refl H) hr⟩
    unfold chg Km414.act; simp only [if_neg ci, if_pos (show 1000 < pc by omega)]
   ·rw [decide_eq_true_eq] at c0
    have c0' : ¬ 1000 < pc := by omega
    refine ⟨_, rfl, s.p, _, s.dx, _, _, rfl, hs.ob, T.State.cl, T.na_State_bays, rfl, _, rfl, s.bl, _, _, _, rfl, rfl, SqL.of hs.bl, atN (refs_at ea), ?_⟩
    refine ⟨_, rfl, a, _, dx, _, _, rfl, ob, T.Bay.cl, T.na_Bay_mix, rfl, mx, _, rfl, hmx.sum, ?_⟩
    rw [isum]
    refine ⟨_, rfl, rfl, _, rfl, ite2 (fun c1 => ?_) (fun c1 => ?_)⟩
    ·rw [decide_eq_true_eq] at c1
     have c1 : Km414.sum x.mix = 0 := by injection c1 with c1; omega
     refine ⟨by show 1 ≤ sizeLine; decide, fun r hr => q.no hs ?_ (Same.refl H) hr⟩
     unfold chg Km414.act; simp only [if_neg ci, ebay, if_neg c0', if_pos c1]
    ·rw [decide_eq_true_eq] at c1
     have c1 : ¬ Km414.sum x.mix = 0 := fun z => c1 (by rw [z]; rfl)
     have er : chg w (.dump i pc) = ({ w with bays := w.bays.set i { x with mix := none6 }, dumped := plus w.dumped x.mix, cost := w.cost + (Km414.sum x.mix * pc + 999) / 1000 }, Km414.only (((Km414.sum x.mix * pc + 999) / 1000 : Nat) : Int)) := by
      unfold chg Km414.act; simp only [if_neg ci, ebay, if_neg c0', if_neg c1, Km414.Desk.become, Km414.Works.setBay]
     rw [er] at q
     refine ⟨_, rfl, _, rfl, _, _, rfl, rfl, .inr ⟨by omega, by omega⟩, _, _, rfl, rfl, _, _, rfl, rfl, _, _, rfl, rfl, ⟨by decide, by decide⟩, ?_⟩
     have ec : (((Km414.sum x.mix : Nat) : Int) * ((pc : Nat) : Int) + 1000 - 1) / 1000 = (((Km414.sum x.mix * pc + 999) / 1000 : Nat) : Int) := by
      have e1 : ((Km414.sum x.mix : Nat) : Int) * ((pc : Nat) : Int) = ((Km414.sum x.mix * pc : Nat) : Int) := by push_cast; rfl
      rw [e1]; omega
     dsimp only
     rw [ec]
     refine ⟨_, rfl, s.p, _, s.dx, _, _, rfl, hs.ob, T.State.cl, T.na_State_dumped, rfl, _, rfl, a, _, dx, _, _, rfl, ob, T.Bay.cl, T.na_Bay_mix, rfl, true, true, s.da, mx, _, _, rfl, hs.dum.1, hmx.1, hs.dum.2, hmx.2, trivial, fun p1 H1 s1 hp1 => ?_⟩
     have hs1 := hs.same s1
     refine ⟨_, rfl, s.p, _, s.dx, _, rfl, hs1.ob, T.State.cl, T.na_State_dumped, by show 8 < 1000; decide, ?_⟩
     have k2 : ∀ fs, KF (· = s.p) H1 (upd H1 s.p (.ins t.c_State s.dx fs)) := fun fs => KF.upd rfl
     refine ⟨_, rfl, s.p, _, s.dx, _, _, rfl, upd_same, T.State.cl, T.na_State_cost, rfl, _, rfl, _, _, rfl, rfl, s.dx, _, upd_same, by show 8 < 1000; decide, ?_⟩
     rw [upd_upd]
     have hs2 := hs1.setP (cost := w.cost + (Km414.sum x.mix * pc + 999) / 1000) hs1.hop hs1.fed hp1
     have nap : a ≠ s.p := ins_ne ob hs.ob (by show 5 ≠ 8; decide)
     have ob2 := k2 (sfs (.int (w.harm : Nat)) (.ref s.ha) (.ref s.ml) (.ref s.bl) (.ref s.sl) (.ref s.fa) (.ref p1) (.int ((w.cost + (Km414.sum x.mix * pc + 999) / 1000 : Nat) : Int))) _ _ (s1 _ _ ob) nap
     refine ⟨_, rfl, a, _, dx, _, rfl, ob2, T.Bay.cl, T.na_Bay_mix, by show 5 < 1000; decide, ?_⟩
     obtain ⟨hs3, k3⟩ := hs2.clearB T (x := x) (s := { s with ha := s.ha, fa := s.fa, da := p1 }) ea ob2
     refine ⟨_, rfl, by show 1 ≤ sizeLine; decide, fun r hr => ?_⟩
     exact q.yes (s' := { s with ha := s.ha, fa := s.fa, da := p1 }) (((KF.same s1).trans ((k2 _).foot (.inl rfl))).trans (k3.foot (foot_bs (s := s) ea))) (fun c hc => .inl hc) rfl hs3 hr rfl
def spSoReturn (t : Ad) (K : PySem.W.Frag) : Sp := fun vs H Q _ => ∃ (s : SA) (w : Works) (i : Nat), vs = [.ref s.p, .int (i : Nat)] ∧ StateAt t K H s w ∧ WOk w ∧ ChgPost t K H s (chg w (.back_ i)) Q
theorem ok_so_return (T : Txt K mg t) : FnOk P w K mg base CX0 2 t.so_return.f t.so_return.d ["state", "i"] (spSoReturn t K) := by
 refine T.so_return.fn.ok sc_so_return (fun vs H Q E h => ?_) (fun cdv A outer s H vs Q E hr h => ?_)
 ·obtain ⟨s, w, i, rfl, _⟩ := h
  rfl
 ·obtain ⟨s, w, i, rfl, hs, ok, q⟩ := h
  have lb := pd_len hs.bays
  have b6 := ok.b6
  refine ⟨_, (pss_cons (ps_if (pt_cmpR op_ge (pv 1) (pgI T.g_BAYS) (nomark _)) (pss_one (ps_ret (pe_lst (pa_cons (pgI T.g_MISSING) pa_nil)))) pss_nil) (pss_cons (ps_set (i := 2) sc_so_return.nd rfl (Or.inl rfl) (pe_ix (ix_listK (K := K)) (pfld (K := K) (pv 0)) (pv 1) (fun _ _ => rfl))) (pss_cons (ps_set (i := 3) sc_so_return.nd rfl (Or.inl rfl) (pe_callB (cr_sumTK (K := K) rfl) (by rfl) T.n_sum boot_sum (pa_cons (pfld (K := K) (pv 2)) pa_nil))) (pss_cons (ps_if (pt_cmpR op_eq (pv 3) pe_int (nomark _)) (pss_one (ps_ret (pe_lst (pa_cons (pgI T.g_EMPTY) pa_nil)))) pss_nil) (pss_cons (ps_if (pt_not (pt_val (pcall T.hopper_takes (ok_hopper_takes T) hr.m (pa_cons (pv 0) (pa_cons (pv 3) pa_nil))))) (pss_one (ps_ret (pe_lst (pa_cons (pgI T.g_NO_ROOM) pa_nil)))) pss_nil) (pss_cons (psfld (K := K) (pv 0) (pcall T.added (ok_added T) hr.m (pa_cons (pfld (K := K) (pv 0)) (pa_cons (pfld (K := K) (pv 2)) pa_nil)))) (pss_cons (psfld (K := K) (pv 2) (pgR T.g_NOTHING)) (pss_one (ps_ret (pe_lst (pa_cons (pe_callB (cr_sumTK (K := K) rfl) (by rfl) T.n_sum boot_sum (pa_cons (pfld (K := K) (pv 0)) pa_nil)) pa_nil))))))))))), ?_⟩
  refine ⟨_, rfl, _, _, rfl, rfl, _, rfl, ite2 (fun c => ?_) (fun c => ?_)⟩
  ·rw [decide_eq_true_eq] at c
   refine ⟨by show 1 ≤ sizeLine; decide, fun r hr => q.no hs ?_ (Same.refl H) hr⟩
   unfold chg Km414.act; simp only [if_pos (show Km414.BAYS ≤ i by unfold Km414.BAYS; omega)]
  ·rw [decide_eq_true_eq] at c
   have hi : i < w.bays.length := by omega
   have ci : ¬ Km414.BAYS ≤ i := by unfold Km414.BAYS; omega
   obtain ⟨a, ea, ma⟩ := pd_get' hs.bays (List.getElem?_eq_getElem hi)
   have obk := ok.bays _ (List.getElem_mem hi)
   generalize hx : w.bays[i] = x at *
   have ex : w.bays[i]? = some x := by rw [List.getElem?_eq_getElem hi, hx]
   have ebay := bay_at ex
   obtain ⟨dx, mx, ob, hmx⟩ := ma.ob
   refine ⟨_, rfl, s.p, _, s.dx, _, _, rfl, hs.ob, T.State.cl, T.na_State_bays, rfl, _, rfl, s.bl, _, _, _, rfl, rfl, SqL.of hs.bl, atN (refs_at ea), ?_⟩
   refine ⟨_, rfl, a, _, dx, _, _, rfl, ob, T.Bay.cl, T.na_Bay_mix, rfl, mx, _, rfl, hmx.sum, ?_⟩
   rw [isum]
   refine ⟨_, rfl, rfl, _, rfl, ite2 (fun c1 => ?_) (fun c1 => ?_)⟩
   ·rw [decide_eq_true_eq] at c1
    have c1 : Km414.sum x.mix = 0 := by injection c1 with c1; omega
    refine ⟨by show 1 ≤ sizeLine; decide, fun r hr => q.no hs ?_ (Same.refl H) hr⟩
    unfold chg Km414.act; simp only [if_neg ci, ebay, if_pos c1]
   ·rw [decide_eq_true_eq] at c1
    have c1 : ¬ Km414.sum x.mix = 0 := fun z => c1 (by rw [z]; rfl)
    refine ⟨_, rfl, _, rfl, s, w, Km414.sum x.mix, rfl, hs, _, rfl, ?_⟩
    by_cases c4 : Km414.sum w.hopper + Km414.sum x.mix ≤ 100000
    ·rw [decide_eq_true c4]
     have c4' : ¬ Km414.HOPPER < Km414.sum w.hopper + Km414.sum x.mix := by unfold Km414.HOPPER; omega
     have er : chg w (.back_ i) = ({ w with bays := w.bays.set i { x with mix := none6 }, hopper := plus w.hopper x.mix }, Km414.only ((Km414.sum w.hopper + Km414.sum x.mix : Nat) : Int)) := by
      unfold chg Km414.act; simp only [if_neg ci, ebay, if_neg c1, if_neg c4', Km414.Desk.become, Km414.Works.setBay]
     rw [er] at q
     refine ⟨_, rfl, s.p, _, s.dx, _, _, rfl, hs.ob, T.State.cl, T.na_State_hopper, rfl, _, rfl, a, _, dx, _, _, rfl, ob, T.Bay.cl, T.na_Bay_mix, rfl, true, true, s.ha, mx, _, _, rfl, hs.hop.1, hmx.1, hs.hop.2, hmx.2, trivial, fun p1 H1 s1 hp1 => ?_⟩
     have hs1 := hs.same s1
     refine ⟨_, rfl, s.p, _, s.dx, _, rfl, hs1.ob, T.State.cl, T.na_State_hopper, by show 8 < 1000; decide, ?_⟩
     have k2 : ∀ fs, KF (· = s.p) H1 (upd H1 s.p (.ins t.c_State s.dx fs)) := fun fs => KF.upd rfl
     have hs2 := hs1.setP (cost := w.cost) hp1 hs1.fed hs1.dum
     have nap : a ≠ s.p := ins_ne ob hs.ob (by show 5 ≠ 8; decide)
     have ob2 := k2 (sfs (.int (w.harm : Nat)) (.ref p1) (.ref s.ml) (.ref s.bl) (.ref s.sl) (.ref s.fa) (.ref s.da) (.int ((w.cost : Nat) : Int))) _ _ (s1 _ _ ob) nap
     refine ⟨_, rfl, a, _, dx, _, rfl, ob2, T.Bay.cl, T.na_Bay_mix, by show 5 < 1000; decide, ?_⟩
     obtain ⟨hs3, k3⟩ := hs2.clearB T (x := x) (s := { s with ha := p1, fa := s.fa, da := s.da }) ea ob2
     refine ⟨_, rfl, s.p, _, s.dx, _, _, rfl, hs3.ob, T.State.cl, T.na_State_hopper, rfl, p1, _, rfl, hs3.hop.sum, by show 1 ≤ sizeLine; decide, fun r hr => ?_⟩
     refine q.yes (s' := { s with ha := p1, fa := s.fa, da := s.da }) (((KF.same s1).trans ((k2 _).foot (.inl rfl))).trans (k3.foot (foot_bs (s := s) ea))) (fun c hc => .inl hc) rfl hs3 hr ?_
     show [V.int ((Km414.sum w.hopper + Km414.sum x.mix : Nat) : Int)] = [V.int _]
     rw [isum]
     show [V.int ((Km414.sum w.hopper + Km414.sum x.mix : Nat) : Int)] = [V.int ((Km414.sum (plus w.hopper x.mix) : Nat) : Int)]
     rw [sum_plus ok.hop obk.six]
    ·rw [decide_eq_false c4]
     have c4' : Km414.HOPPER < Km414.sum w.hopper + Km414.sum x.mix := by unfold Km414.HOPPER; omega
     refine ⟨by show 1 ≤ sizeLine; decide, fun r hr => q.no hs ?_ (Same.refl H) hr⟩
     unfold chg Km414.act; simp only [if_neg ci, ebay, if_neg c1, if_pos c4']
theorem ref_at {ps : List Addr} {i : Nat} {x : V} (h : (ps.map V.ref)[i]? = some x) : ∃ a, ps[i]? = some a ∧ x = V.ref a := by
 rw [List.getElem?_map] at h
 cases e : ps[i]? with
 | none => rw [e] at h; cases h
 | some c => rw [e] at h; exact ⟨c, rfl, (Option.some.inj h).symm⟩
def spSoRun (t : Ad) (K : PySem.W.Frag) : Sp := fun vs H Q _ => ∃ (s : SA) (w : Works), vs = [.ref s.p] ∧ StateAt t K H s w ∧ WOk w ∧ ChgPost t K H s (chg w .run) Q
def runB (ms : List Mix) (i : Nat) (b : Bay) : Bay := { b with mix := plus b.mix (ms.getD i none6) }
theorem ok_so_run (T : Txt K mg t) : FnOk P w K mg base CX0 5 t.so_run.f t.so_run.d ["state"] (spSoRun t K) := by
 refine T.so_run.fn.ok sc_so_run (fun vs H Q E h => ?_) (fun cdv A outer s H vs Q E hr h => ?_)
 ·obtain ⟨s, w, rfl, _⟩ := h
  rfl
 ·obtain ⟨s, w, rfl, hs, ok, q⟩ := h
  have lb := pd_len hs.bays
  have b6 := ok.b6
  have n5 := ok.ms.n5
  refine ⟨_, (pss_cons (ps_set (i := 1) sc_so_run.nd rfl (Or.inl rfl) (pe_callB (cr_sumTK (K := K) rfl) (by rfl) T.n_sum boot_sum (pa_cons (pfld (K := K) (pv 0)) pa_nil))) (pss_cons (ps_if (pt_cmpR op_eq (pv 1) pe_int (nomark _)) (pss_one (ps_ret (pe_lst (pa_cons (pgI T.g_EMPTY) pa_nil)))) pss_nil) (pss_cons (ps_set (i := 2) sc_so_run.nd rfl (Or.inl rfl) (pcall T.put_hopper_through (ok_put_hopper_through T) hr.m (pa_cons (pv 0) pa_nil))) (pss_cons (ps_if (pt_not (pt_val (pcall T.fits (ok_fits T) hr.m (pa_cons (pv 0) (pa_cons (pv 2) pa_nil))))) (pss_one (ps_ret (pe_lst (pa_cons (pgI T.g_NO_ROOM) pa_nil)))) pss_nil) (pss_cons (ps_for PassesOwn.never rfl (pzip (K := K) false false (by rfl) T.n_zip (pa_cons (pfld (K := K) (pv 0)) (pa_cons (pv 2) pa_nil))) (ptupG (K := K) (n := 2) rfl (pgs_cons (pg_name (i := 3) sc_so_run.nd rfl (Or.inl rfl)) (pgs_cons (pg_name (i := 4) sc_so_run.nd rfl (Or.inl rfl)) pgs_nil))) (pss_one (psfld (K := K) (pv 3) (pv 4)))) (pss_cons (psfld (K := K) (pv 0) (pgR T.g_NOTHING)) (pss_one (ps_ret (pe_lst (pa_cons (pv 1) pa_nil)))))))))), ?_⟩
  refine ⟨_, rfl, s.p, _, s.dx, _, _, rfl, hs.ob, T.State.cl, T.na_State_hopper, rfl, s.ha, _, rfl, hs.hop.sum, ?_⟩
  rw [isum]
  refine ⟨_, rfl, rfl, _, rfl, ite2 (fun c1 => ?_) (fun c1 => ?_)⟩
  ·rw [decide_eq_true_eq] at c1
   have c1 : Km414.sum w.hopper = 0 := by injection c1 with c1; omega
   refine ⟨by show 1 ≤ sizeLine; decide, fun r hr => q.no hs ?_ (Same.refl H) hr⟩
   unfold chg Km414.act; simp only [if_pos c1]
  ·rw [decide_eq_true_eq] at c1
   have c1 : ¬ Km414.sum w.hopper = 0 := fun z => c1 (by rw [z]; rfl)
   refine ⟨_, rfl, s, w, rfl, hs, ok, fun c H1 s1 hc hc1 => ?_⟩
   have o6 : ∀ b ∈ w.bays, b.mix.length = 6 := fun b hb => (ok.bays b hb).six
   rw [putH_eq (had := bMixes w.bays) (by simp [bMixes, b6]) (bMixes_six o6) w.machines (w.machines.map fun x => x.now) ok.hop] at hc1
   have hl := putC_len w.machines (w.machines.map fun x => x.now) w.hopper
   have hfit : w.fits (w.flow w.sets w.hopper) = _ := fits_eq ok w.sets ok.hop
   have hflow := (flow_eq ok.ms.n5 ok.ms.belts w.sets ok.hop).1
   have h6 := All6.putC w.machines w.sets ok.hop
   change MixesAt K H1 c (shiftF (bMixes w.bays) (putC w.machines w.sets w.hopper)) at hc1
   change (putC w.machines w.sets w.hopper).length = _ at hl
   generalize putC w.machines w.sets w.hopper = cm at *
   have hl2 := shiftF_len (bMixes w.bays) cm
   refine ⟨_, rfl, _, rfl, s, c, w, shiftF (bMixes w.bays) cm, rfl, hs.same s1, hc1, by omega, by omega, fun H2 s2 => ?_⟩
   rw [shiftF_drop, holdH_eq b6 o6 (by omega) h6, ← hfit]
   refine ⟨_, rfl, ?_⟩
   cases c2 : w.fits (w.flow w.sets w.hopper) with
   | false =>
    refine ⟨by show 1 ≤ sizeLine; decide, fun r hr => q.no hs ?_ (s1.trans s2) hr⟩
    unfold chg Km414.act; simp only [if_neg c1, c2, if_true]
   | true =>
    have er : chg w .run = ({ w with hopper := none6, bays := w.bays.mapIdx (runB cm) }, Km414.only ((Km414.sum w.hopper : Nat) : Int)) := by
     have e := with_eq ok.b6 (c := cm)
     unfold chg Km414.act; simp only [if_neg c1, c2, Km414.Desk.become, hflow, e]
     rfl
    rw [er] at q
    have s12 := s1.trans s2
    have hs2 := hs.same s12
    obtain ⟨cs, hc2, hcs⟩ := hc1.same s2
    have lc := pd_len hcs
    refine ⟨_, rfl, s.p, _, s.dx, _, _, rfl, hs2.ob, T.State.cl, T.na_State_bays, rfl, _, rfl, s.bl, c, _, _, rfl, SqL.of hs2.bl, SqL.of hc2, ?_⟩
    refine for_zip (t1 := false) (t2 := false) (xs := s.bs.map V.ref) (ys := cs.map V.ref) (fun i σ H' => (∃ v3 v4, σ = [some (.ref s.p), some (.int ((Km414.sum w.hopper : Nat) : Int)), some (.ref c), v3, v4]) ∧ KF (· ∈ s.bs) H2 H' ∧ StateAt t K H' s { w with bays := upTo w.bays (runB cm) i } ∧ H' c = some (.lst (cs.map V.ref)) ∧ Paired (MixAt K H') cs (shiftF (bMixes w.bays) cm))
     ⟨⟨_, _, rfl⟩, fun _ _ h _ => h, by rw [upTo_zero]; exact hs2, hc2, hcs⟩ (fun i σ H' ⟨_, _, h3, h4, _⟩ => ⟨SqL.of h3.bl, SqL.of h4⟩) ?_ ?_
    ·rintro i x y U σ H3 hx hy ⟨⟨v3, v4, rfl⟩, k3, hs3, hc3, hcs3⟩ hU
     obtain ⟨a, ea, rfl⟩ := ref_at hx
     obtain ⟨b, eb, rfl⟩ := ref_at hy
     obtain ⟨n, en, hn⟩ := pd_get hcs3 eb
     have hi : i < w.bays.length := by rw [← lb]; exact (List.getElem?_eq_some_iff.mp ea).1
     have exi := List.getElem?_eq_getElem hi
     generalize hx0 : w.bays[i] = x0 at *
     have e1 : n = plus x0.mix (cm.getD i none6) := by
      have ez : (shiftF (bMixes w.bays) cm).getD i none6 = n := by rw [List.getD_eq_getElem?_getD, en]; rfl
      rw [← ez, shiftF_at _ _ (by omega), if_pos (by omega), bMixes_at, List.getD_eq_getElem?_getD, exi]; rfl
     obtain ⟨x1, ex1, hx1⟩ := pd_get hs3.bays ea
     have ex2 : x1 = x0 := Option.some.inj (ex1.symm.trans (upTo_at exi))
     subst ex2
     have sU := Same.new (o := .tup [.ref a, .ref b]) hU
     have hs4 := hs3.same sU
     have hc4 := sU _ _ hc3
     have hcs4 := pd_imp (fun _ _ z => z.same sU) hcs3
     have hx4 := hx1.same sU
     have hn4 := hn.same sU
     generalize hH4 : upd H3 U (.tup [.ref a, .ref b]) = H4 at *
     obtain ⟨dx, mx, ob, hmx⟩ := hx4.ob
     refine ⟨U, _, rfl, SqT.of (by rw [← hH4]; exact upd_same), rfl, _, _, rfl, _, _, rfl, rfl, _, rfl, _, rfl, a, _, dx, _, rfl, ob, T.Bay.cl, T.na_Bay_mix, by show 5 < 1000; decide, ?_⟩
     have k6 : KF (· = a) H4 (upd H4 a (.ins t.c_Bay dx (bfs (.int (x1.kind : Nat)) (.int (x1.pure_ : Nat)) (.int (x1.price : Nat)) (.int (x1.most : Nat)) (.ref b)))) := KF.upd rfl
     have wr := wrI ob
     have hb6 : BayAt t K (upd H4 a (.ins t.c_Bay dx (bfs (.int (x1.kind : Nat)) (.int (x1.pure_ : Nat)) (.int (x1.price : Nat)) (.int (x1.most : Nat)) (.ref b)))) a (runB cm i x1) := ⟨dx, b, upd_same, by unfold runB; rw [← e1]; exact hn4.kf k6 wr⟩
     have hs6 := hs4.setB ea k6 hb6
     have am := List.mem_of_getElem? ea
     refine ⟨⟨_, _, rfl⟩, (k3.trans (KF.same sU)).trans (k6.mono fun z e => by rw [e]; exact am), ?_, k6 _ _ hc4 (Ne.symm (ins_lst ob hc4)), pd_imp (fun _ _ z => z.kf k6 wr) hcs4⟩
     have := upTo_succ (f := runB cm) exi
     rw [← this]
     exact hs6
    ·rintro σ H3 ⟨⟨v3, v4, rfl⟩, k3, hs3, hc3, hcs3⟩
     have e6 : min (s.bs.map V.ref).length (cs.map V.ref).length = 6 := by rw [List.length_map, List.length_map, lb, lc, b6]; omega
     rw [e6, upTo_full _ _ _ (by omega)] at hs3
     refine ⟨_, rfl, s.p, _, s.dx, _, rfl, hs3.ob, T.State.cl, T.na_State_hopper, by show 8 < 1000; decide, ?_⟩
     have hs4 := hs3.setP (cost := w.cost) (nothingAt T H3) hs3.fed hs3.dum
     have k4 : ∀ o, KF (· = s.p) H3 (upd H3 s.p o) := fun o => KF.upd rfl
     refine ⟨_, rfl, by show 1 ≤ sizeLine; decide, fun r hr => ?_⟩
     exact q.yes (s' := { s with ha := t.c_NOTHING, fa := s.fa, da := s.da }) (((KF.same s12).trans (k3.mono fun z hz => .inr (.inr (.inr (.inr (.inr hz)))))).trans ((k4 _).foot (.inl rfl))) (fun c hc => .inl hc) rfl hs4 hr rfl
def spSoTake (t : Ad) (K : PySem.W.Frag) : Sp := fun vs H Q _ => ∃ (s : SA) (w : Works), vs = [.ref s.p] ∧ StateAt t K H s w ∧ WOk w ∧ ChgPost t K H s (chg w .take) Q
def takeM (st : List Nat) (i : Nat) (x : Machine) : Machine := { x with now := st.getD i 0 }
theorem ok_so_take (T : Txt K mg t) : FnOk P w K mg base CX0 6 t.so_take.f t.so_take.d ["state"] (spSoTake t K) := by
 refine T.so_take.fn.ok sc_so_take (fun vs H Q E h => ?_) (fun cdv A outer s H vs Q E hr h => ?_)
 ·obtain ⟨s, w, rfl, _⟩ := h
  rfl
 ·obtain ⟨s, w, rfl, hs, ok, q⟩ := h
  have lm := pd_len hs.mach
  refine ⟨_, (pss_cons (ps_set (i := 1) sc_so_take.nd rfl (Or.inl rfl) (pcall T.best_settings (ok_best_settings T) hr.m (pa_cons (pv 0) pa_nil))) (pss_cons (ps_if (pt_cmp (pc_isN (pv 1))) (pss_one (ps_ret (pe_lst (pa_cons (pgI T.g_UNFIT) pa_nil)))) pss_nil) (pss_cons (ps_for PassesOwn.never rfl (pzip (K := K) false true (by rfl) T.n_zip (pa_cons (pfld (K := K) (pv 0)) (pa_cons (pe_ix (ix_tupK (K := K)) (pv 1) pe_int (fun _ _ => rfl)) pa_nil))) (ptupG (K := K) (n := 2) rfl (pgs_cons (pg_name (i := 2) sc_so_take.nd rfl (Or.inl rfl)) (pgs_cons (pg_name (i := 3) sc_so_take.nd rfl (Or.inl rfl)) pgs_nil))) (pss_one (psfld (K := K) (pv 2) (pv 3)))) (pss_one (ps_ret (pe_lst (pa_cons (pe_ix (ix_tupK (K := K)) (pv 1) pe_int (fun _ _ => rfl)) pa_nil))))))), ?_⟩
  refine ⟨_, rfl, s, w, rfl, hs, ok, fun v H1 s1 hv => ?_⟩
  have hb := best_eq ok
  have hw := waysC_ok ok.ms w.hopper
  generalize hbc : bestC w.harm w.bays (waysC w.machines w.hopper) = bc at *
  cases bc with
  | none =>
   obtain rfl : v = .non := hv
   refine ⟨_, rfl, _, rfl, by show 1 ≤ sizeLine; decide, fun r hr => q.no hs ?_ s1 hr⟩
   unfold chg Km414.act; rw [hb]; rfl
  | some pr =>
   obtain ⟨st, u⟩ := pr
   obtain ⟨a, c, rfl, h1, h2⟩ := hv
   obtain ⟨wy, hwy, est⟩ := best_mem hbc
   have lst : st.length = w.machines.length := by rw [est]; exact (hw.each wy hwy).2
   have er : chg w .take = ({ w with machines := w.machines.mapIdx (takeM st) }, Km414.only ((u : Nat) : Int)) := by
    unfold chg Km414.act; rw [hb]
    simp only [swapB, Option.map_some, Km414.Desk.become]
    rw [taken_eq w.machines (fun k x => { x with now := st.getD k 0 })]
    rfl
   rw [er] at q
   have hs1 := hs.same s1
   refine ⟨_, rfl, _, rfl, ?_⟩
   refine ⟨_, rfl, s.p, _, s.dx, _, _, rfl, hs1.ob, T.State.cl, T.na_State_machines, rfl, _, rfl, a, _, _, _, rfl, rfl, h1, rfl, s.ml, c, _, _, rfl, SqL.of hs1.ml, h2, ?_⟩
   refine for_zip (t1 := false) (t2 := true) (xs := s.ms.map V.ref) (ys := nts st) (fun i σ H' => (∃ v3 v4, σ = [some (.ref s.p), some (.ref a), v3, v4]) ∧ KF (· ∈ s.ms) H1 H' ∧ StateAt t K H' s { w with machines := upTo w.machines (takeM st) i } ∧ SqT K H' a [.ref c, .int (u : Nat)] ∧ SqT K H' c (nts st))
    ⟨⟨_, _, rfl⟩, fun _ _ h _ => h, by rw [upTo_zero]; exact hs1, h1, h2⟩ (fun i σ H' ⟨_, _, h3, _, h4⟩ => ⟨SqL.of h3.ml, h4⟩) ?_ ?_
   ·rintro i x y U σ H3 hx hy ⟨⟨v3, v4, rfl⟩, k3, hs3, ha3, hc3⟩ hU
    obtain ⟨b, eb, rfl⟩ := ref_at hx
    have hi : i < w.machines.length := by rw [← lm]; exact (List.getElem?_eq_some_iff.mp eb).1
    rw [nts_at (by rw [lst]; exact hi)] at hy
    cases hy
    have exi := List.getElem?_eq_getElem hi
    generalize hx0 : w.machines[i] = x0 at *
    obtain ⟨x1, ex1, hx1⟩ := pd_get hs3.mach eb
    have ex2 : x1 = x0 := Option.some.inj (ex1.symm.trans (upTo_at exi))
    subst ex2
    have sU := Same.new (o := .tup [.ref b, .int ((st.getD i 0 : Nat) : Int)]) hU
    have hs4 := hs3.same sU
    have hx4 := hx1.same sU
    have ha4 := SqT.same sU ha3
    have hc4 := SqT.same sU hc3
    generalize hH4 : upd H3 U (.tup [.ref b, .int ((st.getD i 0 : Nat) : Int)]) = H4 at *
    obtain ⟨dx, sa, ba, ss, ob, q1, q2, q3⟩ := hx4.ob
    refine ⟨U, _, rfl, SqT.of (by rw [← hH4]; exact upd_same), rfl, _, _, rfl, _, _, rfl, rfl, _, rfl, _, rfl, b, _, dx, _, rfl, ob, T.Machine.cl, T.na_Machine_chosen, by show 4 < 1000; decide, ?_⟩
    have k6 : KF (· = b) H4 (upd H4 b (.ins t.c_Machine dx (mfs (.int (x1.most : Nat)) (.ref sa) (.int ((st.getD i 0 : Nat) : Int)) (.ref ba)))) := KF.upd rfl
    have wr := wrI ob
    have hm6 : MachAt t K (upd H4 b (.ins t.c_Machine dx (mfs (.int (x1.most : Nat)) (.ref sa) (.int ((st.getD i 0 : Nat) : Int)) (.ref ba)))) b (takeM st i x1) := ⟨dx, sa, ba, ss, upd_same, SqT.kf k6 wr q1, pd_imp (fun _ _ z => z.kf k6 wr) q2, SqT.kf k6 wr q3⟩
    have hs6 := hs4.setM eb k6 hm6
    have bm := List.mem_of_getElem? eb
    refine ⟨⟨_, _, rfl⟩, (k3.trans (KF.same sU)).trans (k6.mono fun z e => by rw [e]; exact bm), ?_, SqT.kf k6 wr ha4, SqT.kf k6 wr hc4⟩
    have := upTo_succ (f := takeM st) exi
    rw [← this]
    exact hs6
   ·rintro σ H3 ⟨⟨v3, v4, rfl⟩, k3, hs3, ha3, hc3⟩
    have e6 : min (s.ms.map V.ref).length (nts st).length = w.machines.length := by rw [List.length_map, nts_len, lm, lst]; omega
    rw [e6, upTo_full _ _ _ (Nat.le_refl _)] at hs3
    refine ⟨_, rfl, a, _, _, _, rfl, rfl, ha3, rfl, by show 1 ≤ sizeLine; decide, fun r hr => ?_⟩
    exact q.yes (s' := s) ((KF.same s1).trans (k3.mono fun z hz => .inr (.inr (.inr (.inr (.inl hz)))))) (fun c hc => .inl hc) rfl hs3 hr rfl
def AskPost (H : Hp) (a : Km414.Ans) (Q : VK) : Prop := ∀ H' l, Same H H' → H' l = some (.lst (ansV a)) → H l = none → Q (.ref l) H'
theorem AskPost.one {H H1 : Hp} {a : Km414.Ans} {Q : VK} {vs : List V} (q : AskPost H a Q) (s1 : Same H H1) {l : Addr} (hl : H1 l = none) (e : ansV a = vs) : Q (.ref l) (upd H1 l (.lst vs)) :=
 q _ l (s1.trans (Same.new hl)) (by rw [upd_same, e]) (s1.free hl)
def spEach (K : PySem.W.Frag) : Sp := fun vs H Q _ => ∃ (tt : Bool) (a : Addr) (ns : List Nat), vs = [.ref a] ∧ SqK tt K H a (nts ns) ∧ ns.length ≤ 5 ∧ ∀ p H', Same H H' → H' p = some (.lst (nts (Km414.fill 5 ns))) → Q (.ref p) H'
theorem fill_eq {ns : List Nat} (h : ns.length ≤ 5) : Km414.fill 5 ns = ns ++ List.replicate (5 - ns.length) 0 := by
 unfold Km414.fill; rw [List.take_of_length_le h]
def spFill (K : PySem.W.Frag) : Sp := fun vs H Q _ => ∃ (tt : Bool) (a : Addr) (ns : List Nat) (n : Nat), vs = [.ref a, .int (n : Nat)] ∧ SqK tt K H a (nts ns) ∧ ns.length ≤ n ∧ n ≤ 1000 ∧ ∀ p H', Same H H' → H' p = some (.lst (nts (Km414.fill n ns))) → Q (.ref p) H'
theorem fill_all {ns : List Nat} {n : Nat} (h : ns.length ≤ n) : Km414.fill n ns = ns ++ List.replicate (n - ns.length) 0 := by
 unfold Km414.fill; rw [List.take_of_length_le h]
theorem ok_filled_up (T : Txt K mg t) : FnOk P w K mg base CX0 1 t.filled_up.f t.filled_up.d ["numbers", "length"] (spFill K) := by
 refine T.filled_up.fn.ok sc_filled_up (fun vs H Q E h => ?_) (fun cdv A outer s H vs Q E hr h => ?_)
 ·obtain ⟨tt, a, ns, n, rfl, _⟩ := h
  rfl
 ·obtain ⟨tt, a, ns, n, rfl, hs, hl, hn, q⟩ := h
  have hs' : SqL K H a (nts ns) ∨ SqT K H a (nts ns) := by cases tt; exact .inl hs; exact .inr hs
  refine ⟨_, (pss_one (ps_ret (pe_op op_cat (pe_callTy (call_listK (K := K)) (by rfl) T.n_list boot_list (pa_cons (pv 0) pa_nil)) (pe_lc rfl sc_filled_up.nd (pi_range1 (by rfl) T.n_range (pa_cons (pe_op op_sub (pv 1) (pe_callB (call_lenK (K := K)) (by rfl) T.n_len PySem.boot_len (pa_cons (pv 0) pa_nil))) pa_nil)) (own := [("place", 2)]) (blkOk_by (by rfl)) (fun _ _ _ _ _ => (pg_name (i := 2) sc_filled_up.nd rfl (Or.inl rfl) (Or.inr rfl))) (fun _ _ _ _ _ => pts_nil) (fun _ _ _ _ _ => pe_int))))), ?_⟩
  refine ⟨_, rfl, a, _, rfl, hs', fun l1 hl1 => ?_⟩
  have s1 : Same H (upd H l1 (.lst (nts ns))) := Same.new hl1
  have h1 : (upd H l1 (.lst (nts ns))) l1 = some (.lst (nts ns)) := upd_same
  generalize upd H l1 (.lst (nts ns)) = H1 at *
  have hs1 : SqL K H1 a (nts ns) ∨ SqT K H1 a (nts ns) := hs'.elim (fun z => .inl (Same.seq s1 z)) (fun z => .inr (SqT.same s1 z))
  refine ⟨_, rfl, _, rfl, a, _, rfl, hs1, _, _, rfl, rfl, _, rfl, by rw [nts_len]; omega, by rw [nts_len]; omega, fun D hD => ?_⟩
  have e1 : (((n : Nat) : Int) - ((nts ns).length : Nat)).toNat = n - ns.length := by rw [nts_len]; omega
  rw [e1]
  refine lc_rangeMap (fun _ => V.int 0) hD (Nat.lt_of_le_of_lt (show n - ns.length ≤ 1000 by omega) (by decide)) ?_ ?_
  ·intro i H2 R Z hi s2 kR
   exact ⟨rfl, kR _ (Same.refl _)⟩
  ·intro H2 s2 hD2
   rw [map_const] at hD2
   refine ⟨l1, D, _, _, rfl, rfl, s2 _ _ h1, hD2, by rw [nts_len, List.length_replicate]; exact Nat.le_trans (show ns.length + (n - ns.length) ≤ 1000 by omega) (by decide), fun p hp => ?_⟩
   refine q p _ ((s1.trans s2).trans (Same.new hp)) ?_
   rw [upd_same, fill_all hl]
   unfold nts
   rw [List.map_append, List.map_replicate]
   rfl
theorem ok_for_each_machine (T : Txt K mg t) : FnOk P w K mg base CX0 2 t.for_each_machine.f t.for_each_machine.d ["numbers"] (spEach K) := by
 refine T.for_each_machine.fn.ok sc_for_each_machine (fun vs H Q E h => ?_) (fun cdv A outer s H vs Q E hr h => ?_)
 ·obtain ⟨tt, a, ns, rfl, _⟩ := h
  rfl
 ·obtain ⟨tt, a, ns, rfl, hs, hl, q⟩ := h
  refine ⟨_, (pss_one (ps_ret (pcall T.filled_up (ok_filled_up T) hr.m (pa_cons (pv 0) (pa_cons (pgI T.g_MACHINES) pa_nil))))), ?_⟩
  exact ⟨_, rfl, tt, a, ns, 5, rfl, hs, hl, by decide, fun p H1 s1 hp => q p H1 s1 hp⟩
def spWith (K : PySem.W.Frag) : Sp := fun vs H Q _ => ∃ (a : Addr) (m : Mix), vs = [.ref a] ∧ MixAt K H a m ∧ ∀ p H', Same H H' → H p = none → H' p = some (.lst (.int ((Km414.sum m : Nat) : Int) :: nts m)) → Q (.ref p) H'
theorem ok_with_sum (T : Txt K mg t) : FnOk P w K mg base CX0 1 t.with_sum.f t.with_sum.d ["mix"] (spWith K) := by
 refine T.with_sum.fn.ok sc_with_sum (fun vs H Q E h => ?_) (fun cdv A outer s H vs Q E hr h => ?_)
 ·obtain ⟨a, m, rfl, _⟩ := h
  rfl
 ·obtain ⟨a, m, rfl, ha, q⟩ := h
  refine ⟨_, (pss_one (ps_ret (pe_op op_cat (pe_lst (pa_cons (pe_callB (cr_sumTK (K := K) rfl) (by rfl) T.n_sum boot_sum (pa_cons (pv 0) pa_nil)) pa_nil)) (pe_callTy (call_listK (K := K)) (by rfl) T.n_list boot_list (pa_cons (pv 0) pa_nil))))), ?_⟩
  refine ⟨_, rfl, a, _, rfl, ha.sum, by show 1 ≤ sizeLine; decide, fun l2 hl2 => ?_⟩
  rw [isum] at *
  have s2 := Same.new (o := .lst [.int ((Km414.sum m : Nat) : Int)]) hl2
  refine ⟨_, rfl, a, _, rfl, .inr (SqT.same s2 ha.1), fun l3 hl3 => ?_⟩
  have s3 := Same.new (o := .lst (nts m)) hl3
  refine ⟨l2, l3, _, _, rfl, rfl, s3 _ _ upd_same, upd_same, by rw [nts_len, ha.2]; show 1 + 6 ≤ sizeLine; decide, fun r hr => ?_⟩
  exact q r _ ((s2.trans s3).trans (Same.new hr)) ((s2.trans s3).free hr) upd_same
def spSoWould (t : Ad) (K : PySem.W.Frag) : Sp := fun vs H Q _ => ∃ (s : SA) (w : Works) (i : Nat), vs = [.ref s.p, .int (i : Nat)] ∧ StateAt t K H s w ∧ WOk w ∧ AskPost H (chg w (.would i)).2 Q
theorem ansV_mk (v : Int) (o : List Nat) : ansV ⟨v, o⟩ = .int v :: nts o := by
 unfold ansV Km414Neutral.told Km414Neutral.nums nts
 simp
theorem ok_so_would (T : Txt K mg t) : FnOk P w K mg base CX0 5 t.so_would.f t.so_would.d ["state", "i"] (spSoWould t K) := by
 refine T.so_would.fn.ok sc_so_would (fun vs H Q E h => ?_) (fun cdv A outer s H vs Q E hr h => ?_)
 ·obtain ⟨s, w, i, rfl, _⟩ := h
  rfl
 ·obtain ⟨s, w, i, rfl, hs, ok, q⟩ := h
  refine ⟨_, (pss_cons (ps_if (pt_cmpR op_ge (pv 1) (pgI T.g_BAYS) (nomark _)) (pss_one (ps_ret (pe_lst (pa_cons (pgI T.g_MISSING) pa_nil)))) pss_nil) (pss_one (ps_ret (pcall T.with_sum (ok_with_sum T) hr.m (pa_cons (pe_ix (ix_listK (K := K)) (pcall T.put_through_alone (ok_put_through_alone T) hr.m (pa_cons (pfld (K := K) (pv 0)) (pa_cons (pfld (K := K) (pv 0)) pa_nil))) (pv 1) (fun _ _ => rfl)) pa_nil))))), ?_⟩
  refine ⟨_, rfl, _, _, rfl, rfl, _, rfl, ite2 (fun c => ?_) (fun c => ?_)⟩
  ·rw [decide_eq_true_eq] at c
   refine ⟨by show 1 ≤ sizeLine; decide, fun r hr => q.one (Same.refl H) hr ?_⟩
   have e : (chg w (.would i)).2 = Km414.only (-2) := by unfold chg Km414.act; simp only [if_pos (show Km414.BAYS ≤ i by unfold Km414.BAYS; omega)]
   rw [e]; rfl
  ·rw [decide_eq_true_eq] at c
   have ci : ¬ Km414.BAYS ≤ i := by unfold Km414.BAYS; omega
   refine ⟨_, rfl, s.p, _, s.dx, _, _, rfl, hs.ob, T.State.cl, T.na_State_machines, rfl, _, rfl, s.p, _, s.dx, _, _, rfl, hs.ob, T.State.cl, T.na_State_hopper, rfl, s.ml, s.ha, w.machines, w.hopper, rfl, hs.machs, ok.ms, hs.hop, fun p H1 s1 hp hp1 => ?_⟩
   have hl := putC_len w.machines (w.machines.map fun x => x.now) w.hopper
   have hflow := (flow_eq ok.ms.n5 ok.ms.belts w.sets ok.hop).1
   change MixesAt K H1 p (putC w.machines w.sets w.hopper) at hp1
   change (putC w.machines w.sets w.hopper).length = _ at hl
   generalize putC w.machines w.sets w.hopper = cm at *
   obtain ⟨ps, h1, h2⟩ := hp1
   obtain ⟨a, ea, ha⟩ := MixesAt.at_ (l := p) h2 (i := i) (by omega)
   have er : (chg w (.would i)).2 = ⟨((Km414.sum (cm.getD i none6) : Nat) : Int), cm.getD i none6⟩ := by
    unfold chg Km414.act; simp only [if_neg ci, hflow, take_getD cm (show i < 6 by omega)]
   refine ⟨_, rfl, p, _, _, _, rfl, rfl, SqL.of h1, atN (refs_at ea), a, _, rfl, ha, fun l2 H2 s2 hn2 hl2 => ?_⟩
   refine q H2 l2 (s1.trans s2) ?_ (s1.free hn2)
   rw [hl2, er, ansV_mk]
def spSoLoads (t : Ad) (K : PySem.W.Frag) : Sp := fun vs H Q _ => ∃ (s : SA) (w : Works), vs = [.ref s.p] ∧ StateAt t K H s w ∧ WOk w ∧ AskPost H (chg w .loads).2 Q
theorem ok_so_loads (T : Txt K mg t) : FnOk P w K mg base CX0 5 t.so_loads.f t.so_loads.d ["state"] (spSoLoads t K) := by
 refine T.so_loads.fn.ok sc_so_loads (fun vs H Q E h => ?_) (fun cdv A outer s H vs Q E hr h => ?_)
 ·obtain ⟨s, w, rfl, _⟩ := h
  rfl
 ·obtain ⟨s, w, rfl, hs, ok, q⟩ := h
  have n5 := ok.ms.n5
  refine ⟨_, (pss_cons (ps_set (i := 1) sc_so_loads.nd rfl (Or.inl rfl) (pcall T.put_hopper_through (ok_put_hopper_through T) hr.m (pa_cons (pv 0) pa_nil))) (pss_one (ps_ret (pe_op op_cat (pe_lst (pa_cons (pe_ifExp (pt_val (pcall T.fits (ok_fits T) hr.m (pa_cons (pv 0) (pa_cons (pv 1) pa_nil)))) pe_int pe_int) pa_nil)) (pcall T.for_each_machine (ok_for_each_machine T) hr.m (pa_cons (pcall T.machine_loads (ok_machine_loads T) hr.m (pa_cons (pv 1) pa_nil)) pa_nil)))))), ?_⟩
  refine ⟨_, rfl, s, w, rfl, hs, ok, fun p H1 s1 hp hp1 => ?_⟩
  have o6 : ∀ b ∈ w.bays, b.mix.length = 6 := fun b hb => (ok.bays b hb).six
  rw [putH_eq (had := bMixes w.bays) (by simp [bMixes, ok.b6]) (bMixes_six o6) w.machines (w.machines.map fun x => x.now) ok.hop] at hp1
  have hl := putC_len w.machines (w.machines.map fun x => x.now) w.hopper
  have hfit : w.fits (w.flow w.sets w.hopper) = _ := fits_eq ok w.sets ok.hop
  have hflow := (flow_eq ok.ms.n5 ok.ms.belts w.sets ok.hop).2
  have h6 := All6.putC w.machines w.sets ok.hop
  change MixesAt K H1 p (shiftF (bMixes w.bays) (putC w.machines w.sets w.hopper)) at hp1
  change (putC w.machines w.sets w.hopper).length = _ at hl
  generalize putC w.machines w.sets w.hopper = c0 at *
  have hd := shiftF_drop (bMixes w.bays) c0
  have hl2 := shiftF_len (bMixes w.bays) c0
  rw [← holdH_eq ok.b6 o6 (by omega) h6, ← hd] at hfit
  rw [← hd] at hflow
  rw [← hl2] at hl
  clear hd hl2 h6
  generalize shiftF (bMixes w.bays) c0 = cm at *
  have er : (chg w .loads).2 = ⟨((Km414.bit (w.fits (w.flow w.sets w.hopper)) : Nat) : Int), Km414.fill 5 ((cm.drop 6).map Km414.sum)⟩ := by
   unfold chg Km414.act; simp only [hflow]; rfl
  refine ⟨_, rfl, _, rfl, s, p, w, cm, rfl, hs.same s1, hp1, by omega, by omega, fun H2 s2 => ?_⟩
  rw [← hfit]
  have hp2 := hp1.same s2
  refine ⟨_, rfl, ?_⟩
  cases hf : w.fits (w.flow w.sets w.hopper)
  all_goals
   rw [hf] at er
   refine ⟨by show 1 ≤ sizeLine; decide, fun l2 hl2 => ?_⟩
   have s3 := Same.new (o := .lst [.int ((Km414.bit (w.fits (w.flow w.sets w.hopper)) : Nat) : Int)]) hl2
   rw [hf] at s3
   refine ⟨_, rfl, p, cm, rfl, hp2.same s3, by omega, by omega, fun p4 H4 s4 _ hp4 => ?_⟩
   refine ⟨false, p4, _, rfl, SqL.of hp4, by rw [List.length_map, List.length_drop, hl]; omega, fun p5 H5 s5 hp5 => ?_⟩
   have s45 := s4.trans s5
   refine ⟨l2, p5, _, _, rfl, rfl, s45 _ _ upd_same, hp5, by rw [nts_len]; show 1 + (Km414.fill 5 ((cm.drop 6).map Km414.sum)).length ≤ sizeLine; rw [fill_eq (by rw [List.length_map, List.length_drop, hl]; omega), List.length_append, List.length_replicate, List.length_map, List.length_drop, hl]; exact Nat.le_trans (show _ ≤ 6 by omega) (by decide), fun r hr => ?_⟩
   refine q.one (((s1.trans s2).trans s3).trans s45) hr ?_
   rw [er, ansV_mk]; rfl
def spSoPure (t : Ad) (K : PySem.W.Frag) : Sp := fun vs H Q _ => ∃ (s : SA) (w : Works) (i : Nat), vs = [.ref s.p, .int (i : Nat)] ∧ StateAt t K H s w ∧ WOk w ∧ AskPost H (chg w (.pure_ i)).2 Q
theorem ok_so_pure (T : Txt K mg t) : FnOk P w K mg base CX0 2 t.so_pure.f t.so_pure.d ["state", "i"] (spSoPure t K) := by
 refine T.so_pure.fn.ok sc_so_pure (fun vs H Q E h => ?_) (fun cdv A outer s H vs Q E hr h => ?_)
 ·obtain ⟨s, w, i, rfl, _⟩ := h
  rfl
 ·obtain ⟨s, w, i, rfl, hs, ok, q⟩ := h
  have lb := pd_len hs.bays
  have b6 := ok.b6
  refine ⟨_, (pss_cons (ps_if (pt_cmpR op_ge (pv 1) (pgI T.g_BAYS) (nomark _)) (pss_one (ps_ret (pe_lst (pa_cons (pgI T.g_MISSING) pa_nil)))) pss_nil) (pss_cons (ps_set (i := 2) sc_so_pure.nd rfl (Or.inl rfl) (pe_ix (ix_listK (K := K)) (pfld (K := K) (pv 0)) (pv 1) (fun _ _ => rfl))) (pss_cons (ps_set (i := 3) sc_so_pure.nd rfl (Or.inl rfl) (pe_callB (cr_sumTK (K := K) rfl) (by rfl) T.n_sum boot_sum (pa_cons (pfld (K := K) (pv 2)) pa_nil))) (pss_cons (ps_if (pt_cmpR op_eq (pv 3) pe_int (nomark _)) (pss_one (ps_ret (pe_lst (pa_cons (pgI T.g_EMPTY) pa_nil)))) pss_nil) (pss_one (ps_ret (pe_lst (pa_cons (pe_op op_fdiv (pe_op op_mul (pgI T.g_THOUSAND) (pe_ix (ix_tupK (K := K)) (pfld (K := K) (pv 2)) (pfld (K := K) (pv 2)) (fun _ _ => rfl))) (pv 3)) (pa_cons (pe_ifExp (pt_val (pcall T.is_good (ok_is_good T) hr.m (pa_cons (pv 2) (pa_cons (pfld (K := K) (pv 2)) (pa_cons (pfld (K := K) (pv 0)) pa_nil))))) pe_int pe_int) pa_nil))))))))), ?_⟩
  refine ⟨_, rfl, _, _, rfl, rfl, _, rfl, ite2 (fun c => ?_) (fun c => ?_)⟩
  ·rw [decide_eq_true_eq] at c
   refine ⟨by show 1 ≤ sizeLine; decide, fun r hr => q.one (Same.refl H) hr ?_⟩
   have e : (chg w (.pure_ i)).2 = Km414.only (-2) := by unfold chg Km414.act; simp only [if_pos (show Km414.BAYS ≤ i by unfold Km414.BAYS; omega)]
   rw [e]; rfl
  ·rw [decide_eq_true_eq] at c
   have hi : i < w.bays.length := by omega
   have ci : ¬ Km414.BAYS ≤ i := by unfold Km414.BAYS; omega
   obtain ⟨a, ea, ma⟩ := pd_get' hs.bays (List.getElem?_eq_getElem hi)
   have obk := ok.bays _ (List.getElem_mem hi)
   generalize hx : w.bays[i] = x at *
   have ex : w.bays[i]? = some x := by rw [List.getElem?_eq_getElem hi, hx]
   have ebay := bay_at ex
   obtain ⟨dx, mx, ob, hmx⟩ := ma.ob
   refine ⟨_, rfl, s.p, _, s.dx, _, _, rfl, hs.ob, T.State.cl, T.na_State_bays, rfl, _, rfl, s.bl, _, _, _, rfl, rfl, SqL.of hs.bl, atN (refs_at ea), ?_⟩
   refine ⟨_, rfl, a, _, dx, _, _, rfl, ob, T.Bay.cl, T.na_Bay_mix, rfl, mx, _, rfl, hmx.sum, ?_⟩
   rw [isum]
   refine ⟨_, rfl, rfl, _, rfl, ite2 (fun c1 => ?_) (fun c1 => ?_)⟩
   ·rw [decide_eq_true_eq] at c1
    have c1 : Km414.sum x.mix = 0 := by injection c1 with c1; omega
    refine ⟨by show 1 ≤ sizeLine; decide, fun r hr => q.one (Same.refl H) hr ?_⟩
    have e : (chg w (.pure_ i)).2 = Km414.only (-6) := by unfold chg Km414.act; simp only [if_neg ci, ebay, if_pos c1]
    rw [e]; rfl
   ·rw [decide_eq_true_eq] at c1
    have c1 : ¬ Km414.sum x.mix = 0 := fun z => c1 (by rw [z]; rfl)
    have er : (chg w (.pure_ i)).2 = ⟨((1000 * x.mix.getD x.kind 0 / Km414.sum x.mix : Nat) : Int), [Km414.bit (x.good w.harm x.mix)]⟩ := by
     unfold chg Km414.act; simp only [if_neg ci, ebay, if_neg c1]
    have hb1 := obk.hold
    have hb2 := obk.most.2
    refine ⟨_, rfl, a, _, dx, _, _, rfl, ob, T.Bay.cl, T.na_Bay_mix, rfl, _, rfl, a, _, dx, _, _, rfl, ob, T.Bay.cl, T.na_Bay_kind, rfl, mx, _, _, _, rfl, rfl, hmx.1, atN (nts_at (by rw [hmx.2]; exact obk.kind)), _, _, rfl, rfl, .inl ⟨by decide, by decide⟩, _, rfl, _, _, rfl, rfl, ⟨by omega, by omega⟩, ?_⟩
    have e1 : (1000 : Int) * ((x.mix.getD x.kind 0 : Nat) : Int) / ((Km414.sum x.mix : Nat) : Int) = ((1000 * x.mix.getD x.kind 0 / Km414.sum x.mix : Nat) : Int) := by
     push_cast; rfl
    dsimp only
    rw [e1]
    refine ⟨_, rfl, _, rfl, a, _, dx, _, _, rfl, ob, T.Bay.cl, T.na_Bay_mix, rfl, _, rfl, s.p, _, s.dx, _, _, rfl, hs.ob, T.State.cl, T.na_State_harm, rfl, a, mx, x, _, w.harm, rfl, ma, hmx, obk.kind, obk.pure, _, rfl, ?_⟩
    cases hg : x.good w.harm x.mix
    all_goals
     rw [hg] at er
     refine ⟨by show 2 ≤ sizeLine; decide, fun r hr => q.one (Same.refl H) hr ?_⟩
     rw [er, ansV_mk]; rfl
def spSoBest (t : Ad) (K : PySem.W.Frag) : Sp := fun vs H Q _ => ∃ (s : SA) (w : Works), vs = [.ref s.p] ∧ StateAt t K H s w ∧ WOk w ∧ AskPost H (chg w .best).2 Q
theorem ok_so_best (T : Txt K mg t) : FnOk P w K mg base CX0 6 t.so_best.f t.so_best.d ["state"] (spSoBest t K) := by
 refine T.so_best.fn.ok sc_so_best (fun vs H Q E h => ?_) (fun cdv A outer s H vs Q E hr h => ?_)
 ·obtain ⟨s, w, rfl, _⟩ := h
  rfl
 ·obtain ⟨s, w, rfl, hs, ok, q⟩ := h
  have n5 := ok.ms.n5
  refine ⟨_, (pss_cons (ps_set (i := 1) sc_so_best.nd rfl (Or.inl rfl) (pcall T.best_settings (ok_best_settings T) hr.m (pa_cons (pv 0) pa_nil))) (pss_cons (ps_if (pt_cmp (pc_isN (pv 1))) (pss_one (ps_ret (pe_lst (pa_cons (pgI T.g_UNFIT) pa_nil)))) pss_nil) (pss_one (ps_ret (pe_op op_cat (pe_lst (pa_cons (pe_ix (ix_tupK (K := K)) (pv 1) pe_int (fun _ _ => rfl)) pa_nil)) (pcall T.for_each_machine (ok_for_each_machine T) hr.m (pa_cons (pe_ix (ix_tupK (K := K)) (pv 1) pe_int (fun _ _ => rfl)) pa_nil))))))), ?_⟩
  refine ⟨_, rfl, s, w, rfl, hs, ok, fun v H1 s1 hv => ?_⟩
  have hb := best_eq ok
  have hw := waysC_ok ok.ms w.hopper
  generalize hbc : bestC w.harm w.bays (waysC w.machines w.hopper) = bc at *
  cases bc with
  | none =>
   obtain rfl : v = .non := hv
   refine ⟨_, rfl, _, rfl, by show 1 ≤ sizeLine; decide, fun r hr => q.one s1 hr ?_⟩
   have e : (chg w .best).2 = Km414.only (-33) := by unfold chg Km414.act; rw [hb]; rfl
   rw [e]; rfl
  | some pr =>
   obtain ⟨st, u⟩ := pr
   obtain ⟨a, c, rfl, h1, h2⟩ := hv
   obtain ⟨wy, hwy, est⟩ := best_mem hbc
   have lst : st.length = w.machines.length := by rw [est]; exact (hw.each wy hwy).2
   have er : (chg w .best).2 = ⟨((u : Nat) : Int), Km414.fill 5 st⟩ := by unfold chg Km414.act; rw [hb]; rfl
   refine ⟨_, rfl, _, rfl, ?_⟩
   refine ⟨_, rfl, a, _, _, _, rfl, rfl, h1, rfl, by show 1 ≤ sizeLine; decide, fun l2 hl2 => ?_⟩
   have s2 := Same.new (o := .lst [.int (u : Nat)]) hl2
   refine ⟨_, rfl, a, _, _, _, rfl, rfl, SqT.same s2 h1, rfl, true, c, st, rfl, SqT.same s2 h2, by omega, fun p3 H3 s3 hp3 => ?_⟩
   refine ⟨l2, p3, _, _, rfl, rfl, s3 _ _ upd_same, hp3, by rw [nts_len, fill_eq (by omega), List.length_append, List.length_replicate]; exact Nat.le_trans (show 1 + (st.length + (5 - st.length)) ≤ 6 by omega) (by decide), fun r hr => ?_⟩
   refine q.one ((s1.trans s2).trans s3) hr ?_
   rw [er, ansV_mk]; rfl
def OftenAt (K : PySem.W.Frag) (H : Hp) (v : V) : Option (Nat × Mix) → Prop
 | none => v = .non
 | some (n, m) => ∃ a c, v = .ref a ∧ SqT K H a [.int (n : Nat), .ref c] ∧ MixAt K H c m
def spAgain (t : Ad) (K : PySem.W.Frag) : Sp := fun vs H Q _ => ∃ (s : SA) (w : Works) (i : Nat), vs = [.ref s.p, .int (i : Nat)] ∧ StateAt t K H s w ∧ WOk w ∧ i < 6 ∧
 ∀ v H', Same H H' → OftenAt K H' v ((w.often i).map fun n => (n, w.again_ i n (w.bay i).mix)) → Q v H'
theorem ok_again_till_good (T : Txt K mg t) : FnOk P w K mg base CX0 5 t.again_till_good.f t.again_till_good.d ["state", "i"] (spAgain t K) := by
 refine T.again_till_good.fn.ok sc_again_till_good (fun vs H Q E h => ?_) (fun cdv A outer s H vs Q E hr h => ?_)
 ·obtain ⟨s, w, i, rfl, _⟩ := h
  rfl
 ·obtain ⟨s, w, i, rfl, hs, ok, hi6, q⟩ := h
  have b6 := ok.b6
  have n5 := ok.ms.n5
  have lb := pd_len hs.bays
  have hi : i < w.bays.length := by omega
  obtain ⟨a, ea, ma⟩ := pd_get' hs.bays (List.getElem?_eq_getElem hi)
  have obk := ok.bays _ (List.getElem_mem hi)
  generalize hx : w.bays[i] = x at *
  have ex : w.bays[i]? = some x := by rw [List.getElem?_eq_getElem hi, hx]
  have ebay := bay_at ex
  obtain ⟨dx, mx, ob, hmx⟩ := ma.ob
  rw [ebay] at q
  refine ⟨_, (pss_cons (ps_set (i := 2) sc_again_till_good.nd rfl (Or.inl rfl) (pe_ix (ix_listK (K := K)) (pfld (K := K) (pv 0)) (pv 1) (fun _ _ => rfl))) (pss_cons (ps_set (i := 3) sc_again_till_good.nd rfl (Or.inl rfl) (pfld (K := K) (pv 2))) (pss_cons (ps_for PassesOwn.never rfl (pi_range1 (by rfl) T.n_range (pa_cons (pe_op op_add (pgI T.g_MOST_TIMES) pe_int) pa_nil)) (pg_name (i := 4) sc_again_till_good.nd rfl (Or.inl rfl)) (pss_cons (ps_if (pt_val (pcall T.is_good (ok_is_good T) hr.m (pa_cons (pv 2) (pa_cons (pv 3) (pa_cons (pfld (K := K) (pv 0)) pa_nil))))) (pss_one (ps_ret (pe_tup (pa_cons (pv 4) (pa_cons (pv 3) pa_nil))))) pss_nil) (pss_one (ps_set (i := 3) sc_again_till_good.nd rfl (Or.inl rfl) (pe_ix (ix_listK (K := K)) (pcall T.put_through_alone (ok_put_through_alone T) hr.m (pa_cons (pfld (K := K) (pv 0)) (pa_cons (pv 3) pa_nil))) (pv 1) (fun _ _ => rfl)))))) (pss_one (ps_ret pe_non))))), ?_⟩
  refine ⟨_, rfl, s.p, _, s.dx, _, _, rfl, hs.ob, T.State.cl, T.na_State_bays, rfl, _, rfl, s.bl, _, _, _, rfl, rfl, SqL.of hs.bl, atN (refs_at ea), ?_⟩
  refine ⟨_, rfl, a, _, dx, _, _, rfl, ob, T.Bay.cl, T.na_Bay_mix, rfl, ?_⟩
  refine ⟨_, _, rfl, rfl, _, rfl, by omega, by omega, ?_⟩
  refine for_range (fun n σ H' => (∃ ma v4, σ = [some (.ref s.p), some (.int (i : Nat)), some (.ref a), some (.ref ma), v4] ∧ MixAt K H' ma (w.again_ i n x.mix)) ∧ Same H H' ∧ ∀ j, j < n → x.good w.harm (w.again_ i j x.mix) = false) ⟨⟨mx, _, rfl, hmx⟩, Same.refl H, fun j hj => absurd hj (Nat.not_lt_zero _)⟩ ?_ ?_
  ·rintro n σ H1 hn ⟨⟨m1, v4, rfl, hm1⟩, s1, hno⟩
   have hn : n < 21 := hn
   refine ⟨_, rfl, _, rfl, _, rfl, s.p, _, s.dx, _, _, rfl, s1 _ _ hs.ob, T.State.cl, T.na_State_harm, rfl, a, m1, x, _, w.harm, rfl, ma.same s1, hm1, obk.kind, obk.pure, _, rfl, ite2 (fun g => ?_) (fun g => ?_)⟩
   ·refine ⟨_, rfl, _, rfl, by show 2 ≤ sizeLine; decide, fun p hp => ?_⟩
    refine q _ _ (s1.trans (Same.new hp)) ?_
    have e : w.often i = some n := by unfold Km414.Works.often; rw [ebay]; exact find_some hn hno g
    rw [e]
    refine ⟨p, m1, rfl, SqT.of ?_, hm1.same (Same.new hp)⟩
    rw [upd_same]
    have e0 : (0 : Int) + ((n : Nat) : Int) = ((n : Nat) : Int) := by omega
    rw [e0]
   ·refine ⟨_, rfl, s.p, _, s.dx, _, _, rfl, s1 _ _ hs.ob, T.State.cl, T.na_State_machines, rfl, _, rfl, s.ml, m1, w.machines, _, rfl, (hs.same s1).machs, ok.ms, hm1, fun p H2 s2 hp hp2 => ?_⟩
    obtain ⟨ps, h1, h2⟩ := hp2
    obtain ⟨c, ec, hc⟩ := MixesAt.at_ (l := p) h2 (i := i) (by rw [putC_len]; omega)
    refine ⟨_, rfl, p, _, _, _, rfl, rfl, SqL.of h1, atN (refs_at ec), ?_⟩
    refine ⟨⟨c, _, rfl, ?_⟩, s1.trans s2, fun j hj => ?_⟩
    ·rw [again_succ, six_flow n5 ok.ms.belts hm1.2 hi6]; exact hc
    ·by_cases c : j = n
     ·rw [c]; simpa using g
     ·exact hno j (by omega)
  ·rintro σ H1 ⟨⟨m1, v4, rfl, hm1⟩, s1, hno⟩
   have hno : ∀ j, j < 21 → x.good w.harm (w.again_ i j x.mix) = false := hno
   refine q _ _ s1 ?_
   have e : w.often i = none := by unfold Km414.Works.often; rw [ebay]; exact find_none hno
   rw [e]; rfl
def spSoOften (t : Ad) (K : PySem.W.Frag) : Sp := fun vs H Q _ => ∃ (s : SA) (w : Works) (i : Nat), vs = [.ref s.p, .int (i : Nat)] ∧ StateAt t K H s w ∧ WOk w ∧ AskPost H (chg w (.often i)).2 Q
theorem ok_so_often (T : Txt K mg t) : FnOk P w K mg base CX0 6 t.so_often.f t.so_often.d ["state", "i"] (spSoOften t K) := by
 refine T.so_often.fn.ok sc_so_often (fun vs H Q E h => ?_) (fun cdv A outer s H vs Q E hr h => ?_)
 ·obtain ⟨s, w, i, rfl, _⟩ := h
  rfl
 ·obtain ⟨s, w, i, rfl, hs, ok, q⟩ := h
  refine ⟨_, (pss_cons (ps_if (pt_cmpR op_ge (pv 1) (pgI T.g_BAYS) (nomark _)) (pss_one (ps_ret (pe_lst (pa_cons (pgI T.g_MISSING) pa_nil)))) pss_nil) (pss_cons (ps_set (i := 2) sc_so_often.nd rfl (Or.inl rfl) (pcall T.again_till_good (ok_again_till_good T) hr.m (pa_cons (pv 0) (pa_cons (pv 1) pa_nil)))) (pss_cons (ps_if (pt_cmp (pc_isN (pv 2))) (pss_one (ps_ret (pe_lst (pa_cons (pgI T.g_UNFIT) pa_nil)))) pss_nil) (pss_one (ps_ret (pe_lst (pa_cons (pe_ix (ix_tupK (K := K)) (pv 2) pe_int (fun _ _ => rfl)) (pa_cons (pe_callB (cr_sumTK (K := K) rfl) (by rfl) T.n_sum boot_sum (pa_cons (pe_ix (ix_tupK (K := K)) (pv 2) pe_int (fun _ _ => rfl)) pa_nil)) pa_nil)))))))), ?_⟩
  refine ⟨_, rfl, _, _, rfl, rfl, _, rfl, ite2 (fun c => ?_) (fun c => ?_)⟩
  ·rw [decide_eq_true_eq] at c
   refine ⟨by show 1 ≤ sizeLine; decide, fun r hr => q.one (Same.refl H) hr ?_⟩
   have e : (chg w (.often i)).2 = Km414.only (-2) := by unfold chg Km414.act; simp only [if_pos (show Km414.BAYS ≤ i by unfold Km414.BAYS; omega)]
   rw [e]; rfl
  ·rw [decide_eq_true_eq] at c
   have ci : ¬ Km414.BAYS ≤ i := by unfold Km414.BAYS; omega
   refine ⟨_, rfl, _, rfl, s, w, i, rfl, hs, ok, by omega, fun v H1 s1 hv => ?_⟩
   cases ho : w.often i with
   | none =>
    rw [ho] at hv
    obtain rfl : v = .non := hv
    refine ⟨_, rfl, _, rfl, by show 1 ≤ sizeLine; decide, fun r hr => q.one s1 hr ?_⟩
    have e : (chg w (.often i)).2 = Km414.only (-33) := by unfold chg Km414.act; simp only [if_neg ci, ho]
    rw [e]; rfl
   | some n =>
    rw [ho] at hv
    obtain ⟨a, c, rfl, h1, h2⟩ := hv
    have er : (chg w (.often i)).2 = ⟨((n : Nat) : Int), [Km414.sum (w.again_ i n (w.bay i).mix)]⟩ := by unfold chg Km414.act; simp only [if_neg ci, ho]
    refine ⟨_, rfl, _, rfl, ?_⟩
    refine ⟨_, rfl, a, _, _, _, rfl, rfl, h1, rfl, _, rfl, a, _, _, _, rfl, rfl, h1, rfl, c, _, rfl, h2.sum, by show 2 ≤ sizeLine; decide, fun r hr => q.one s1 hr ?_⟩
    rw [isum, er, ansV_mk]; rfl
def spSoGoes (t : Ad) (K : PySem.W.Frag) : Sp := fun vs H Q _ => ∃ (s : SA) (w : Works) (k n : Nat), vs = [.ref s.p, .int (k : Nat), .int (n : Nat)] ∧ StateAt t K H s w ∧ WOk w ∧ AskPost H (chg w (.goes k n)).2 Q
theorem cut_to (xs : List V) (n : Nat) (h : n ≤ xs.length) : cutV xs none (some (n : Int)) = xs.take n := by
 unfold cutV
 have e1 : HT.sIx xs.length 0 none = 0 := rfl
 have e2 : HT.sIx xs.length xs.length (some (n : Int)) = n := by rw [HT.sIx_nat]; omega
 rw [e1, e2]; simp
theorem ok_so_goes (T : Txt K mg t) : FnOk P w K mg base CX0 5 t.so_goes.f t.so_goes.d ["state", "kind", "kg"] (spSoGoes t K) := by
 refine T.so_goes.fn.ok sc_so_goes (fun vs H Q E h => ?_) (fun cdv A outer s H vs Q E hr h => ?_)
 ·obtain ⟨s, w, k, n, rfl, _⟩ := h
  rfl
 ·obtain ⟨s, w, k, n, rfl, hs, ok, q⟩ := h
  have n5 := ok.ms.n5
  have lm := pd_len hs.mach
  have bad : (6 ≤ k ∨ 100000 < n) → ∀ r, H r = none → Q (.ref r) (upd H r (.lst [.int (-22)])) := fun c r hr => q.one (Same.refl H) hr (by
   have e : (chg w (.goes k n)).2 = Km414.only (-22) := by unfold chg Km414.act; simp only [if_pos (show Km414.KINDS ≤ k ∨ 100000 < n from c)]
   rw [e]; rfl)
  refine ⟨_, (pss_cons (ps_if (PW.pt (pw_or (pt_cmpR op_ge (pv 1) (pgI T.g_KINDS) (nomark _)) (pw_or1 (pt_cmpR op_gt (pv 2) (pgI T.g_MOST_ASKED_OF) (nomark _))))) (pss_one (ps_ret (pe_lst (pa_cons (pgI T.g_WRONG) pa_nil)))) pss_nil) (pss_cons (ps_set (i := 3) sc_so_goes.nd rfl (Or.inl rfl) (pcall T.put_through_alone (ok_put_through_alone T) hr.m (pa_cons (pfld (K := K) (pv 0)) (pa_cons (pcall T.only (ok_only T) hr.m (pa_cons (pv 1) (pa_cons (pv 2) pa_nil))) pa_nil)))) (pss_one (ps_ret (pe_op op_cat (pe_lst (pa_cons (pe_callB (call_lenK (K := K)) (by rfl) T.n_len PySem.boot_len (pa_cons (pfld (K := K) (pv 0)) pa_nil)) pa_nil)) (pe_lc rfl sc_so_goes.nd (plistI (K := K) (pe_slice (sl_listK (K := K)) (pv 3) po_none (po_some (pgI T.g_BAYS)))) (own := [("mix", 4)]) (blkOk_by (by rfl)) (fun _ _ _ _ _ => (pg_name (i := 4) sc_so_goes.nd rfl (Or.inl rfl) (Or.inr rfl))) (fun _ _ _ _ _ => pts_nil) (fun _ _ _ _ _ => (pe_ix (ix_tupK (K := K)) (pv 4) (pv 1) (fun _ _ => rfl))))))))), ?_⟩
  refine ⟨_, rfl, _, _, rfl, rfl, _, rfl, ?_⟩
  by_cases c1 : 6 ≤ k
  ·rw [decide_eq_true (show (6 : Int) ≤ ((k : Nat) : Int) by omega)]
   exact ⟨by show 1 ≤ sizeLine; decide, bad (.inl c1)⟩
  rw [decide_eq_false (show ¬ (6 : Int) ≤ ((k : Nat) : Int) by omega)]
  refine ⟨_, rfl, _, _, rfl, rfl, _, rfl, ?_⟩
  by_cases c2 : 100000 < n
  ·rw [decide_eq_true (show (100000 : Int) < ((n : Nat) : Int) by omega)]
   exact ⟨by show 1 ≤ sizeLine; decide, bad (.inr c2)⟩
  rw [decide_eq_false (show ¬ (100000 : Int) < ((n : Nat) : Int) by omega)]
  have hk : k < 6 := by omega
  have er : (chg w (.goes k n)).2 = ⟨((w.machines.length : Nat) : Int), ((putC w.machines w.sets (none6.set k n)).take 6).map fun m => m.getD k 0⟩ := by
   rw [← goes_eq n5 ok.ms.belts hk]
   unfold chg Km414.act; simp only [if_neg (show ¬ (Km414.KINDS ≤ k ∨ 100000 < n) by unfold Km414.KINDS; omega)]
  refine ⟨_, rfl, s.p, _, s.dx, _, _, rfl, hs.ob, T.State.cl, T.na_State_machines, rfl, _, rfl, _, rfl, k, n, rfl, hk, fun p1 H1 s1 hp1 => ?_⟩
  refine ⟨s.ml, p1, w.machines, _, rfl, (hs.same s1).machs, ok.ms, hp1, fun p2 H2 s2 hp2 hq2 => ?_⟩
  have hl := putC_len w.machines (w.machines.map fun x => x.now) (none6.set k n)
  have h6 := All6.putC w.machines w.sets (m := none6.set k n) (by simp [none6_len])
  change MixesAt K H2 p2 (putC w.machines w.sets (none6.set k n)) at hq2
  change (putC w.machines w.sets (none6.set k n)).length = _ at hl
  generalize putC w.machines w.sets (none6.set k n) = cm at *
  have s12 := s1.trans s2
  obtain ⟨ps, h1, h2⟩ := hq2
  have lp := pd_len h2
  refine ⟨_, rfl, s.p, _, s.dx, _, _, rfl, s12 _ _ hs.ob, T.State.cl, T.na_State_machines, rfl, s.ml, _, rfl, .inl (SqL.of (s12 _ _ hs.ml)), by show 1 ≤ sizeLine; decide, fun l3 hl3 => ?_⟩
  have s3 := Same.new (o := .lst [.int ((s.ms.map V.ref).length : Nat)]) hl3
  have s23 : Same H2 (upd H2 l3 (.lst [.int ((s.ms.map V.ref).length : Nat)])) := s3
  have hl3' : (upd H2 l3 (.lst [.int ((s.ms.map V.ref).length : Nat)])) l3 = _ := upd_same
  generalize upd H2 l3 (.lst [.int ((s.ms.map V.ref).length : Nat)]) = H3 at *
  refine ⟨_, rfl, _, rfl, p2, _, rfl, SqL.of (s3 _ _ h1), fun c hc => ?_⟩
  have e0 : cutV (ps.map V.ref) none (some 6) = (ps.take 6).map V.ref := by
   rw [List.map_take]; exact cut_to _ 6 (by rw [List.length_map, lp]; omega)
  rw [e0]
  refine ⟨c, rfl, ⟨_, SqL.of upd_same⟩, fun D hD => ?_⟩
  have sc := Same.new (o := .lst ((ps.take 6).map V.ref)) hc
  have s34 := s3.trans sc
  refine lc_listMap (xs := (ps.take 6).map V.ref) (fun i => V.int (((cm.getD i none6).getD k 0 : Nat) : Int)) hD (SqL.of upd_same) (by rw [List.length_map, List.length_take]; exact Nat.lt_of_le_of_lt (Nat.min_le_left _ _) (by decide)) ?_ ?_
  ·intro i x H5 R Z hx s5 kR
   obtain ⟨a, ea, rfl⟩ := ref_at hx
   have hi : i < 6 := by have := (List.getElem?_eq_some_iff.mp ea).1; rw [List.length_take] at this; omega
   rw [List.getElem?_take, if_pos hi] at ea
   obtain ⟨m, em, hm⟩ := pd_get h2 ea
   have e1 : cm.getD i none6 = m := by rw [List.getD_eq_getElem?_getD, em]; rfl
   rw [e1] at kR
   have hm5 := (hm.same s34).same s5
   exact ⟨rfl, _, rfl, _, rfl, a, _, _, _, rfl, rfl, hm5.1, atN (nts_at (by rw [hm5.2]; exact hk)), kR _ (Same.refl _)⟩
  ·intro H5 s5 hD2
   refine ⟨l3, D, _, _, rfl, rfl, s5 _ _ (sc _ _ hl3'), hD2, ?_, fun r hr => ?_⟩
   ·simp only [List.length_map, List.length_range, List.length_take, List.length_cons, List.length_nil]
    exact Nat.le_trans (show 0 + 1 + min 6 ps.length ≤ 7 by omega) (by decide)
   refine q.one ((s12.trans s34).trans s5) hr ?_
   rw [er, ansV_mk, List.length_map, lm, List.length_map, List.length_take, lp, hl]
   have e6 : min 6 (6 + w.machines.length) = 6 := by omega
   rw [e6]
   refine congrArg (V.int ((w.machines.length : Nat) : Int) :: ·) ?_
   unfold nts
   rw [List.map_map]
   refine (map_range_eq (by rw [List.length_map, List.length_take, hl]; omega) fun i x hx => ?_).symm
   rw [List.getElem?_map] at hx
   cases e : (cm.take 6)[i]? with
   | none => rw [e] at hx; cases hx
   | some m =>
    rw [e] at hx
    have hx := Option.some.inj hx
    have hi : i < 6 := by have := (List.getElem?_eq_some_iff.mp e).1; rw [List.length_take] at this; omega
    rw [List.getElem?_take, if_pos hi] at e
    have e1 : cm.getD i none6 = m := by rw [List.getD_eq_getElem?_getD, e]; rfl
    rw [e1, ← hx]; rfl
def spSoSplit (t : Ad) (K : PySem.W.Frag) : Sp := fun vs H Q _ => ∃ (s : SA) (w : Works) (k e q n : Nat), vs = [.ref s.p, .int (k : Nat), .int (e : Nat), .int (q : Nat), .int (n : Nat)] ∧ StateAt t K H s w ∧ WOk w ∧ AskPost H (chg w (.split k e q n)).2 Q
theorem set_getD {k : Nat} (hk : k < 6) (n : Nat) : (none6.set k n).getD k 0 = n := by
 rw [List.getD_eq_getElem?_getD, List.getElem?_set_self (by rw [none6_len]; exact hk)]; rfl
theorem ok_so_split (T : Txt K mg t) : FnOk P w K mg base CX0 2 t.so_split.f t.so_split.d ["state", "k", "side", "kind", "kg"] (spSoSplit t K) := by
 refine T.so_split.fn.ok sc_so_split (fun vs H Q E h => ?_) (fun cdv A outer s H vs Q E hr h => ?_)
 ·obtain ⟨s, w, k, e, c, n, rfl, _⟩ := h
  rfl
 ·obtain ⟨s, w, k, e, kd, n, rfl, hs, ok, q⟩ := h
  have lm := pd_len hs.mach
  refine ⟨_, (pss_cons (ps_if (pt_cmpR op_ge (pv 1) (pe_callB (call_lenK (K := K)) (by rfl) T.n_len PySem.boot_len (pa_cons (pfld (K := K) (pv 0)) pa_nil)) (nomark _)) (pss_one (ps_ret (pe_lst (pa_cons (pgI T.g_MISSING) pa_nil)))) pss_nil) (pss_cons (ps_if (PW.pt (pw_or (pt_cmpR op_gt (pv 2) pe_int (nomark _)) (pw_or (pt_cmpR op_ge (pv 3) (pgI T.g_KINDS) (nomark _)) (pw_or1 (pt_cmpR op_gt (pv 4) (pgI T.g_MOST_ASKED_OF) (nomark _)))))) (pss_one (ps_ret (pe_lst (pa_cons (pgI T.g_WRONG) pa_nil)))) pss_nil) (pss_cons (ps_set (i := 5) sc_so_split.nd rfl (Or.inl rfl) (pe_ix (ix_listK (K := K)) (pfld (K := K) (pv 0)) (pv 1) (fun _ _ => rfl))) (pss_cons (ps_set (i := 6) sc_so_split.nd rfl (Or.inl rfl) (pe_ix (ix_tupK (K := K)) (pcall T.parted (ok_parted T) hr.m (pa_cons (pcall T.only (ok_only T) hr.m (pa_cons (pv 3) (pa_cons (pv 4) pa_nil))) (pa_cons (pe_ix (ix_tupK (K := K)) (pfld (K := K) (pv 5)) (pfld (K := K) (pv 5)) (fun _ _ => rfl)) pa_nil))) (pv 3) (fun _ _ => rfl))) (pss_one (ps_ret (pe_lst (pa_cons (pe_ifExp (pt_cmpR op_eq (pv 2) pe_int (nomark _)) (pv 6) (pe_op op_sub (pv 4) (pv 6))) pa_nil)))))))), ?_⟩
  refine ⟨_, rfl, _, rfl, s.p, _, s.dx, _, _, rfl, hs.ob, T.State.cl, T.na_State_machines, rfl, s.ml, _, rfl, .inl (SqL.of hs.ml), _, _, rfl, rfl, _, rfl, ite2 (fun c => ?_) (fun c => ?_)⟩
  ·rw [decide_eq_true_eq, List.length_map, lm] at c
   refine ⟨by show 1 ≤ sizeLine; decide, fun r hr => q.one (Same.refl H) hr ?_⟩
   have er : (chg w (.split k e kd n)).2 = Km414.only (-2) := by unfold chg Km414.act; simp only [chg_m (show w.machines.length ≤ k by omega)]
   rw [er]; rfl
  ·rw [decide_eq_true_eq, List.length_map, lm] at c
   have hk : k < w.machines.length := by omega
   obtain ⟨a, ea, ma⟩ := pd_get' hs.mach (List.getElem?_eq_getElem hk)
   generalize hx : w.machines[k] = x at *
   have ex : w.machines[k]? = some x := by rw [List.getElem?_eq_getElem hk, hx]
   have oy := ok.ms.each k x ex
   obtain ⟨dx, sa, ba, ss, ob, q1, q2, q3⟩ := ma.ob
   have bad : (1 < e ∨ Km414.KINDS ≤ kd ∨ 100000 < n) → 1 ≤ sizeLine ∧ ∀ r, H r = none → Q (.ref r) (upd H r (.lst [.int (-22)])) := fun c => ⟨by decide, fun r hr => q.one (Same.refl H) hr (by
    have er : (chg w (.split k e kd n)).2 = Km414.only (-22) := by unfold chg Km414.act; simp only [ex, if_pos c]
    rw [er]; rfl)⟩
   refine ⟨_, rfl, _, _, rfl, rfl, _, rfl, ?_⟩
   by_cases c1 : 1 < e
   ·rw [decide_eq_true (show (1 : Int) < ((e : Nat) : Int) by omega)]
    exact bad (.inl c1)
   rw [decide_eq_false (show ¬ (1 : Int) < ((e : Nat) : Int) by omega)]
   refine ⟨_, rfl, _, _, rfl, rfl, _, rfl, ?_⟩
   by_cases c2 : 6 ≤ kd
   ·rw [decide_eq_true (show (6 : Int) ≤ ((kd : Nat) : Int) by omega)]
    exact bad (.inr (.inl c2))
   rw [decide_eq_false (show ¬ (6 : Int) ≤ ((kd : Nat) : Int) by omega)]
   refine ⟨_, rfl, _, _, rfl, rfl, _, rfl, ?_⟩
   by_cases c3 : 100000 < n
   ·rw [decide_eq_true (show (100000 : Int) < ((n : Nat) : Int) by omega)]
    exact bad (.inr (.inr c3))
   rw [decide_eq_false (show ¬ (100000 : Int) < ((n : Nat) : Int) by omega)]
   have hkd : kd < 6 := by omega
   have nb : ¬ (1 < e ∨ Km414.KINDS ≤ kd ∨ 100000 < n) := by unfold Km414.KINDS; omega
   obtain ⟨st, es, hst⟩ := pd_get' q2 (List.getElem?_eq_getElem oy.now)
   have est : x.settings[x.now]'oy.now = x.settings.getD x.now [] := by rw [List.getD_eq_getElem?_getD, List.getElem?_eq_getElem oy.now]; rfl
   have thou := oy.thou _ (List.getElem_mem oy.now)
   rw [est] at hst thou
   have er : (chg w (.split k e kd n)).2 = Km414.only (((if e = 0 then side0 (x.settings.getD x.now []) (none6.set kd n) else side1 (x.settings.getD x.now []) (none6.set kd n)).getD kd 0 : Nat) : Int) := by
    unfold chg Km414.act; simp only [ex, if_neg nb]
   have hle := side0_le _ (none6.set kd n) thou kd
   have hs1 := side1_getD (x.settings.getD x.now []) (none6.set kd n) hkd
   rw [set_getD hkd] at hle hs1
   refine ⟨_, rfl, s.p, _, s.dx, _, _, rfl, hs.ob, T.State.cl, T.na_State_machines, rfl, _, rfl, s.ml, _, _, _, rfl, rfl, SqL.of hs.ml, atN (refs_at ea), ?_⟩
   refine ⟨_, rfl, _, rfl, kd, n, rfl, hkd, fun p1 H1 s1 hp1 => ?_⟩
   refine ⟨_, rfl, a, _, dx, _, _, rfl, s1 _ _ ob, T.Machine.cl, T.na_Machine_settings, rfl, _, rfl, a, _, dx, _, _, rfl, s1 _ _ ob, T.Machine.cl, T.na_Machine_chosen, rfl, sa, _, _, _, rfl, rfl, SqT.same s1 q1, atN (refs_at es), true, true, p1, st, _, _, rfl, hp1.1, SqT.same s1 hst.1, hp1.2, hst.2, thou, fun p2 H2 s2 hp2 => ?_⟩
   refine ⟨_, rfl, p2, _, _, _, rfl, rfl, hp2.1, atN (nts_at (by rw [hp2.2]; exact hkd)), ?_⟩
   have s12 := s1.trans s2
   refine ⟨_, rfl, rfl, _, rfl, ite2 (fun c4 => ?_) (fun c4 => ?_)⟩
   ·simp only [decide_eq_true_eq, V.int.injEq] at c4
    have c4 : e = 0 := by omega
    refine ⟨_, rfl, by show 1 ≤ sizeLine; decide, fun r hr => q.one s12 hr ?_⟩
    rw [er, if_pos c4]; rfl
   ·simp only [decide_eq_true_eq, V.int.injEq] at c4
    have c4 : ¬ e = 0 := by omega
    refine ⟨_, rfl, _, rfl, _, _, rfl, rfl, by show 1 ≤ sizeLine; decide, fun r hr => q.one s12 hr ?_⟩
    rw [er, if_neg c4, hs1]
    show [V.int ((n - (side0 (x.settings.getD x.now []) (none6.set kd n)).getD kd 0 : Nat) : Int)] = _
    have : ((n - (side0 (x.settings.getD x.now []) (none6.set kd n)).getD kd 0 : Nat) : Int) = ((n : Nat) : Int) - (((side0 (x.settings.getD x.now []) (none6.set kd n)).getD kd 0 : Nat) : Int) := by omega
    rw [this]
def spSoHopper (t : Ad) (K : PySem.W.Frag) : Sp := fun vs H Q _ => ∃ (s : SA) (w : Works), vs = [.ref s.p] ∧ StateAt t K H s w ∧ WOk w ∧ AskPost H (chg w .hopper).2 Q
theorem ok_so_hopper (T : Txt K mg t) : FnOk P w K mg base CX0 2 t.so_hopper.f t.so_hopper.d ["state"] (spSoHopper t K) := by
 refine T.so_hopper.fn.ok sc_so_hopper (fun vs H Q E h => ?_) (fun cdv A outer s H vs Q E hr h => ?_)
 ·obtain ⟨s, w, rfl, _⟩ := h
  rfl
 ·obtain ⟨s, w, rfl, hs, ok, q⟩ := h
  refine ⟨_, (pss_one (ps_ret (pcall T.with_sum (ok_with_sum T) hr.m (pa_cons (pfld (K := K) (pv 0)) pa_nil)))), ?_⟩
  refine ⟨_, rfl, s.p, _, s.dx, _, _, rfl, hs.ob, T.State.cl, T.na_State_hopper, rfl, s.ha, _, rfl, hs.hop, fun p H1 s1 hn hp => ?_⟩
  refine q H1 p s1 ?_ hn
  rw [hp]
  have er : (chg w .hopper).2 = ⟨((Km414.sum w.hopper : Nat) : Int), w.hopper⟩ := rfl
  rw [er, ansV_mk]
def spSoIn (t : Ad) (K : PySem.W.Frag) : Sp := fun vs H Q _ => ∃ (s : SA) (w : Works) (i : Nat), vs = [.ref s.p, .int (i : Nat)] ∧ StateAt t K H s w ∧ WOk w ∧ AskPost H (chg w (.in_ i)).2 Q
theorem ok_so_in (T : Txt K mg t) : FnOk P w K mg base CX0 2 t.so_in.f t.so_in.d ["state", "i"] (spSoIn t K) := by
 refine T.so_in.fn.ok sc_so_in (fun vs H Q E h => ?_) (fun cdv A outer s H vs Q E hr h => ?_)
 ·obtain ⟨s, w, i, rfl, _⟩ := h
  rfl
 ·obtain ⟨s, w, i, rfl, hs, ok, q⟩ := h
  have b6 := ok.b6
  refine ⟨_, (pss_cons (ps_if (pt_cmpR op_ge (pv 1) (pgI T.g_BAYS) (nomark _)) (pss_one (ps_ret (pe_lst (pa_cons (pgI T.g_MISSING) pa_nil)))) pss_nil) (pss_one (ps_ret (pcall T.with_sum (ok_with_sum T) hr.m (pa_cons (pfld (K := K) (pe_ix (ix_listK (K := K)) (pfld (K := K) (pv 0)) (pv 1) (fun _ _ => rfl))) pa_nil))))), ?_⟩
  refine ⟨_, rfl, _, _, rfl, rfl, _, rfl, ite2 (fun c => ?_) (fun c => ?_)⟩
  ·rw [decide_eq_true_eq] at c
   refine ⟨by show 1 ≤ sizeLine; decide, fun r hr => q.one (Same.refl H) hr ?_⟩
   have e : (chg w (.in_ i)).2 = Km414.only (-2) := by unfold chg Km414.act; simp only [if_pos (show Km414.BAYS ≤ i by unfold Km414.BAYS; omega)]
   rw [e]; rfl
  ·rw [decide_eq_true_eq] at c
   have hi : i < w.bays.length := by omega
   have ci : ¬ Km414.BAYS ≤ i := by unfold Km414.BAYS; omega
   obtain ⟨a, ea, ma⟩ := pd_get' hs.bays (List.getElem?_eq_getElem hi)
   generalize hx : w.bays[i] = x at *
   have ex : w.bays[i]? = some x := by rw [List.getElem?_eq_getElem hi, hx]
   have ebay := bay_at ex
   obtain ⟨dx, mx, ob, hmx⟩ := ma.ob
   refine ⟨_, rfl, s.p, _, s.dx, _, _, rfl, hs.ob, T.State.cl, T.na_State_bays, rfl, _, rfl, s.bl, _, _, _, rfl, rfl, SqL.of hs.bl, atN (refs_at ea), a, _, dx, _, _, rfl, ob, T.Bay.cl, T.na_Bay_mix, rfl, mx, _, rfl, hmx, fun p H1 s1 hn hp => ?_⟩
   refine q H1 p s1 ?_ hn
   have er : (chg w (.in_ i)).2 = ⟨((Km414.sum x.mix : Nat) : Int), x.mix⟩ := by unfold chg Km414.act; simp only [if_neg ci, ebay]
   rw [hp, er, ansV_mk]
def spSoSets (t : Ad) (K : PySem.W.Frag) : Sp := fun vs H Q _ => ∃ (s : SA) (w : Works), vs = [.ref s.p] ∧ StateAt t K H s w ∧ WOk w ∧ AskPost H (chg w .sets).2 Q
theorem fold_snoc {β : Type} (f : Nat → β → Nat) (a : Nat) {l : List β} {i : Nat} {x : β} (h : l[i]? = some x) : (l.take (i + 1)).foldl f a = f ((l.take i).foldl f a) x := by
 rw [take_snoc h, List.foldl_append]; rfl
theorem ok_so_sets (T : Txt K mg t) : FnOk P w K mg base CX0 3 t.so_sets.f t.so_sets.d ["state"] (spSoSets t K) := by
 refine T.so_sets.fn.ok sc_so_sets (fun vs H Q E h => ?_) (fun cdv A outer s H vs Q E hr h => ?_)
 ·obtain ⟨s, w, rfl, _⟩ := h
  rfl
 ·obtain ⟨s, w, rfl, hs, ok, q⟩ := h
  have lm := pd_len hs.mach
  have n5 := ok.ms.n5
  refine ⟨_, (pss_cons (ps_set (i := 1) sc_so_sets.nd rfl (Or.inl rfl) pe_int) (pss_cons (ps_for PassesOwn.never rfl (plistI (K := K) (pfld (K := K) (pv 0))) (pg_name (i := 2) sc_so_sets.nd rfl (Or.inl rfl)) (pss_one (ps_aug (i := 1) sc_so_sets.nd rfl (Or.inl rfl) (pe_callB (call_lenK (K := K)) (by rfl) T.n_len PySem.boot_len (pa_cons (pfld (K := K) (pv 2)) pa_nil)) ip_mul))) (pss_one (ps_ret (pe_op op_cat (pe_lst (pa_cons (pv 1) pa_nil)) (pcall T.for_each_machine (ok_for_each_machine T) hr.m (pa_cons (pe_lc rfl sc_so_sets.nd (plistI (K := K) (pfld (K := K) (pv 0))) (own := [("machine", 2)]) (blkOk_by (by rfl)) (fun _ _ _ _ _ => (pg_name (i := 2) sc_so_sets.nd rfl (Or.inl rfl) (Or.inr rfl))) (fun _ _ _ _ _ => pts_nil) (fun _ _ _ _ _ => (pfld (K := K) (pv 2)))) pa_nil))))))), ?_⟩
  refine ⟨_, rfl, s.p, _, s.dx, _, _, rfl, hs.ob, T.State.cl, T.na_State_machines, rfl, s.ml, rfl, ⟨_, SqL.of hs.ml⟩, ?_⟩
  refine for_list (xs := s.ms.map V.ref) (fun i σ H' => (∃ v2, σ = [some (.ref s.p), some (.int (((w.machines.take i).foldl (fun n x => n * x.settings.length) 1 : Nat) : Int)), v2]) ∧ H' = H) ⟨⟨_, rfl⟩, rfl⟩ (fun i σ H' _ ⟨_, e⟩ => by rw [e]; exact SqL.of hs.ml) ?_ ?_
  ·rintro i x σ H1 hx ⟨⟨v2, rfl⟩, rfl⟩
   obtain ⟨a, ea, rfl⟩ := ref_at hx
   obtain ⟨y, ey, my⟩ := pd_get hs.mach ea
   have oy := ok.ms.each i y ey
   have s3 := oy.s3
   obtain ⟨dx, sa, ba, ss, ob, q1, q2, q3⟩ := my.ob
   have lss := pd_len q2
   refine ⟨_, rfl, _, rfl, a, _, dx, _, _, rfl, ob, T.Machine.cl, T.na_Machine_settings, rfl, sa, _, rfl, .inr q1, _, _, rfl, rfl, .inr ⟨by rw [List.length_map, lss]; omega, by rw [List.length_map, lss]; omega⟩, ?_⟩
   refine ⟨⟨some (.ref a), ?_⟩, rfl⟩
   rw [fold_snoc _ _ ey, List.length_map, lss]
   push_cast
   rfl
  ·rintro σ H1 ⟨⟨v2, rfl⟩, rfl⟩
   rw [List.length_map, lm, List.take_length, ← choices_len w]
   have er : (chg w .sets).2 = ⟨((w.choices.length : Nat) : Int), Km414.fill 5 w.sets⟩ := rfl
   refine ⟨_, rfl, by show 1 ≤ sizeLine; decide, fun l2 hl2 => ?_⟩
   have s2 := Same.new (o := .lst [.int ((w.choices.length : Nat) : Int)]) hl2
   have hl2' : (upd H1 l2 (.lst [.int ((w.choices.length : Nat) : Int)])) l2 = _ := upd_same
   generalize upd H1 l2 (.lst [.int ((w.choices.length : Nat) : Int)]) = H2 at *
   refine ⟨_, rfl, s.p, _, s.dx, _, _, rfl, s2 _ _ hs.ob, T.State.cl, T.na_State_machines, rfl, s.ml, rfl, ⟨_, SqL.of (s2 _ _ hs.ml)⟩, fun D hD => ?_⟩
   refine lc_listMap (xs := s.ms.map V.ref) (fun i => V.int ((w.sets.getD i 0 : Nat) : Int)) hD (SqL.of (s2 _ _ hs.ml)) (by rw [List.length_map, lm]; exact Nat.lt_of_le_of_lt n5 (by decide)) ?_ ?_
   ·intro i x H3 R Z hx s3 kR
    obtain ⟨a, ea, rfl⟩ := ref_at hx
    obtain ⟨y, ey, my⟩ := pd_get hs.mach ea
    obtain ⟨dx, sa, ba, ss, ob, -⟩ := ((my.same s2).same s3).ob
    have e1 : w.sets.getD i 0 = y.now := by unfold Km414.Works.sets; rw [List.getD_eq_getElem?_getD, List.getElem?_map, ey]; rfl
    rw [e1] at kR
    exact ⟨rfl, _, rfl, a, _, dx, _, _, rfl, ob, T.Machine.cl, T.na_Machine_chosen, rfl, kR _ (Same.refl _)⟩
   ·intro H3 s3 hD2
    have ls : w.sets.length = w.machines.length := by unfold Km414.Works.sets; rw [List.length_map]
    have eD : (List.range (s.ms.map V.ref).length).map (fun i => V.int ((w.sets.getD i 0 : Nat) : Int)) = nts w.sets := by
     rw [List.length_map, lm, ← ls]
     exact map_range_getD w.sets 0 (fun (n : Nat) => V.int ((n : Nat) : Int))
    rw [eD] at hD2
    refine ⟨false, D, w.sets, rfl, SqL.of hD2, by rw [ls]; exact n5, fun p4 H4 s4 hp4 => ?_⟩
    refine ⟨l2, p4, _, _, rfl, rfl, s4 _ _ (s3 _ _ hl2'), hp4, by rw [nts_len, fill_eq (by omega), List.length_append, List.length_replicate]; exact Nat.le_trans (show 1 + (w.sets.length + (5 - w.sets.length)) ≤ 6 by omega) (by decide), fun r hr => ?_⟩
    refine q.one ((s2.trans s3).trans s4) hr ?_
    rw [er, ansV_mk]; rfl
def spSoBelts (t : Ad) (K : PySem.W.Frag) : Sp := fun vs H Q _ => ∃ (s : SA) (w : Works), vs = [.ref s.p] ∧ StateAt t K H s w ∧ WOk w ∧ AskPost H (chg w .belts).2 Q
abbrev beltsOf (l : List Machine) : List Nat := l.flatMap fun x => [x.a, x.b]
theorem beltsOf_len : ∀ l : List Machine, (beltsOf l).length = 2 * l.length
 | [] => rfl
 | x :: l => by
  have := beltsOf_len l
  unfold beltsOf at this ⊢
  rw [List.flatMap_cons, List.length_append, this, List.length_cons, List.length_cons, List.length_cons, List.length_nil]; omega
theorem ok_so_belts (T : Txt K mg t) : FnOk P w K mg base CX0 2 t.so_belts.f t.so_belts.d ["state"] (spSoBelts t K) := by
 refine T.so_belts.fn.ok sc_so_belts (fun vs H Q E h => ?_) (fun cdv A outer s H vs Q E hr h => ?_)
 ·obtain ⟨s, w, rfl, _⟩ := h
  rfl
 ·obtain ⟨s, w, rfl, hs, ok, q⟩ := h
  have lm := pd_len hs.mach
  have n5 := ok.ms.n5
  refine ⟨_, (pss_cons (ps_set (i := 1) sc_so_belts.nd rfl (Or.inl rfl) (pe_lst pa_nil)) (pss_cons (ps_for PassesOwn.never rfl (plistI (K := K) (pfld (K := K) (pv 0))) (pg_name (i := 2) sc_so_belts.nd rfl (Or.inl rfl)) (pss_one (ps_expr (pe_bm PySem.F.plainAttrs_list PySem.F.slot_list_extend PySem.F.type_list_extend (mt_extendT (K := K)) (pv 1) (pa_cons (pfld (K := K) (pv 2)) pa_nil))))) (pss_one (ps_ret (pe_op op_cat (pe_lst (pa_cons (pe_callB (call_lenK (K := K)) (by rfl) T.n_len PySem.boot_len (pa_cons (pfld (K := K) (pv 0)) pa_nil)) pa_nil)) (pcall T.filled_up (ok_filled_up T) hr.m (pa_cons (pv 1) (pa_cons (pe_op op_mul pe_int (pgI T.g_MACHINES)) pa_nil)))))))), ?_⟩
  refine ⟨by show 0 ≤ sizeLine; decide, fun B hB => ?_⟩
  have sB : Same H (upd H B (.lst [])) := Same.new hB
  refine ⟨_, rfl, s.p, _, s.dx, _, _, rfl, sB _ _ hs.ob, T.State.cl, T.na_State_machines, rfl, s.ml, rfl, ⟨_, SqL.of (sB _ _ hs.ml)⟩, ?_⟩
  refine for_list (xs := s.ms.map V.ref) (fun i σ H' => (∃ v2, σ = [some (.ref s.p), some (.ref B), v2]) ∧ Same H H' ∧ H' B = some (.lst (nts (beltsOf (w.machines.take i))))) ⟨⟨_, rfl⟩, sB, upd_same⟩ (fun i σ H' _ ⟨_, e, _⟩ => SqL.of (e _ _ hs.ml)) ?_ ?_
  ·rintro i x σ H1 hx ⟨⟨v2, rfl⟩, s1, hB1⟩
   obtain ⟨a, ea, rfl⟩ := ref_at hx
   obtain ⟨y, ey, my⟩ := pd_get hs.mach ea
   obtain ⟨dx, sa, ba, ss, ob, q1, q2, q3⟩ := (my.same s1).ob
   have hl : (beltsOf (w.machines.take i)).length ≤ 10 := by rw [beltsOf_len, List.length_take]; omega
   refine ⟨_, rfl, .inl ⟨rfl, _, SqL.of hB1⟩, _, rfl, a, _, dx, _, _, rfl, ob, T.Machine.cl, T.na_Machine_belts, rfl, B, ba, _, _, rfl, rfl, hB1, q3, by rw [nts_len]; exact Nat.le_trans (Nat.add_le_add_right hl 2) (by decide), ?_⟩
   refine ⟨⟨_, rfl⟩, Same.newKeep hB s1, ?_⟩
   rw [upd_same, take_snoc ey]
   unfold beltsOf nts
   rw [List.flatMap_append, List.map_append]; rfl
  ·rintro σ H1 ⟨⟨v2, rfl⟩, s1, hB1⟩
   rw [List.length_map, lm, List.take_length] at hB1
   have er : (chg w .belts).2 = ⟨((w.machines.length : Nat) : Int), Km414.fill 10 (beltsOf w.machines)⟩ := rfl
   refine ⟨_, rfl, s.p, _, s.dx, _, _, rfl, s1 _ _ hs.ob, T.State.cl, T.na_State_machines, rfl, s.ml, _, rfl, .inl (SqL.of (s1 _ _ hs.ml)), by show 1 ≤ sizeLine; decide, fun l2 hl2 => ?_⟩
   rw [List.length_map, lm] at *
   have s2 := Same.new (o := .lst [.int ((w.machines.length : Nat) : Int)]) hl2
   have hl2' : (upd H1 l2 (.lst [.int ((w.machines.length : Nat) : Int)])) l2 = _ := upd_same
   generalize upd H1 l2 (.lst [.int ((w.machines.length : Nat) : Int)]) = H2 at *
   have bl := beltsOf_len w.machines
   refine ⟨_, rfl, _, _, rfl, rfl, .inl ⟨by decide, by decide⟩, false, B, _, 10, rfl, SqL.of (s2 _ _ hB1), by omega, by decide, fun p4 H4 s4 hp4 => ?_⟩
   refine ⟨l2, p4, _, _, rfl, rfl, s4 _ _ hl2', hp4, by rw [nts_len, fill_all (by omega), List.length_append, List.length_replicate]; exact Nat.le_trans (show 1 + ((beltsOf w.machines).length + (10 - (beltsOf w.machines).length)) ≤ 11 by omega) (by decide), fun r hr => ?_⟩
   refine q.one ((s1.trans s2).trans s4) hr ?_
   rw [er, ansV_mk]; rfl
theorem zip_at {w : Works} {s : SA} {H : Hp} (hs : StateAt t K H s w) {i : Nat} {e : Addr} (he : s.es[i]? = some e) : ∃ b m, w.bales[i]? = some b ∧ s.bm[i]? = some m ∧ BaleAt K H e (b, m) := by
 obtain ⟨⟨b, m⟩, h1, h2⟩ := pd_get hs.bales he
 rw [List.getElem?_zip_eq_some] at h1
 exact ⟨b, m, h1.1, h1.2, h2⟩
theorem es_len {w : Works} {s : SA} {H : Hp} (hs : StateAt t K H s w) : s.es.length = w.bales.length := by
 have := pd_len hs.bales
 rw [List.length_zip, hs.bml] at this
 omega
def spByBales (t : Ad) (K : PySem.W.Frag) : Sp := fun vs H Q _ => ∃ (s : SA) (w : Works), vs = [.ref s.p] ∧ StateAt t K H s w ∧ WOk w ∧ ∀ H', Same H H' → Q (.int ((Km414.sum (w.bales.map fun b => b.money) : Nat) : Int)) H'
theorem ok_brought_by_bales (T : Txt K mg t) : FnOk P w K mg base CX0 1 t.brought_by_bales.f t.brought_by_bales.d ["state"] (spByBales t K) := by
 refine T.brought_by_bales.fn.ok sc_brought_by_bales (fun vs H Q E h => ?_) (fun cdv A outer s H vs Q E hr h => ?_)
 ·obtain ⟨s, w, rfl, _⟩ := h
  rfl
 ·obtain ⟨s, w, rfl, hs, ok, q⟩ := h
  have le := es_len hs
  have hb := ok.bal
  refine ⟨_, (pss_one (ps_ret (pe_callB (cr_sumK (K := K) rfl) (by rfl) T.n_sum boot_sum (pa_cons (pe_lc rfl sc_brought_by_bales.nd (plistI (K := K) (pfld (K := K) (pv 0))) (own := [("bale", 1)]) (blkOk_by (by rfl)) (fun _ _ _ _ _ => (pg_name (i := 1) sc_brought_by_bales.nd rfl (Or.inl rfl) (Or.inr rfl))) (fun _ _ _ _ _ => pts_nil) (fun _ _ _ _ _ => (pe_ix (ix_tupK (K := K)) (pv 1) pe_int (fun _ _ => rfl)))) pa_nil)))), ?_⟩
  refine ⟨_, rfl, s.p, _, s.dx, _, _, rfl, hs.ob, T.State.cl, T.na_State_bales, rfl, s.sl, rfl, ⟨_, SqL.of hs.sl⟩, fun D hD => ?_⟩
  refine lc_listMap (xs := s.es.map V.ref) (fun i => V.int (((w.bales.map fun b => b.money).getD i 0 : Nat) : Int)) hD (SqL.of hs.sl) (by rw [List.length_map, le]; exact Nat.lt_of_le_of_lt hb (by decide)) ?_ ?_
  ·intro i x H3 R Z hx s3 kR
   obtain ⟨a, ea, rfl⟩ := ref_at hx
   obtain ⟨b, m, eb, em, ⟨c, h1, h2⟩, h3⟩ := zip_at hs ea
   have e1 : (w.bales.map fun b => b.money).getD i 0 = b.money := by rw [List.getD_eq_getElem?_getD, List.getElem?_map, eb]; rfl
   rw [e1] at kR
   exact ⟨rfl, _, rfl, a, _, _, _, rfl, rfl, SqT.same s3 h1, rfl, kR _ (Same.refl _)⟩
  ·intro H3 s3 hD2
   have eD : (List.range (s.es.map V.ref).length).map (fun i => V.int (((w.bales.map fun b => b.money).getD i 0 : Nat) : Int)) = ((w.bales.map fun b => b.money).map fun (n : Nat) => ((n : Nat) : Int)).map V.int := by
    have e2 : (s.es.map V.ref).length = (w.bales.map fun b => b.money).length := by rw [List.length_map, List.length_map, le]
    rw [e2, map_range_getD (w.bales.map fun b => b.money) 0 (fun (n : Nat) => V.int ((n : Nat) : Int))]; exact (List.map_map).symm
   rw [eD] at hD2
   refine ⟨D, _, rfl, SqL.of hD2, ?_⟩
   rw [isum]
   exact q H3 s3
def spSoBales (t : Ad) (K : PySem.W.Frag) : Sp := fun vs H Q _ => ∃ (s : SA) (w : Works), vs = [.ref s.p] ∧ StateAt t K H s w ∧ WOk w ∧ AskPost H (chg w .bales).2 Q
theorem ok_so_bales (T : Txt K mg t) : FnOk P w K mg base CX0 2 t.so_bales.f t.so_bales.d ["state"] (spSoBales t K) := by
 refine T.so_bales.fn.ok sc_so_bales (fun vs H Q E h => ?_) (fun cdv A outer s H vs Q E hr h => ?_)
 ·obtain ⟨s, w, rfl, _⟩ := h
  rfl
 ·obtain ⟨s, w, rfl, hs, ok, q⟩ := h
  have le := es_len hs
  have hb := ok.bal
  refine ⟨_, (pss_one (ps_ret (pe_lst (pa_cons (pe_callB (call_lenK (K := K)) (by rfl) T.n_len PySem.boot_len (pa_cons (pfld (K := K) (pv 0)) pa_nil)) (pa_cons (pe_callB (cr_sumK (K := K) rfl) (by rfl) T.n_sum boot_sum (pa_cons (pe_lc rfl sc_so_bales.nd (plistI (K := K) (pfld (K := K) (pv 0))) (own := [("bale", 1)]) (blkOk_by (by rfl)) (fun _ _ _ _ _ => (pg_name (i := 1) sc_so_bales.nd rfl (Or.inl rfl) (Or.inr rfl))) (fun _ _ _ _ _ => pts_nil) (fun _ _ _ _ _ => (pe_callB (cr_sumTK (K := K) rfl) (by rfl) T.n_sum boot_sum (pa_cons (pe_ix (ix_tupK (K := K)) (pv 1) pe_int (fun _ _ => rfl)) pa_nil)))) pa_nil)) (pa_cons (pcall T.brought_by_bales (ok_brought_by_bales T) hr.m (pa_cons (pv 0) pa_nil)) pa_nil)))))), ?_⟩
  refine ⟨_, rfl, s.p, _, s.dx, _, _, rfl, hs.ob, T.State.cl, T.na_State_bales, rfl, s.sl, _, rfl, .inl (SqL.of hs.sl), ?_⟩
  refine ⟨_, rfl, s.p, _, s.dx, _, _, rfl, hs.ob, T.State.cl, T.na_State_bales, rfl, s.sl, rfl, ⟨_, SqL.of hs.sl⟩, fun D hD => ?_⟩
  refine lc_listMap (xs := s.es.map V.ref) (fun i => V.int (((w.bales.map fun b => b.kg).getD i 0 : Nat) : Int)) hD (SqL.of hs.sl) (by rw [List.length_map, le]; exact Nat.lt_of_le_of_lt hb (by decide)) ?_ ?_
  ·intro i x H3 R Z hx s3 kR
   obtain ⟨a, ea, rfl⟩ := ref_at hx
   obtain ⟨b, m, eb, em, ⟨c, h1, h2⟩, h3⟩ := zip_at hs ea
   have e1 : (w.bales.map fun b => b.kg).getD i 0 = Km414.sum m := by rw [List.getD_eq_getElem?_getD, List.getElem?_map, eb]; exact h3
   rw [e1] at kR
   refine ⟨rfl, _, rfl, a, _, _, _, rfl, rfl, SqT.same s3 h1, rfl, c, _, rfl, (h2.same s3).sum, ?_⟩
   rw [isum]
   exact kR _ (Same.refl _)
  ·intro H3 s3 hD2
   have eD : (List.range (s.es.map V.ref).length).map (fun i => V.int (((w.bales.map fun b => b.kg).getD i 0 : Nat) : Int)) = ((w.bales.map fun b => b.kg).map fun (n : Nat) => ((n : Nat) : Int)).map V.int := by
    have e2 : (s.es.map V.ref).length = (w.bales.map fun b => b.kg).length := by rw [List.length_map, List.length_map, le]
    rw [e2, map_range_getD (w.bales.map fun b => b.kg) 0 (fun (n : Nat) => V.int ((n : Nat) : Int))]; exact (List.map_map).symm
   rw [eD] at hD2
   refine ⟨D, _, rfl, SqL.of hD2, ?_⟩
   rw [isum]
   refine ⟨_, rfl, s, w, rfl, hs.same s3, ok, fun H4 s4 => ?_⟩
   refine ⟨by show 3 ≤ sizeLine; decide, fun r hr => q.one (s3.trans s4) hr ?_⟩
   rw [List.length_map, le]; rfl
def spSoLook (t : Ad) (K : PySem.W.Frag) : Sp := fun vs H Q _ => ∃ (s : SA) (w : Works) (n : Nat), vs = [.ref s.p, .int (n : Nat)] ∧ StateAt t K H s w ∧ WOk w ∧ AskPost H (chg w (.look n)).2 Q
theorem ok_so_look (T : Txt K mg t) : FnOk P w K mg base CX0 1 t.so_look.f t.so_look.d ["state", "n"] (spSoLook t K) := by
 refine T.so_look.fn.ok sc_so_look (fun vs H Q E h => ?_) (fun cdv A outer s H vs Q E hr h => ?_)
 ·obtain ⟨s, w, n, rfl, _⟩ := h
  rfl
 ·obtain ⟨s, w, n, rfl, hs, ok, q⟩ := h
  have le := es_len hs
  refine ⟨_, (pss_cons (ps_if (pt_cmpR op_ge (pv 1) (pe_callB (call_lenK (K := K)) (by rfl) T.n_len PySem.boot_len (pa_cons (pfld (K := K) (pv 0)) pa_nil)) (nomark _)) (pss_one (ps_ret (pe_lst (pa_cons (pgI T.g_MISSING) pa_nil)))) pss_nil) (pss_cons (ps_set (i := 2) sc_so_look.nd rfl (Or.inl rfl) (pe_ix (ix_listK (K := K)) (pfld (K := K) (pv 0)) (pv 1) (fun _ _ => rfl))) (pss_one (ps_ret (pe_lst (pa_cons (pe_ix (ix_tupK (K := K)) (pv 2) pe_int (fun _ _ => rfl)) (pa_cons (pe_callB (cr_sumTK (K := K) rfl) (by rfl) T.n_sum boot_sum (pa_cons (pe_ix (ix_tupK (K := K)) (pv 2) pe_int (fun _ _ => rfl)) pa_nil)) (pa_cons (pe_ix (ix_tupK (K := K)) (pv 2) pe_int (fun _ _ => rfl)) pa_nil)))))))), ?_⟩
  refine ⟨_, rfl, _, rfl, s.p, _, s.dx, _, _, rfl, hs.ob, T.State.cl, T.na_State_bales, rfl, s.sl, _, rfl, .inl (SqL.of hs.sl), _, _, rfl, rfl, _, rfl, ite2 (fun c => ?_) (fun c => ?_)⟩
  ·rw [decide_eq_true_eq, List.length_map, le] at c
   refine ⟨by show 1 ≤ sizeLine; decide, fun r hr => q.one (Same.refl H) hr ?_⟩
   have e0 : w.bales[n]? = none := List.getElem?_eq_none (by omega)
   have er : (chg w (.look n)).2 = Km414.only (-2) := by unfold chg Km414.act; simp only [e0]
   rw [er]; rfl
  ·rw [decide_eq_true_eq, List.length_map, le] at c
   have hn : n < s.es.length := by omega
   have ea := List.getElem?_eq_getElem hn
   generalize s.es[n] = a at *
   obtain ⟨b, m, eb, em, ⟨cc, h1, h2⟩, h3⟩ := zip_at hs ea
   have h3 : b.kg = Km414.sum m := h3
   have er : (chg w (.look n)).2 = ⟨((b.bay : Nat) : Int), [b.kg, b.money]⟩ := by unfold chg Km414.act; simp only [eb]
   refine ⟨_, rfl, s.p, _, s.dx, _, _, rfl, hs.ob, T.State.cl, T.na_State_bales, rfl, _, rfl, s.sl, _, _, _, rfl, rfl, SqL.of hs.sl, atN (refs_at ea), ?_⟩
   refine ⟨_, rfl, a, _, _, _, rfl, rfl, h1, rfl, _, rfl, a, _, _, _, rfl, rfl, h1, rfl, cc, _, rfl, h2.sum, _, rfl, a, _, _, _, rfl, rfl, h1, rfl, by show 3 ≤ sizeLine; decide, fun r hr => q.one (Same.refl H) hr ?_⟩
   rw [isum, er, ansV_mk, h3]; rfl
def spSoWorth (t : Ad) (K : PySem.W.Frag) : Sp := fun vs H Q _ => ∃ (s : SA) (w : Works), vs = [.ref s.p] ∧ StateAt t K H s w ∧ WOk w ∧ AskPost H (chg w .worth).2 Q
theorem ok_so_worth (T : Txt K mg t) : FnOk P w K mg base CX0 3 t.so_worth.f t.so_worth.d ["state"] (spSoWorth t K) := by
 refine T.so_worth.fn.ok sc_so_worth (fun vs H Q E h => ?_) (fun cdv A outer s H vs Q E hr h => ?_)
 ·obtain ⟨s, w, rfl, _⟩ := h
  rfl
 ·obtain ⟨s, w, rfl, hs, ok, q⟩ := h
  refine ⟨_, (pss_one (ps_ret (pe_lst (pa_cons (pcall T.worth_of_all (ok_worth_of_all T) hr.m (pa_cons (pfld (K := K) (pv 0)) (pa_cons (pcall T.mixes_of (ok_mixes_of T) hr.m (pa_cons (pfld (K := K) (pv 0)) pa_nil)) (pa_cons (pfld (K := K) (pv 0)) pa_nil)))) pa_nil)))), ?_⟩
  refine ⟨_, rfl, s.p, _, s.dx, _, _, rfl, hs.ob, T.State.cl, T.na_State_bays, rfl, _, rfl, s.p, _, s.dx, _, _, rfl, hs.ob, T.State.cl, T.na_State_bays, rfl, s.bl, w.bays, rfl, hs.bayss, by rw [ok.b6]; decide, fun p H1 s1 hp hp1 => ?_⟩
  refine ⟨_, rfl, s.p, _, s.dx, _, _, rfl, s1 _ _ hs.ob, T.State.cl, T.na_State_harm, rfl, s.bl, p, w.bays, _, w.harm, rfl, (hs.same s1).bayss, ok.bays, hp1, fun H2 s2 => ?_⟩
  refine ⟨by show 1 ≤ sizeLine; decide, fun r hr => q.one (s1.trans s2) hr ?_⟩
  rw [worthH_now]; rfl
def spSoSums (t : Ad) (K : PySem.W.Frag) : Sp := fun vs H Q _ => ∃ (s : SA) (w : Works) (k : Nat), vs = [.ref s.p, .int (k : Nat)] ∧ StateAt t K H s w ∧ WOk w ∧ AskPost H (chg w (.sums k)).2 Q
theorem ok_so_sums (T : Txt K mg t) : FnOk P w K mg base CX0 1 t.so_sums.f t.so_sums.d ["state", "kind"] (spSoSums t K) := by
 refine T.so_sums.fn.ok sc_so_sums (fun vs H Q E h => ?_) (fun cdv A outer s H vs Q E hr h => ?_)
 ·obtain ⟨s, w, k, rfl, _⟩ := h
  rfl
 ·obtain ⟨s, w, k, rfl, hs, ok, q⟩ := h
  have le := es_len hs
  have lb := pd_len hs.bays
  have b6 := ok.b6
  have hbl := ok.bal
  refine ⟨_, (pss_cons (ps_if (pt_cmpR op_ge (pv 1) (pgI T.g_KINDS) (nomark _)) (pss_one (ps_ret (pe_lst (pa_cons (pgI T.g_WRONG) pa_nil)))) pss_nil) (pss_cons (ps_set (i := 2) sc_so_sums.nd rfl (Or.inl rfl) (pe_callB (cr_sumK (K := K) rfl) (by rfl) T.n_sum boot_sum (pa_cons (pe_lc rfl sc_so_sums.nd (plistI (K := K) (pfld (K := K) (pv 0))) (own := [("bay", 3)]) (blkOk_by (by rfl)) (fun _ _ _ _ _ => (pg_name (i := 3) sc_so_sums.nd rfl (Or.inl rfl) (Or.inr rfl))) (fun _ _ _ _ _ => pts_nil) (fun _ _ _ _ _ => (pe_ix (ix_tupK (K := K)) (pfld (K := K) (pv 3)) (pv 1) (fun _ _ => rfl)))) pa_nil))) (pss_cons (ps_set (i := 4) sc_so_sums.nd rfl (Or.inl rfl) (pe_callB (cr_sumK (K := K) rfl) (by rfl) T.n_sum boot_sum (pa_cons (pe_lc rfl sc_so_sums.nd (plistI (K := K) (pfld (K := K) (pv 0))) (own := [("bale", 5)]) (blkOk_by (by rfl)) (fun _ _ _ _ _ => (pg_name (i := 5) sc_so_sums.nd rfl (Or.inl rfl) (Or.inr rfl))) (fun _ _ _ _ _ => pts_nil) (fun _ _ _ _ _ => (pe_ix (ix_tupK (K := K)) (pe_ix (ix_tupK (K := K)) (pv 5) pe_int (fun _ _ => rfl)) (pv 1) (fun _ _ => rfl)))) pa_nil))) (pss_one (ps_ret (pe_lst (pa_cons (pe_ix (ix_tupK (K := K)) (pfld (K := K) (pv 0)) (pv 1) (fun _ _ => rfl)) (pa_cons (pe_ix (ix_tupK (K := K)) (pfld (K := K) (pv 0)) (pv 1) (fun _ _ => rfl)) (pa_cons (pv 2) (pa_cons (pv 4) (pa_cons (pe_ix (ix_tupK (K := K)) (pfld (K := K) (pv 0)) (pv 1) (fun _ _ => rfl)) pa_nil))))))))))), ?_⟩
  refine ⟨_, rfl, _, _, rfl, rfl, _, rfl, ite2 (fun c => ?_) (fun c => ?_)⟩
  ·rw [decide_eq_true_eq] at c
   refine ⟨by show 1 ≤ sizeLine; decide, fun r hr => q.one (Same.refl H) hr ?_⟩
   have e : (chg w (.sums k)).2 = Km414.only (-22) := by unfold chg Km414.act; simp only [if_pos (show Km414.KINDS ≤ k by unfold Km414.KINDS; omega)]
   rw [e]; rfl
  ·rw [decide_eq_true_eq] at c
   have hk : k < 6 := by omega
   have ck : ¬ Km414.KINDS ≤ k := by unfold Km414.KINDS; omega
   have er : (chg w (.sums k)).2 = ⟨((w.fed.getD k 0 : Nat) : Int), [w.hopper.getD k 0, Km414.sum (w.bays.map fun b => b.mix.getD k 0), w.baled.getD k 0, w.dumped.getD k 0]⟩ := by unfold chg Km414.act; simp only [if_neg ck]
   have ebl : w.baled.getD k 0 = Km414.sum (s.bm.map fun m => m.getD k 0) := by
    rw [hs.baled, fold_plus hk, ksum_eq]
    have : none6.getD k 0 = 0 := by
     show (List.replicate 6 0).getD k 0 = 0
     rw [List.getD_eq_getElem?_getD, List.getElem?_replicate]; split <;> rfl
    rw [this]; omega
   refine ⟨_, rfl, s.p, _, s.dx, _, _, rfl, hs.ob, T.State.cl, T.na_State_bays, rfl, s.bl, rfl, ⟨_, SqL.of hs.bl⟩, fun D hD => ?_⟩
   refine lc_listMap (xs := s.bs.map V.ref) (fun i => V.int (((w.bays.map fun b => b.mix.getD k 0).getD i 0 : Nat) : Int)) hD (SqL.of hs.bl) (by rw [List.length_map, lb, b6]; decide) ?_ ?_
   ·intro i x H3 R Z hx s3 kR
    obtain ⟨a, ea, rfl⟩ := ref_at hx
    obtain ⟨y, ey, my⟩ := pd_get hs.bays ea
    obtain ⟨dx, mx, ob, hmx⟩ := (my.same s3).ob
    have e1 : (w.bays.map fun b => b.mix.getD k 0).getD i 0 = y.mix.getD k 0 := by rw [List.getD_eq_getElem?_getD, List.getElem?_map, ey]; rfl
    rw [e1] at kR
    exact ⟨rfl, _, rfl, a, _, dx, _, _, rfl, ob, T.Bay.cl, T.na_Bay_mix, rfl, _, rfl, mx, _, _, _, rfl, rfl, hmx.1, atN (nts_at (by rw [hmx.2]; exact hk)), kR _ (Same.refl _)⟩
   intro H1 s1 hD1
   have eD : (List.range (s.bs.map V.ref).length).map (fun i => V.int (((w.bays.map fun b => b.mix.getD k 0).getD i 0 : Nat) : Int)) = ((w.bays.map fun b => b.mix.getD k 0).map fun (n : Nat) => ((n : Nat) : Int)).map V.int := by
    have e2 : (s.bs.map V.ref).length = (w.bays.map fun b => b.mix.getD k 0).length := by rw [List.length_map, List.length_map, lb]
    rw [e2, map_range_getD (w.bays.map fun b => b.mix.getD k 0) 0 (fun (n : Nat) => V.int ((n : Nat) : Int))]; exact (List.map_map).symm
   rw [eD] at hD1
   refine ⟨D, _, rfl, SqL.of hD1, ?_⟩
   rw [isum]
   refine ⟨_, rfl, s.p, _, s.dx, _, _, rfl, s1 _ _ hs.ob, T.State.cl, T.na_State_bales, rfl, s.sl, rfl, ⟨_, SqL.of (s1 _ _ hs.sl)⟩, fun D2 hD2 => ?_⟩
   refine lc_listMap (xs := s.es.map V.ref) (fun i => V.int (((s.bm.map fun m => m.getD k 0).getD i 0 : Nat) : Int)) hD2 (SqL.of (s1 _ _ hs.sl)) (by rw [List.length_map, le]; exact Nat.lt_of_le_of_lt hbl (by decide)) ?_ ?_
   ·intro i x H3 R Z hx s3 kR
    obtain ⟨a, ea, rfl⟩ := ref_at hx
    obtain ⟨b, m, eb, em, ⟨c, h1, h2⟩, h3⟩ := zip_at hs ea
    have s13 := s1.trans s3
    have e1 : (s.bm.map fun m => m.getD k 0).getD i 0 = m.getD k 0 := by rw [List.getD_eq_getElem?_getD, List.getElem?_map, em]; rfl
    rw [e1] at kR
    have h2 : MixAt K H c m := h2
    exact ⟨rfl, _, rfl, a, _, _, _, rfl, rfl, SqT.same s13 h1, rfl, _, rfl, c, _, _, _, rfl, rfl, (h2.same s13).1, atN (nts_at (by rw [h2.2]; exact hk)), kR _ (Same.refl _)⟩
   intro H3 s3 hD3
   have eD2 : (List.range (s.es.map V.ref).length).map (fun i => V.int (((s.bm.map fun m => m.getD k 0).getD i 0 : Nat) : Int)) = ((s.bm.map fun m => m.getD k 0).map fun (n : Nat) => ((n : Nat) : Int)).map V.int := by
    have e2 : (s.es.map V.ref).length = (s.bm.map fun m => m.getD k 0).length := by rw [List.length_map, List.length_map, le, hs.bml]
    rw [e2, map_range_getD (s.bm.map fun m => m.getD k 0) 0 (fun (n : Nat) => V.int ((n : Nat) : Int))]; exact (List.map_map).symm
   rw [eD2] at hD3
   refine ⟨D2, _, rfl, SqL.of hD3, ?_⟩
   rw [isum]
   have s13 := s1.trans s3
   have h3 := hs.same s13
   refine ⟨_, rfl, s.p, _, s.dx, _, _, rfl, h3.ob, T.State.cl, T.na_State_fed, rfl, _, rfl, s.fa, _, _, _, rfl, rfl, h3.fed.1, atN (nts_at (by rw [h3.fed.2]; exact hk)), ?_⟩
   refine ⟨_, rfl, s.p, _, s.dx, _, _, rfl, h3.ob, T.State.cl, T.na_State_hopper, rfl, _, rfl, s.ha, _, _, _, rfl, rfl, h3.hop.1, atN (nts_at (by rw [h3.hop.2]; exact hk)), ?_⟩
   refine ⟨_, rfl, _, rfl, _, rfl, s.p, _, s.dx, _, _, rfl, h3.ob, T.State.cl, T.na_State_dumped, rfl, _, rfl, s.da, _, _, _, rfl, rfl, h3.dum.1, atN (nts_at (by rw [h3.dum.2]; exact hk)), by show 5 ≤ sizeLine; decide, fun r hr => q.one s13 hr ?_⟩
   rw [er, ansV_mk, ebl]; rfl
def spSoMoney (t : Ad) (K : PySem.W.Frag) : Sp := fun vs H Q _ => ∃ (s : SA) (w : Works), vs = [.ref s.p] ∧ StateAt t K H s w ∧ WOk w ∧ AskPost H (chg w .money).2 Q
theorem ok_so_money (T : Txt K mg t) : FnOk P w K mg base CX0 2 t.so_money.f t.so_money.d ["state"] (spSoMoney t K) := by
 refine T.so_money.fn.ok sc_so_money (fun vs H Q E h => ?_) (fun cdv A outer s H vs Q E hr h => ?_)
 ·obtain ⟨s, w, rfl, _⟩ := h
  rfl
 ·obtain ⟨s, w, rfl, hs, ok, q⟩ := h
  refine ⟨_, (pss_one (ps_ret (pe_lst (pa_cons (pcall T.brought_by_bales (ok_brought_by_bales T) hr.m (pa_cons (pv 0) pa_nil)) (pa_cons (pfld (K := K) (pv 0)) pa_nil))))), ?_⟩
  refine ⟨_, rfl, s, w, rfl, hs, ok, fun H1 s1 => ?_⟩
  refine ⟨_, rfl, s.p, _, s.dx, _, _, rfl, s1 _ _ hs.ob, T.State.cl, T.na_State_cost, rfl, by show 2 ≤ sizeLine; decide, fun r hr => q.one s1 hr ?_⟩
  rfl
def tfs (a b : V) : List (Str × V) := [("numbers", a), ("at", b)]
structure TapeAt (t : Ad) (K : PySem.W.Frag) (H : Hp) (p dx l : Addr) (xs : List Int) (i : Nat) : Prop where
 ob : H p = some (.ins t.c_Tape dx (tfs (.ref l) (.int (i : Nat))))
 ls : SqL K H l (xs.map V.int)
 np : l ≠ p ∨ ∀ H1, SqL K H1 l (xs.map V.int)
theorem TapeAt.same {H H' : Hp} {p dx l : Addr} {xs : List Int} {i : Nat} (s : Same H H') (h : TapeAt t K H p dx l xs i) : TapeAt t K H' p dx l xs i := ⟨s _ _ h.ob, Same.seq s h.ls, h.np⟩
theorem TapeAt.lkf {H H' : Hp} {p dx l : Addr} {xs : List Int} {i : Nat} (k : KF (· = p) H H') (h : TapeAt t K H p dx l xs i) : SqL K H' l (xs.map V.int) := h.np.elim (fun z => SqL.kf k z h.ls) fun z => z H'
def spTInit (t : Ad) (K : PySem.W.Frag) : Sp := fun vs H Q _ => ∃ (p dx : Addr) (v : V), vs = [.ref p, v] ∧ H p = some (.ins t.c_Tape dx []) ∧ Q .non (upd H p (.ins t.c_Tape dx (tfs v (.int 0))))
theorem ok_Tape_init (T : Txt K mg t) : FnOk P w K mg base CX0 1 t.Tape_init.f t.Tape_init.d ["self", "numbers"] (spTInit t K) := by
 refine T.Tape_init.fn.ok sc_Tape_init (fun vs H Q E h => ?_) (fun cdv A outer s H vs Q E hr h => ?_)
 ·obtain ⟨p, dx, v, rfl, _⟩ := h
  rfl
 ·obtain ⟨p, dx, v, rfl, hp, q⟩ := h
  refine ⟨_, (pss_cons (psfld (K := K) (pv 0) (pv 1)) (pss_one (psfld (K := K) (pv 0) pe_int))), ?_⟩
  refine ⟨_, rfl, _, rfl, p, _, dx, _, rfl, hp, T.Tape.cl, T.na_Tape_numbers, by show 0 < 1000; decide, ?_⟩
  refine ⟨_, rfl, p, _, dx, _, rfl, upd_same, T.Tape.cl, T.na_Tape_at, by show 1 < 1000; decide, ?_⟩
  rw [upd_upd]
  exact q
def spTEnded (t : Ad) (K : PySem.W.Frag) : Sp := fun vs H Q _ => ∃ (p dx l : Addr) (xs : List Int) (i : Nat), vs = [.ref p] ∧ TapeAt t K H p dx l xs i ∧ Q (.bl (decide (xs.length ≤ i))) H
theorem ok_Tape_ended (T : Txt K mg t) : FnOk P w K mg base CX0 1 t.Tape_ended.f t.Tape_ended.d ["self"] (spTEnded t K) := by
 refine T.Tape_ended.fn.ok sc_Tape_ended (fun vs H Q E h => ?_) (fun cdv A outer s H vs Q E hr h => ?_)
 ·obtain ⟨p, dx, l, xs, i, rfl, _⟩ := h
  rfl
 ·obtain ⟨p, dx, l, xs, i, rfl, h, q⟩ := h
  refine ⟨_, (pss_one (ps_ret (pe_cmpR op_ge (pfld (K := K) (pv 0)) (pe_callB (call_lenK (K := K)) (by rfl) T.n_len PySem.boot_len (pa_cons (pfld (K := K) (pv 0)) pa_nil)) (nomark _)))), ?_⟩
  refine ⟨_, rfl, p, _, dx, _, _, rfl, h.ob, T.Tape.cl, T.na_Tape_at, rfl, _, rfl, p, _, dx, _, _, rfl, h.ob, T.Tape.cl, T.na_Tape_numbers, rfl, l, _, rfl, .inl h.ls, _, _, rfl, rfl, ?_⟩
  dsimp only
  rw [List.length_map]
  have e : decide (((xs.length : Nat) : Int) ≤ ((i : Nat) : Int)) = decide (xs.length ≤ i) := decide_eq_decide.mpr (by omega)
  rw [e]
  exact q
def spTTake (t : Ad) (K : PySem.W.Frag) : Sp := fun vs H Q _ => ∃ (p dx l : Addr) (xs : List Int) (i n : Nat), vs = [.ref p, .int (n : Nat)] ∧ TapeAt t K H p dx l xs i ∧ i + n ≤ xs.length ∧
 ∀ H' r, KF (· = p) H H' → TapeAt t K H' p dx l xs (i + n) → H r = none → H' r = some (.lst (((xs.drop i).take n).map V.int)) → Q (.ref r) H'
theorem cut_mid (xs : List V) (a b : Nat) (h : a ≤ b) (hb : b ≤ xs.length) : cutV xs (some (a : Int)) (some (b : Int)) = (xs.drop a).take (b - a) := by
 unfold cutV
 have e1 : HT.sIx xs.length 0 (some (a : Int)) = a := by rw [HT.sIx_nat]; omega
 have e2 : HT.sIx xs.length xs.length (some (b : Int)) = b := by rw [HT.sIx_nat]; omega
 rw [e1, e2]
theorem ok_Tape_take (T : Txt K mg t) : FnOk P w K mg base CX0 1 t.Tape_take.f t.Tape_take.d ["self", "length"] (spTTake t K) := by
 refine T.Tape_take.fn.ok sc_Tape_take (fun vs H Q E h => ?_) (fun cdv A outer s H vs Q E hr h => ?_)
 ·obtain ⟨p, dx, l, xs, i, n, rfl, _⟩ := h
  rfl
 ·obtain ⟨p, dx, l, xs, i, n, rfl, h, hn, q⟩ := h
  refine ⟨_, (pss_cons (psfldaug (K := K) (pv 0) (pv 1) in_add) (pss_one (ps_ret (pe_slice (sl_listK (K := K)) (pfld (K := K) (pv 0)) (po_some (pe_op op_sub (pfld (K := K) (pv 0)) (pv 1))) (po_some (pfld (K := K) (pv 0))))))), ?_⟩
  refine ⟨_, rfl, p, _, dx, _, _, rfl, h.ob, T.Tape.cl, T.na_Tape_at, rfl, _, rfl, _, _, rfl, rfl, dx, _, h.ob, by show 2 < 1000; decide, ?_⟩
  have k1 : KF (· = p) H (upd H p (.ins t.c_Tape dx (tfs (.ref l) (.int ((i : Nat) + (n : Nat)))))) := KF.upd rfl
  have ob1 : (upd H p (.ins t.c_Tape dx (tfs (.ref l) (.int ((i : Nat) + (n : Nat)))))) p = some (.ins t.c_Tape dx (tfs (.ref l) (.int ((i : Nat) + (n : Nat))))) := upd_same
  have ls1 := h.lkf k1
  refine ⟨_, rfl, p, _, dx, _, _, rfl, ob1, T.Tape.cl, T.na_Tape_numbers, rfl, _, rfl, p, _, dx, _, _, rfl, ob1, T.Tape.cl, T.na_Tape_at, rfl, _, rfl, _, _, rfl, rfl, _, rfl, _, rfl, p, _, dx, _, _, rfl, ob1, T.Tape.cl, T.na_Tape_at, rfl, _, rfl, l, _, rfl, ls1, fun r hr => ?_⟩
  have e1 : ((i : Nat) : Int) + ((n : Nat) : Int) - ((n : Nat) : Int) = ((i : Nat) : Int) := by omega
  have e2 : ((i : Nat) : Int) + ((n : Nat) : Int) = ((i + n : Nat) : Int) := by omega
  have ec : cutV (xs.map V.int) (some (((i : Nat) : Int) + ((n : Nat) : Int) - ((n : Nat) : Int))) (some (((i : Nat) : Int) + ((n : Nat) : Int))) = ((xs.drop i).take n).map V.int := by
   rw [e1, e2, cut_mid _ _ _ (by omega) (by rw [List.length_map]; exact hn), List.map_take, List.map_drop]
   congr 1
   omega
  have hr : (upd H p (.ins t.c_Tape dx (tfs (.ref l) (.int ((i : Nat) + (n : Nat)))))) r = none := hr
  dsimp only
  rw [ec]
  have hrp : r ≠ p := fun z => by rw [z, ob1] at hr; cases hr
  have s2 := Same.new (o := .lst (((xs.drop i).take n).map V.int)) hr
  refine q _ r (k1.trans (KF.same s2)) ⟨?_, Same.seq s2 ls1, h.np⟩ ?_ upd_same
  ·have := s2 _ _ ob1
   rw [e2] at this
   exact this
  ·cases e : H r with
   | none => rfl
   | some o => rw [k1 r o e hrp] at hr; cases hr
def spTNumber (t : Ad) (K : PySem.W.Frag) : Sp := fun vs H Q _ => ∃ (p dx l : Addr) (xs : List Int) (i : Nat) (z : Int), vs = [.ref p] ∧ TapeAt t K H p dx l xs i ∧ xs[i]? = some z ∧
 ∀ H', KF (· = p) H H' → TapeAt t K H' p dx l xs (i + 1) → Q (.int z) H'
theorem ok_Tape_number (T : Txt K mg t) : FnOk P w K mg base CX0 2 t.Tape_number.f t.Tape_number.d ["self"] (spTNumber t K) := by
 refine T.Tape_number.fn.ok sc_Tape_number (fun vs H Q E h => ?_) (fun cdv A outer s H vs Q E hr h => ?_)
 ·obtain ⟨p, dx, l, xs, i, z, rfl, _⟩ := h
  rfl
 ·obtain ⟨p, dx, l, xs, i, z, rfl, h, hz, q⟩ := h
  have hi : i < xs.length := (List.getElem?_eq_some_iff.mp hz).1
  refine ⟨_, (pss_one (ps_ret (pe_ix (ix_listK (K := K)) (pmeth T.Tape T.Tape_take (ok_Tape_take T) hr.m (pv 0) (pa_cons pe_int pa_nil)) pe_int (fun _ _ => rfl)))), ?_⟩
  refine ⟨_, rfl, p, dx, _, rfl, h.ob, rfl, p, dx, l, xs, i, 1, rfl, h, by omega, fun H' r k h' hr hr' => ?_⟩
  have e : (xs.drop i).take 1 = [z] := by
   rw [List.drop_eq_getElem_cons hi]
   have : xs[i] = z := by rw [List.getElem?_eq_getElem hi] at hz; exact Option.some.inj hz
   rw [this]; rfl
  rw [e] at hr'
  exact ⟨r, _, _, _, rfl, rfl, SqL.of hr', rfl, q H' k h'⟩
def spTRow (t : Ad) (K : PySem.W.Frag) : Sp := fun vs H Q _ => ∃ (p dx l : Addr) (xs : List Int) (i n : Nat), vs = [.ref p] ∧ TapeAt t K H p dx l xs i ∧ xs[i]? = some ((n : Nat) : Int) ∧ i + 1 + n ≤ xs.length ∧
 ∀ H' r, KF (· = p) H H' → TapeAt t K H' p dx l xs (i + 1 + n) → H r = none → H' r = some (.lst (((xs.drop (i + 1)).take n).map V.int)) → Q (.ref r) H'
theorem ok_Tape_row (T : Txt K mg t) : FnOk P w K mg base CX0 3 t.Tape_row.f t.Tape_row.d ["self"] (spTRow t K) := by
 refine T.Tape_row.fn.ok sc_Tape_row (fun vs H Q E h => ?_) (fun cdv A outer s H vs Q E hr h => ?_)
 ·obtain ⟨p, dx, l, xs, i, n, rfl, _⟩ := h
  rfl
 ·obtain ⟨p, dx, l, xs, i, n, rfl, h, hz, hn, q⟩ := h
  refine ⟨_, (pss_one (ps_ret (pmeth T.Tape T.Tape_take (ok_Tape_take T) hr.m (pv 0) (pa_cons (pmeth0 T.Tape T.Tape_number (ok_Tape_number T) hr.m (pv 0)) pa_nil)))), ?_⟩
  refine ⟨_, rfl, p, dx, _, rfl, h.ob, rfl, _, rfl, p, dx, _, rfl, h.ob, rfl, p, dx, l, xs, i, _, rfl, h, hz, fun H1 k1 h1 => ?_⟩
  refine ⟨p, dx, l, xs, i + 1, n, rfl, h1, hn, fun H' r k h' hr hr' => q H' r (k1.trans k) h' ?_ hr'⟩
  cases e : H r with
  | none => rfl
  | some o => rw [k1 r o e (fun z => by rw [z, h1.ob] at hr; cases hr)] at hr; cases hr
theorem kf_free {H H' : Hp} {p r : Addr} (k : KF (· = p) H H') (hp : ∃ o, H' p = some o) (hr : H' r = none) : H r = none := by
 obtain ⟨o, ho⟩ := hp
 cases e : H r with
 | none => rfl
 | some o' => rw [k r o' e (fun z => by rw [z, ho] at hr; cases hr)] at hr; cases hr
def RowAt (H : Hp) (a : Addr) (r : List Int) : Prop := H a = some (.lst (r.map V.int))
abbrev SH : List (List Int) := [[1, 0], [1, 1], [1, 1], [2, 0], [3, 0], [5, 0], [0, 1], [0, 0], [1, 0], [2, 0], [1, 0], [0, 0], [1, 0], [0, 0], [1, 0], [0, 0], [1, 0], [2, 0], [4, 0], [0, 0], [1, 0], [0, 0], [0, 0], [0, 0], [1, 0], [0, 0], [1, 0], [0, 0], [0, 0], [0, 0], [0, 0]]
def spTold (t : Ad) (K : PySem.W.Frag) (L : List (List Int)) : Sp := fun vs H Q _ => ∃ (p dx l : Addr) (xs : List Int) (i c n k : Nat) (rs : List (List Int)) (tl : List Int), vs = [.ref p, .int (c : Nat)] ∧ TapeAt t K H p dx l xs i ∧ L[c]? = some [((n : Nat) : Int), ((k : Nat) : Int)] ∧ k ≤ 1 ∧
 i + n ≤ xs.length ∧ PyFlat.rows k (xs.drop (i + n)) = some (rs, tl) ∧ xs.length ≤ 30000 ∧
 ∀ H' r ras j, KF (· = p) H H' → TapeAt t K H' p dx l xs j → xs.drop j = tl → j ≤ xs.length → i ≤ j → H' r = some (.lst (((xs.drop i).take n).map V.int ++ ras.map V.ref)) → Paired (RowAt H') ras rs → (∀ a ∈ ras, H a = none) → H r = none → Q (.ref r) H'
theorem ok_told_behind (T : Txt K mg t) : FnOk P w K mg base CX0 4 t.told_behind.f t.told_behind.d ["tape", "call"] (spTold t K SH) := by
 refine T.told_behind.fn.ok sc_told_behind (fun vs H Q E h => ?_) (fun cdv A outer s H vs Q E hr h => ?_)
 ·obtain ⟨p, dx, l, xs, i, c, n, k, rs, tl, rfl, _⟩ := h
  rfl
 ·obtain ⟨p, dx, l, xs, i, c, n, k, rs, tl, rfl, h, hc, hk, hn, hr0, hx, q⟩ := h
  obtain ⟨sa, esa, hsa⟩ := pd_get' T.qe_SHAPES hc
  refine ⟨_, (pss_cons (ps_set (i := 2) sc_told_behind.nd rfl (Or.inl rfl) (pe_ix (ix_tupK (K := K)) (pgR T.g_SHAPES) (pv 1) (fun _ _ => rfl))) (pss_cons (ps_set (i := 3) sc_told_behind.nd rfl (Or.inl rfl) (pmeth T.Tape T.Tape_take (ok_Tape_take T) hr.m (pv 0) (pa_cons (pe_ix (ix_tupK (K := K)) (pv 2) pe_int (fun _ _ => rfl)) pa_nil))) (pss_cons (ps_setLc (i := 4) rfl sc_told_behind.nd rfl rfl (sw_true rfl rfl rfl rfl) (pi_range1 (by rfl) T.n_range (pa_cons (pe_ix (ix_tupK (K := K)) (pv 2) pe_int (fun _ _ => rfl)) pa_nil)) (own := [("place", 5)]) (blkOk_by (by rfl)) (fun _ _ _ _ _ => (pg_name (i := 5) sc_told_behind.nd rfl (Or.inl rfl) (Or.inr rfl))) (fun _ _ _ _ _ => pts_nil) (fun _ _ _ _ _ => (pmeth0 T.Tape T.Tape_row (ok_Tape_row T) hr.m (pv 0)))) (pss_one (ps_ret (pe_op op_cat (pv 3) (pv 4))))))), ?_⟩
  refine ⟨_, rfl, t.c_SHAPES, _, _, _, rfl, rfl, T.q_SHAPES.sq H, atN (refs_at esa), ?_⟩
  refine ⟨_, rfl, p, dx, _, rfl, h.ob, rfl, _, rfl, sa, _, _, _, rfl, rfl, hsa.sq H, rfl, p, dx, l, xs, i, n, rfl, h, hn, fun H1 r1 k1 h1 hr1 hr1' => ?_⟩
  refine ⟨_, rfl, sa, _, _, _, rfl, rfl, hsa.sq H1, rfl, _, rfl, by omega, by omega, fun D hD => ?_⟩
  have e1 : (((k : Nat) : Int)).toNat = k := by omega
  rw [e1]
  have hDp : D ≠ p := fun z => by rw [z, h1.ob] at hD; cases hD
  have hDr : D ≠ r1 := fun z => by rw [z, hr1'] at hD; cases hD
  refine lc_range (n := k) (fun j H' => KF (· = p) H1 H' ∧ ∃ ras q', TapeAt t K H' p dx l xs q' ∧ H' D = some (.lst (ras.map V.ref)) ∧ H' r1 = some (.lst (((xs.drop i).take n).map V.int)) ∧ (∀ a ∈ ras, H1 a = none) ∧
    ((j = 0 ∧ ras = [] ∧ q' = i + n) ∨ (j = 1 ∧ Paired (RowAt H') ras rs ∧ xs.drop q' = tl ∧ q' ≤ xs.length ∧ i ≤ q'))) ?_ ?_ ?_
  ·refine ⟨KF.same (Same.new hD), [], i + n, h1.same (Same.new hD), upd_same, (Same.new hD) _ _ hr1', fun a ha => by simp at ha, .inl ⟨rfl, rfl, rfl⟩⟩
  ·rintro j H2 hj ⟨k2, ras, q', h2, hD2, hr2, fr, hcase⟩
   have j0 : j = 0 := by omega
   have k1' : k = 1 := by omega
   subst j0
   subst k1'
   rcases hcase with ⟨_, rfl, rfl⟩ | ⟨z, _⟩
   ·obtain ⟨m, q0, e0, hm, exs, etl⟩ := rows1 hr0
    have hlt : i + n < xs.length := by
     rcases Nat.lt_or_ge (i + n) xs.length with z | z
     ·exact z
     ·rw [List.drop_eq_nil_of_le z] at e0; cases e0
    have ez : xs[i + n]? = some ((m : Nat) : Int) := by
     rw [List.drop_eq_getElem_cons hlt] at e0
     injection e0 with e0 _
     rw [List.getElem?_eq_getElem hlt, e0]
    have eq0 : q0 = xs.drop (i + n + 1) := by
     rw [List.drop_eq_getElem_cons hlt] at e0
     injection e0 with _ e0
     exact e0.symm
    have hm2 : i + n + 1 + m ≤ xs.length := by rw [eq0, List.length_drop] at hm; omega
    refine ⟨rfl, _, rfl, p, dx, _, rfl, h2.ob, rfl, p, dx, l, xs, i + n, m, rfl, h2, ez, hm2, fun H3 a k3 h3 ha ha' => ?_⟩
    have hD3 := k3 _ _ hD2 hDp
    have hr1p : r1 ≠ p := fun z => by rw [z, h1.ob] at hr1'; cases hr1'
    have hr3 := k3 _ _ hr2 hr1p
    have haD : a ≠ D := fun z => by rw [z, hD2] at ha; cases ha
    have kk : KF (· = p) H1 (upd H3 D (.lst ([] ++ [V.ref a]))) := fun c o hc hcp => by
     rw [upd_ne (ne_of_none hc hD)]; exact (k2.trans k3) c o hc hcp
    refine ⟨_, hD3, by show 0 < sizeLine; decide, kk, [a], i + n + 1 + m, ⟨by rw [upd_ne (Ne.symm hDp)]; exact h3.ob, h1.lkf kk, h3.np⟩, upd_same, ?_, ?_, .inr ⟨rfl, ?_, ?_, hm2, by omega⟩⟩
    ·rw [upd_ne (Ne.symm hDr)]; exact hr3
    ·intro c hc
     rw [List.mem_singleton.mp hc]
     exact kf_free k2 ⟨_, h2.ob⟩ ha
    ·rw [exs, eq0]
     exact .cons (by unfold RowAt; rw [upd_ne haD]; exact ha') .nil
    ·rw [etl, eq0, List.drop_drop]
   ·omega
  ·rintro H2 ⟨k2, ras, q', h2, hD2, hr2, fr, hcase⟩
   have lr : ras.length ≤ 1 := by
    rcases hcase with ⟨_, rfl, _⟩ | ⟨z, z2, _⟩
    ·simp
    ·have k1' : k = 1 := z
     subst k1'
     obtain ⟨m, q0, e0, hm, exs, etl⟩ := rows1 hr0
     rw [pd_len z2, exs]; exact Nat.le_refl 1
   refine ⟨_, rfl, _, rfl, r1, D, _, _, rfl, rfl, hr2, hD2, ?_, fun r hr => ?_⟩
   ·rw [List.length_map, List.length_map, List.length_take]
    exact Nat.le_trans (show min n (xs.drop i).length + ras.length ≤ 30001 by omega) (by decide)
   ·have s3 := Same.new (o := .lst (((xs.drop i).take n).map V.int ++ ras.map V.ref)) hr
    have kk : KF (· = p) H (upd H2 r (.lst (((xs.drop i).take n).map V.int ++ ras.map V.ref))) := (k1.trans k2).trans (KF.same s3)
    have frH : ∀ a ∈ ras, H a = none := fun a ha => kf_free k1 ⟨_, h1.ob⟩ (fr a ha)
    have rH : H r = none := kf_free (k1.trans k2) ⟨_, h2.ob⟩ hr
    rcases hcase with ⟨z, rfl, rfl⟩ | ⟨z, z2, z3, z4, z5⟩
    ·subst z
     obtain ⟨e2, e3⟩ := rows0 hr0
     exact q _ r [] (i + n) kk (h2.same s3) e3.symm hn (by omega) upd_same (by rw [e2]; exact .nil) frH rH
    ·exact q _ r ras q' kk (h2.same s3) z3 z4 z5 upd_same (pd_imp (fun _ _ z => s3 _ _ z) z2) frH rH
def spCalled (P : Program) (w : World) (K : PySem.W.Frag) (mg : Str → Option Value) (base : Heap) : Sp := fun vs H Q _ => ∃ (f st tl : Addr) (args : List V) (fd : FuncData) (ps : List Str) (sp : Sp), vs = [.ref f, .ref st, .ref tl] ∧ H tl = some (.lst args) ∧
 FnOk P w K mg base CX0 6 f fd ps sp ∧ PySem.W.keepIn K (.ref f) = true ∧ Binds K fd ps [] ∧ (args.length = 0 ∨ args.length = 1 ∨ args.length = 2 ∨ args.length = 3 ∨ args.length = 4 ∨ args.length = 5) ∧ sp (.ref st :: args) H Q E0
theorem ok_called (T : Txt K mg t) : FnOk P w K mg base CX0 7 t.called.f t.called.d ["call", "state", "told"] (spCalled P w K mg base) := by
 refine T.called.fn.ok sc_called (fun vs H Q E h => ?_) (fun cdv A outer s H vs Q E hr h => ?_)
 ·obtain ⟨f, st, tl, args, fd, ps, sp, rfl, _⟩ := h
  rfl
 ·obtain ⟨f, st, tl, args, fd, ps, sp, rfl, hl, F, kp, bd, hlen, q⟩ := h
  refine ⟨_, (pss_cons (ps_if (pt_cmpR op_eq (pe_callB (call_lenK (K := K)) (by rfl) T.n_len PySem.boot_len (pa_cons (pv 2) pa_nil)) pe_int (nomark _)) (pss_one (ps_ret (pcallV (K := K) (pv 0) (pa_cons (pv 1) pa_nil)))) pss_nil) (pss_cons (ps_if (pt_cmpR op_eq (pe_callB (call_lenK (K := K)) (by rfl) T.n_len PySem.boot_len (pa_cons (pv 2) pa_nil)) pe_int (nomark _)) (pss_one (ps_ret (pcallV (K := K) (pv 0) (pa_cons (pv 1) (pa_cons (pe_ix (ix_listK (K := K)) (pv 2) pe_int (fun _ _ => rfl)) pa_nil))))) pss_nil) (pss_cons (ps_if (pt_cmpR op_eq (pe_callB (call_lenK (K := K)) (by rfl) T.n_len PySem.boot_len (pa_cons (pv 2) pa_nil)) pe_int (nomark _)) (pss_one (ps_ret (pcallV (K := K) (pv 0) (pa_cons (pv 1) (pa_cons (pe_ix (ix_listK (K := K)) (pv 2) pe_int (fun _ _ => rfl)) (pa_cons (pe_ix (ix_listK (K := K)) (pv 2) pe_int (fun _ _ => rfl)) pa_nil)))))) pss_nil) (pss_cons (ps_if (pt_cmpR op_eq (pe_callB (call_lenK (K := K)) (by rfl) T.n_len PySem.boot_len (pa_cons (pv 2) pa_nil)) pe_int (nomark _)) (pss_one (ps_ret (pcallV (K := K) (pv 0) (pa_cons (pv 1) (pa_cons (pe_ix (ix_listK (K := K)) (pv 2) pe_int (fun _ _ => rfl)) (pa_cons (pe_ix (ix_listK (K := K)) (pv 2) pe_int (fun _ _ => rfl)) (pa_cons (pe_ix (ix_listK (K := K)) (pv 2) pe_int (fun _ _ => rfl)) pa_nil))))))) pss_nil) (pss_cons (ps_if (pt_cmpR op_eq (pe_callB (call_lenK (K := K)) (by rfl) T.n_len PySem.boot_len (pa_cons (pv 2) pa_nil)) pe_int (nomark _)) (pss_one (ps_ret (pcallV (K := K) (pv 0) (pa_cons (pv 1) (pa_cons (pe_ix (ix_listK (K := K)) (pv 2) pe_int (fun _ _ => rfl)) (pa_cons (pe_ix (ix_listK (K := K)) (pv 2) pe_int (fun _ _ => rfl)) (pa_cons (pe_ix (ix_listK (K := K)) (pv 2) pe_int (fun _ _ => rfl)) (pa_cons (pe_ix (ix_listK (K := K)) (pv 2) pe_int (fun _ _ => rfl)) pa_nil)))))))) pss_nil) (pss_one (ps_ret (pcallV (K := K) (pv 0) (pa_cons (pv 1) (pa_cons (pe_ix (ix_listK (K := K)) (pv 2) pe_int (fun _ _ => rfl)) (pa_cons (pe_ix (ix_listK (K := K)) (pv 2) pe_int (fun _ _ => rfl)) (pa_cons (pe_ix (ix_listK (K := K)) (pv 2) pe_int (fun _ _ => rfl)) (pa_cons (pe_ix (ix_listK (K := K)) (pv 2) pe_int (fun _ _ => rfl)) (pa_cons (pe_ix (ix_listK (K := K)) (pv 2) pe_int (fun _ _ => rfl)) pa_nil)))))))))))))), ?_⟩
  have sq : ∀ {xs : List V}, H tl = some (.lst xs) → SqL K H tl xs ∨ SqT K H tl xs := fun h => .inl (SqL.of h)
  match args, hlen with
  | [], _ =>
   exact ⟨_, rfl, tl, _, rfl, sq hl, rfl, _, rfl, _, rfl, f, 6, fd, ps, sp, rfl, F, hr, kp, bd, _, rfl, q⟩
  | [a], _ =>
   refine ⟨_, rfl, tl, _, rfl, sq hl, rfl, _, rfl, ?_⟩
   exact ⟨_, rfl, tl, _, rfl, sq hl, rfl, _, rfl, _, rfl, f, 6, fd, ps, sp, rfl, F, hr, kp, bd, _, rfl, _, rfl, tl, _, _, _, rfl, rfl, SqL.of hl, rfl, q⟩
  | [a, b], _ =>
   refine ⟨_, rfl, tl, _, rfl, sq hl, rfl, _, rfl, ?_⟩
   refine ⟨_, rfl, tl, _, rfl, sq hl, rfl, _, rfl, ?_⟩
   exact ⟨_, rfl, tl, _, rfl, sq hl, rfl, _, rfl, _, rfl, f, 6, fd, ps, sp, rfl, F, hr, kp, bd, _, rfl, _, rfl, tl, _, _, _, rfl, rfl, SqL.of hl, rfl, _, rfl, tl, _, _, _, rfl, rfl, SqL.of hl, rfl, q⟩
  | [a, b, c], _ =>
   refine ⟨_, rfl, tl, _, rfl, sq hl, rfl, _, rfl, ?_⟩
   refine ⟨_, rfl, tl, _, rfl, sq hl, rfl, _, rfl, ?_⟩
   refine ⟨_, rfl, tl, _, rfl, sq hl, rfl, _, rfl, ?_⟩
   exact ⟨_, rfl, tl, _, rfl, sq hl, rfl, _, rfl, _, rfl, f, 6, fd, ps, sp, rfl, F, hr, kp, bd, _, rfl, _, rfl, tl, _, _, _, rfl, rfl, SqL.of hl, rfl, _, rfl, tl, _, _, _, rfl, rfl, SqL.of hl, rfl, _, rfl, tl, _, _, _, rfl, rfl, SqL.of hl, rfl, q⟩
  | [a, b, c, d], _ =>
   refine ⟨_, rfl, tl, _, rfl, sq hl, rfl, _, rfl, ?_⟩
   refine ⟨_, rfl, tl, _, rfl, sq hl, rfl, _, rfl, ?_⟩
   refine ⟨_, rfl, tl, _, rfl, sq hl, rfl, _, rfl, ?_⟩
   refine ⟨_, rfl, tl, _, rfl, sq hl, rfl, _, rfl, ?_⟩
   exact ⟨_, rfl, tl, _, rfl, sq hl, rfl, _, rfl, _, rfl, f, 6, fd, ps, sp, rfl, F, hr, kp, bd, _, rfl, _, rfl, tl, _, _, _, rfl, rfl, SqL.of hl, rfl, _, rfl, tl, _, _, _, rfl, rfl, SqL.of hl, rfl, _, rfl, tl, _, _, _, rfl, rfl, SqL.of hl, rfl, _, rfl, tl, _, _, _, rfl, rfl, SqL.of hl, rfl, q⟩
  | [a, b, c, d, e], _ =>
   refine ⟨_, rfl, tl, _, rfl, sq hl, rfl, _, rfl, ?_⟩
   refine ⟨_, rfl, tl, _, rfl, sq hl, rfl, _, rfl, ?_⟩
   refine ⟨_, rfl, tl, _, rfl, sq hl, rfl, _, rfl, ?_⟩
   refine ⟨_, rfl, tl, _, rfl, sq hl, rfl, _, rfl, ?_⟩
   refine ⟨_, rfl, tl, _, rfl, sq hl, rfl, _, rfl, ?_⟩
   exact ⟨_, rfl, f, 6, fd, ps, sp, rfl, F, hr, kp, bd, _, rfl, _, rfl, tl, _, _, _, rfl, rfl, SqL.of hl, rfl, _, rfl, tl, _, _, _, rfl, rfl, SqL.of hl, rfl, _, rfl, tl, _, _, _, rfl, rfl, SqL.of hl, rfl, _, rfl, tl, _, _, _, rfl, rfl, SqL.of hl, rfl, _, rfl, tl, _, _, _, rfl, rfl, SqL.of hl, rfl, q⟩
  | _ :: _ :: _ :: _ :: _ :: _ :: _, h => simp at h
def hfs (a b c : V) : List (Str × V) := [("state", a), ("past", b), ("undone", c)]
structure HA where
 p : Addr
 dx : Addr
 s : SA
 pl : Addr
 ul : Addr
 ps : List SA
 us : List SA
def hF (h : HA) (c : Addr) : Prop := c = h.p ∨ c = h.pl ∨ c = h.ul
structure HistAt (t : Ad) (K : PySem.W.Frag) (H : Hp) (h : HA) (d : Desk) : Prop where
 ob : H h.p = some (.ins t.c_History h.dx (hfs (.ref h.s.p) (.ref h.pl) (.ref h.ul)))
 now : StateAt t K H h.s d.now
 pl : H h.pl = some (.lst (h.ps.map fun s => V.ref s.p))
 ul : H h.ul = some (.lst (h.us.map fun s => V.ref s.p))
 past : Paired (StateAt t K H) h.ps d.past.reverse
 fut : Paired (StateAt t K H) h.us d.future.reverse
 ok : WOk d.now
 okp : ∀ w ∈ d.past, WOk w
 okf : ∀ w ∈ d.future, WOk w
 len : d.past.length + d.future.length ≤ 30
 npu : h.pl ≠ h.ul
 dis : ∀ s, s = h.s ∨ s ∈ h.ps ∨ s ∈ h.us → ¬ foot s h.pl ∧ ¬ foot s h.ul
theorem HistAt.same {H H' : Hp} {h : HA} {d : Desk} (s : Same H H') (x : HistAt t K H h d) : HistAt t K H' h d :=
 ⟨s _ _ x.ob, x.now.same s, s _ _ x.pl, s _ _ x.ul, pd_imp (fun _ _ q => q.same s) x.past, pd_imp (fun _ _ q => q.same s) x.fut, x.ok, x.okp, x.okf, x.len, x.npu, x.dis⟩
theorem pd_memL {α β : Type} {R : α → β → Prop} {l : List α} {m : List β} (h : Paired R l m) {a : α} (ha : a ∈ l) : ∃ b, R a b := by
 obtain ⟨i, hi⟩ := List.getElem?_of_mem ha
 obtain ⟨b, _, r⟩ := pd_get h hi
 exact ⟨b, r⟩
theorem foot_some {H : Hp} {s : SA} {w : Works} (hs : StateAt t K H s w) {c : Addr} (hc : foot s c) : ∃ o, H c = some o := by
 rcases hc with z | z | z | z | z | z
 ·rw [z]; exact ⟨_, hs.ob⟩
 ·rw [z]; exact ⟨_, hs.ml⟩
 ·rw [z]; exact ⟨_, hs.bl⟩
 ·rw [z]; exact ⟨_, hs.sl⟩
 ·obtain ⟨_, _, o, _⟩ := hs.mobj z; exact ⟨_, o⟩
 ·obtain ⟨_, _, o, _⟩ := hs.bobj z; exact ⟨_, o⟩
theorem foot_new {H : Hp} {s : SA} {w : Works} (hs : StateAt t K H s w) {c : Addr} (hc : H c = none) : ¬ foot s c := fun z => by
 obtain ⟨o, e⟩ := foot_some hs z
 rw [hc] at e; cases e
theorem cut_last (xs : List V) (n : Nat) (hn : 0 < n) : cutV xs (some (-((n : Nat) : Int))) none = xs.drop (xs.length - n) := by
 unfold cutV
 have e1 : HT.sIx xs.length 0 (some (-((n : Nat) : Int))) = xs.length - n := by
  show (if -((n : Nat) : Int) < 0 then (-((n : Nat) : Int) + (xs.length : Int)).toNat else _) = _
  rw [if_pos (by omega)]; omega
 have e2 : HT.sIx xs.length xs.length none = xs.length := rfl
 rw [e1, e2, List.take_of_length_le (by rw [List.length_drop]; exact Nat.le_refl _)]
theorem last_take {α : Type} (l : List α) (x : α) (n : Nat) : ((x :: l).take n).reverse = (l.reverse ++ [x]).drop ((l.reverse ++ [x]).length - n) := by
 have e : l.reverse ++ [x] = (x :: l).reverse := by simp
 rw [e, List.reverse_take]
 simp
theorem hist_ne {H : Hp} {h : HA} {a : Addr} {s : SA} {w : Works} (ob : H h.p = some (.ins t.c_History h.dx (hfs (.ref h.s.p) (.ref h.pl) (.ref h.ul)))) (hs : StateAt t K H s w) : ¬ foot s h.p := by
 rintro (z | z | z | z | z | z)
 ·exact ins_ne ob hs.ob (by show 3 ≠ 8; decide) z
 ·exact ins_lst ob hs.ml z
 ·exact ins_lst ob hs.bl z
 ·exact ins_lst ob hs.sl z
 ·obtain ⟨_, _, o, l⟩ := hs.mobj z
  exact ins_ne ob o (by rw [l]; show 3 ≠ 4; decide) rfl
 ·obtain ⟨_, _, o, l⟩ := hs.bobj z
  exact ins_ne ob o (by rw [l]; show 3 ≠ 5; decide) rfl
theorem StateAt.kf {F : Addr → Prop} {H H' : Hp} {s : SA} {w : Works} (k : KF F H H') (hF : ∀ c, F c → Wr H c) (hn : ∀ c, foot s c → ¬ F c) (h : StateAt t K H s w) : StateAt t K H' s w :=
 ⟨k _ _ h.ob (hn _ (.inl rfl)), h.hop.kf k hF, k _ _ h.ml (hn _ (.inr (.inl rfl))), pd_impM (fun c y hc r => r.kf k hF (hn _ (.inr (.inr (.inr (.inr (.inl hc))))))) h.mach, k _ _ h.bl (hn _ (.inr (.inr (.inl rfl)))), pd_impM (fun c y hc r => r.kf k hF (hn _ (.inr (.inr (.inr (.inr (.inr hc))))))) h.bays, k _ _ h.sl (hn _ (.inr (.inr (.inr (.inl rfl))))), pd_imp (fun _ _ q => q.kf k hF) h.bales, h.bml, h.baled, h.fed.kf k hF, h.dum.kf k hF, h.ndm, h.ndb, h.nsl⟩
def Does (t : Ad) (K : PySem.W.Frag) (H : Hp) (args : List V) (c : Km414.Call) (sp : Sp) : Prop := ∀ (s' : SA) (w : Works) (H1 : Hp) (Q : VK), Same H H1 → StateAt t K H1 s' w → WOk w → ChgPost t K H1 s' (chg w c) Q → sp (.ref s'.p :: args) H1 Q E0
def hAll (h : HA) (c : Addr) : Prop := hF h c ∨ foot h.s c ∨ (∃ s ∈ h.ps, foot s c) ∨ ∃ s ∈ h.us, foot s c
theorem HistAt.kf {F : Addr → Prop} {H H' : Hp} {h : HA} {d : Desk} (k : KF F H H') (hW : ∀ c, F c → Wr H c) (hn : ∀ c, hAll h c → ¬ F c) (x : HistAt t K H h d) : HistAt t K H' h d :=
 ⟨k _ _ x.ob (hn _ (.inl (.inl rfl))), x.now.kf k hW (fun c hc => hn c (.inr (.inl hc))), k _ _ x.pl (hn _ (.inl (.inr (.inl rfl)))), k _ _ x.ul (hn _ (.inl (.inr (.inr rfl)))),
  pd_impM (fun s y hs r => r.kf k hW fun c hc => hn c (.inr (.inr (.inl ⟨s, hs, hc⟩)))) x.past, pd_impM (fun s y hs r => r.kf k hW fun c hc => hn c (.inr (.inr (.inr ⟨s, hs, hc⟩)))) x.fut, x.ok, x.okp, x.okf, x.len, x.npu, x.dis⟩
def HPost (t : Ad) (K : PySem.W.Frag) (H : Hp) (h : HA) (r : Desk × Km414.Ans) (Q : VK) : Prop := ∀ H' (h' : HA) a, KF (hF h) H H' → h'.p = h.p → (∀ c, hAll h' c → hAll h c ∨ H c = none) → HistAt t K H' h' r.1 → H' a = some (.lst (ansV r.2)) → H a = none → Q (.ref a) H'
def spChange (t : Ad) (P : Program) (w : World) (K : PySem.W.Frag) (mg : Str → Option Value) (base : Heap) : Sp := fun vs H Q _ => ∃ (h : HA) (d : Desk) (f tl : Addr) (args : List V) (c : Km414.Call) (fd : FuncData) (ps : List Str) (sp : Sp), vs = [.ref h.p, .ref f, .ref tl] ∧ HistAt t K H h d ∧ H tl = some (.lst args) ∧
 FnOk P w K mg base CX0 6 f fd ps sp ∧ PySem.W.keepIn K (.ref f) = true ∧ Binds K fd ps [] ∧ (args.length = 0 ∨ args.length = 1 ∨ args.length = 2 ∨ args.length = 3 ∨ args.length = 4 ∨ args.length = 5) ∧ Does t K H args c sp ∧ isChg c = true ∧ fitCall c ∧
 HPost t K H h (Km414.act d c) Q
theorem ok_History_change (T : Txt K mg t) : FnOk P w K mg base CX0 8 t.History_change.f t.History_change.d ["self", "call", "told"] (spChange t P w K mg base) := by
 refine T.History_change.fn.ok sc_History_change (fun vs H Q E h => ?_) (fun cdv A outer s H vs Q E hr h => ?_)
 ·obtain ⟨h, d, f, tl, args, c, fd, ps, sp, rfl, _⟩ := h
  rfl
 ·obtain ⟨h, d, f, tl, args, c, fd, ps, sp, rfl, hh, hl, F, kp, bd, hlen, does, hc, hfit, q⟩ := h
  refine ⟨_, (pss_cons (ps_set (i := 3) sc_History_change.nd rfl (Or.inl rfl) (pmeth0 T.State T.State_copied (ok_State_copied T) hr.m (pfld (K := K) (pv 0)))) (pss_cons (ps_set (i := 4) sc_History_change.nd rfl (Or.inl rfl) (pcall T.called (ok_called T) hr.m (pa_cons (pv 1) (pa_cons (pv 3) (pa_cons (pv 2) pa_nil))))) (pss_cons (ps_if (pt_cmpR op_ge (pe_ix (ix_listK (K := K)) (pv 4) pe_int (fun _ _ => rfl)) pe_int (nomark _)) (pss_cons (psfld (K := K) (pv 0) (pe_slice (sl_listK (K := K)) (pe_op op_cat (pfld (K := K) (pv 0)) (pe_lst (pa_cons (pfld (K := K) (pv 0)) pa_nil))) (po_some (pe_un un_neg (pgI T.g_MOST_TAKEN_BACK))) po_none)) (pss_cons (psfld (K := K) (pv 0) (pv 3)) (pss_one (psfld (K := K) (pv 0) (pe_lst pa_nil))))) pss_nil) (pss_one (ps_ret (pv 4)))))), ?_⟩
  refine ⟨_, rfl, h.p, _, h.dx, _, _, rfl, hh.ob, T.History.cl, T.na_History_state, rfl, h.s.p, h.s.dx, _, rfl, hh.now.ob, rfl, h.s, d.now, rfl, hh.now, hh.ok, fun s1 H1 e1 fr1 hs1 => ?_⟩
  refine ⟨_, rfl, _, rfl, _, rfl, f, s1.p, tl, args, fd, ps, sp, rfl, e1 _ _ hl, F, kp, bd, hlen, does s1 d.now H1 _ e1 hs1 hh.ok fun H2 s2 r k2 f2 p2 hs2 hr2 hrn => ?_⟩
  have e2 : Same H H2 := fun b o hb => k2 b o (e1 b o hb) fun z => by rw [fr1 b z] at hb; cases hb
  have hh2 := hh.same e2
  have hrn : H r = none := hrn.elim (fr1 r) e1.free
  have ea : ansV (chg d.now c).2 = V.int (chg d.now c).2.value :: nts (chg d.now c).2.out := ansV_mk _ _
  have hact := act_chg d c hc
  refine ⟨_, rfl, r, _, _, _, rfl, rfl, SqL.of hr2, by rw [ea]; exact atN (i := 0) rfl, _, _, rfl, rfl, _, rfl, ite2 (fun g => ?_) (fun g => ?_)⟩
  ·rw [decide_eq_true_eq] at g
   rw [if_neg (show ¬ (chg d.now c).2.value < 0 by omega)] at hact
   rw [hact] at q
   refine ⟨_, rfl, h.p, _, h.dx, _, _, rfl, hh2.ob, T.History.cl, T.na_History_past, rfl, _, rfl, h.p, _, h.dx, _, _, rfl, hh2.ob, T.History.cl, T.na_History_state, rfl, by show 1 ≤ sizeLine; decide, fun l3 hl3 => ?_⟩
   have s3 := Same.new (o := .lst [V.ref h.s.p]) hl3
   have lp : h.ps.length = d.past.length := by rw [pd_len hh.past, List.length_reverse]
   have l30 := hh.len
   refine ⟨h.pl, l3, _, _, rfl, rfl, s3 _ _ hh2.pl, upd_same, by rw [List.length_map, lp]; exact Nat.le_trans (show d.past.length + 1 ≤ 31 by omega) (by decide), fun l4 hl4 => ?_⟩
   have s4 := s3.trans (Same.new (o := .lst ((h.ps.map fun s => V.ref s.p) ++ [V.ref h.s.p])) hl4)
   refine ⟨_, rfl, _, rfl, l4, _, rfl, SqL.of upd_same, fun l5 hl5 => ?_⟩
   have ecut : cutV ((h.ps.map fun s => V.ref s.p) ++ [V.ref h.s.p]) (some (-30)) none = ((h.ps ++ [h.s]).drop ((h.ps ++ [h.s]).length - 30)).map fun s => V.ref s.p := by
    have e : ((h.ps.map fun s => V.ref s.p) ++ [V.ref h.s.p]) = (h.ps ++ [h.s]).map fun s => V.ref s.p := by rw [List.map_append]; rfl
    rw [e]
    have := cut_last ((h.ps ++ [h.s]).map fun s => V.ref s.p) 30 (by decide)
    rw [List.length_map] at this
    rw [List.map_drop]
    exact this
   have hl5 : (upd (upd H2 l3 (.lst [V.ref h.s.p])) l4 (.lst ((h.ps.map fun s => V.ref s.p) ++ [V.ref h.s.p]))) l5 = none := hl5
   have s5 := s4.trans (Same.new (o := .lst (((h.ps ++ [h.s]).drop ((h.ps ++ [h.s]).length - 30)).map fun s => V.ref s.p)) hl5)
   dsimp only
   rw [ecut]
   generalize hH5 : upd (upd (upd H2 l3 (.lst [V.ref h.s.p])) l4 (.lst ((h.ps.map fun s => V.ref s.p) ++ [V.ref h.s.p]))) l5 (.lst (((h.ps ++ [h.s]).drop ((h.ps ++ [h.s]).length - 30)).map fun s => V.ref s.p)) = H5 at *
   have hp5 : H5 l5 = some (.lst (((h.ps ++ [h.s]).drop ((h.ps ++ [h.s]).length - 30)).map fun s => V.ref s.p)) := by rw [← hH5]; exact upd_same
   have hh5 := hh2.same s5
   refine ⟨_, rfl, h.p, _, h.dx, _, rfl, hh5.ob, T.History.cl, T.na_History_past, by show 3 < 1000; decide, ?_⟩
   refine ⟨_, rfl, _, rfl, h.p, _, h.dx, _, rfl, upd_same, T.History.cl, T.na_History_state, by show 3 < 1000; decide, ?_⟩
   rw [upd_upd]
   have k6 : KF (· = h.p) H5 (upd H5 h.p (.ins t.c_History h.dx (hfs (.ref s1.p) (.ref l5) (.ref h.ul)))) := KF.upd rfl
   have w5 := wrI hh5.ob
   have ob6 : (upd H5 h.p (.ins t.c_History h.dx (hfs (.ref s1.p) (.ref l5) (.ref h.ul)))) h.p = some (.ins t.c_History h.dx (hfs (.ref s1.p) (.ref l5) (.ref h.ul))) := upd_same
   have some6 : ∀ {c o}, H5 c = some o → ∃ o', (upd H5 h.p (.ins t.c_History h.dx (hfs (.ref s1.p) (.ref l5) (.ref h.ul)))) c = some o' := fun {c o} e => by
    by_cases z : c = h.p
    ·exact ⟨_, by rw [z]; exact upd_same⟩
    ·exact ⟨o, by rw [upd_ne z]; exact e⟩
   change tSeq _ _ _ _ (upd H5 h.p (.ins t.c_History h.dx (hfs (.ref s1.p) (.ref l5) (.ref h.ul))))
   generalize upd H5 h.p (.ins t.c_History h.dx (hfs (.ref s1.p) (.ref l5) (.ref h.ul))) = H6 at *
   refine ⟨by show 0 ≤ sizeLine; decide, fun l6 hl6 => ?_⟩
   have s7 := Same.new (o := .lst []) hl6
   have hl6' : H5 l6 = none := by
    cases e : H5 l6 with
    | none => rfl
    | some o => obtain ⟨o', e'⟩ := some6 e; rw [e'] at hl6; cases hl6
   have hl7 : (upd H6 l6 (.lst [])) l6 = some (.lst []) := upd_same
   generalize upd H6 l6 (.lst []) = H7 at *
   have ob7 := s7 _ _ ob6
   refine ⟨_, rfl, h.p, _, h.dx, _, rfl, ob7, T.History.cl, T.na_History_undone, by show 3 < 1000; decide, _, rfl, ?_⟩
   have k8 : KF (· = h.p) H7 (upd H7 h.p (.ins t.c_History h.dx (hfs (.ref s1.p) (.ref l5) (.ref l6)))) := KF.upd rfl
   have k58 := (k6.trans (KF.same s7)).trans k8
   have ob8 : (upd H7 h.p (.ins t.c_History h.dx (hfs (.ref s1.p) (.ref l5) (.ref l6)))) h.p = some (.ins t.c_History h.dx (hfs (.ref s2.p) (.ref l5) (.ref l6))) := by rw [upd_same, p2]
   have hl8 : (upd H7 h.p (.ins t.c_History h.dx (hfs (.ref s1.p) (.ref l5) (.ref l6)))) l6 = some (.lst []) := k8 _ _ hl7 (Ne.symm (ins_lst ob7 hl7))
   change Q (.ref r) (upd H7 h.p (.ins t.c_History h.dx (hfs (.ref s1.p) (.ref l5) (.ref l6))))
   generalize upd H7 h.p (.ins t.c_History h.dx (hfs (.ref s1.p) (.ref l5) (.ref l6))) = H8 at *
   have st : ∀ {s : SA} {w : Works}, StateAt t K H5 s w → StateAt t K H8 s w := fun {s w} hs => hs.kf k58 w5 fun c hc z => by
    rw [z] at hc; exact hist_ne (a := h.p) hh5.ob hs hc
   have fr5 : ∀ {s : SA} {w : Works}, StateAt t K H2 s w → ¬ foot s l5 ∧ ¬ foot s l6 := fun {s w} hs => ⟨foot_new (hs.same s4) hl5, foot_new (hs.same s5) hl6'⟩
   have n56 : l5 ≠ l6 := fun z => by rw [← z, hp5] at hl6'; cases hl6'
   refine q _ ⟨h.p, h.dx, s2, l5, l6, (h.ps ++ [h.s]).drop ((h.ps ++ [h.s]).length - 30), []⟩ r ((KF.same (e2.trans s5)).trans (k58.mono fun c e => .inl e)) rfl ?_ ?_ (k58 _ _ (s5 _ _ hr2) (Ne.symm (ins_lst hh5.ob (s5 _ _ hr2)))) hrn
   ·rintro c ((z | z | z) | z | ⟨s, hs, hc⟩ | ⟨s, hs, hc⟩)
    ·exact .inl (.inl (.inl z))
    ·rw [z]; exact .inr ((e2.trans s4).free hl5)
    ·rw [z]; exact .inr ((e2.trans s5).free hl6')
    ·exact .inr ((f2 c z).elim (fr1 c) e1.free)
    ·rcases List.mem_append.mp (List.mem_of_mem_drop hs) with y | y
     ·exact .inl (.inr (.inr (.inl ⟨s, y, hc⟩)))
     ·rw [List.mem_singleton.mp y] at hc; exact .inl (.inr (.inl hc))
    ·cases hs
   refine ⟨ob8, st (hs2.same s5), k58 _ _ hp5 (Ne.symm (ins_lst hh5.ob hp5)), hl8, ?_, .nil, chg_ok hh.ok hc hfit, ?_, (fun w hw => by cases hw), ?_, n56, ?_⟩
   ·show Paired _ _ ((d.now :: d.past).take 30).reverse
    rw [last_take]
    have ll : (h.ps ++ [h.s]).length = (d.past.reverse ++ [d.now]).length := by rw [List.length_append, List.length_append, pd_len hh.past]; rfl
    rw [ll]
    exact pd_drop _ (pd_app (pd_imp (fun _ _ z => st z) hh5.past) (.cons (st hh5.now) .nil))
   ·intro w hw
    rcases List.mem_cons.mp (List.mem_of_mem_take hw) with z | z
    ·rw [z]; exact hh.ok
    ·exact hh.okp w z
   ·show ((d.now :: d.past).take 30).length + 0 ≤ 30
    rw [List.length_take]; omega
   ·rintro s (z | z | z)
    ·rw [z]; exact fr5 hs2
    ·rcases List.mem_append.mp (List.mem_of_mem_drop z) with z | z
     ·obtain ⟨w, hw⟩ := pd_memL hh2.past z
      exact fr5 hw
     ·rw [List.mem_singleton.mp z]; exact fr5 hh2.now
    ·cases z
  ·rw [decide_eq_true_eq] at g
   rw [if_pos (show (chg d.now c).2.value < 0 by omega)] at hact
   rw [hact] at q
   exact ⟨_, rfl, q H2 h r (KF.same e2) rfl (fun c hc => .inl hc) hh2 hr2 hrn⟩
theorem hF_wr {H : Hp} {h : HA} {d : Desk} (hh : HistAt t K H h d) : ∀ c, hF h c → Wr H c := fun c hc => by
 rcases hc with z | z | z
 ·rw [z]; exact .inr ⟨_, _, _, hh.ob⟩
 ·rw [z]; exact .inl ⟨_, hh.pl⟩
 ·rw [z]; exact .inl ⟨_, hh.ul⟩
theorem HistAt.st {H H' : Hp} {h : HA} {d : Desk} (hh : HistAt t K H h d) (k : KF (hF h) H H') {s : SA} {w : Works} (m : s = h.s ∨ s ∈ h.ps ∨ s ∈ h.us) (hs : StateAt t K H s w) : StateAt t K H' s w :=
 hs.kf k (hF_wr hh) fun c hc z => by
  rcases z with z | z | z
  ·rw [z] at hc; exact hist_ne (a := h.p) hh.ob hs hc
  ·rw [z] at hc; exact (hh.dis s m).1 hc
  ·rw [z] at hc; exact (hh.dis s m).2 hc
theorem pd_snoc_inv {α β : Type} {R : α → β → Prop} : ∀ {l : List α} {m : List β} {b : β}, Paired R l (m ++ [b]) → ∃ l0 a, l = l0 ++ [a] ∧ Paired R l0 m ∧ R a b
 | _, [], _, .cons r .nil => ⟨[], _, rfl, .nil, r⟩
 | _, x :: m, b, .cons r q => by
  obtain ⟨l0, a, e, h1, h2⟩ := pd_snoc_inv q
  exact ⟨_ :: l0, a, by rw [e]; rfl, .cons r h1, h2⟩
theorem pd_impM' {α β : Type} {R R' : α → β → Prop} {l : List α} {m : List β} (h : Paired R l m) (f : ∀ a b, a ∈ l → R a b → R' a b) : Paired R' l m := by
 induction h with
 | nil => exact .nil
 | cons r _ ih => exact .cons (f _ _ (by simp) r) (ih fun a b ha => f a b (by simp [ha]))
def spHBack (t : Ad) (K : PySem.W.Frag) : Sp := fun vs H Q _ => ∃ (h : HA) (d : Desk), vs = [.ref h.p] ∧ HistAt t K H h d ∧ HPost t K H h (Km414.act d .back) Q
theorem ok_History_back (T : Txt K mg t) : FnOk P w K mg base CX0 1 t.History_back.f t.History_back.d ["self"] (spHBack t K) := by
 refine T.History_back.fn.ok sc_History_back (fun vs H Q E h => ?_) (fun cdv A outer s H vs Q E hr h => ?_)
 ·obtain ⟨h, d, rfl, _⟩ := h
  rfl
 ·obtain ⟨h, d, rfl, hh, q⟩ := h
  have lp : h.ps.length = d.past.length := by rw [pd_len hh.past, List.length_reverse]
  have lu : h.us.length = d.future.length := by rw [pd_len hh.fut, List.length_reverse]
  have l30 := hh.len
  refine ⟨_, (pss_cons (ps_if (pt_cmpR op_eq (pe_callB (call_lenK (K := K)) (by rfl) T.n_len PySem.boot_len (pa_cons (pfld (K := K) (pv 0)) pa_nil)) pe_int (nomark _)) (pss_one (ps_ret (pe_lst (pa_cons (pgI T.g_MISSING) pa_nil)))) pss_nil) (pss_cons (ps_expr (pe_bm PySem.F.plainAttrs_list PySem.F.slot_list_append PySem.F.type_list_append mt_append (pfld (K := K) (pv 0)) (pa_cons (pfld (K := K) (pv 0)) pa_nil))) (pss_cons (psfld (K := K) (pv 0) (pe_bm0 PySem.F.plainAttrs_list PySem.F.slot_list_pop PySem.F.type_list_pop mt_pop (pfld (K := K) (pv 0)))) (pss_one (ps_ret (pe_lst (pa_cons (pe_callB (call_lenK (K := K)) (by rfl) T.n_len PySem.boot_len (pa_cons (pfld (K := K) (pv 0)) pa_nil)) pa_nil))))))), ?_⟩
  refine ⟨_, rfl, h.p, _, h.dx, _, _, rfl, hh.ob, T.History.cl, T.na_History_past, rfl, h.pl, _, rfl, .inl (SqL.of hh.pl), rfl, _, rfl, ite2 (fun c => ?_) (fun c => ?_)⟩
  ·rw [decide_eq_true_eq, List.length_map, lp] at c
   have c : d.past = [] := List.length_eq_zero_iff.mp (by injection c with c; omega)
   refine ⟨by show 1 ≤ sizeLine; decide, fun r hr => ?_⟩
   have s1 := Same.new (o := .lst [.int (-2)]) hr
   have e : Km414.act d .back = (d, Km414.only (-2)) := by unfold Km414.act; rw [c]
   rw [e] at q
   exact q _ h r (KF.same s1) rfl (fun c hc => .inl hc) (hh.same s1) upd_same hr
  ·rw [decide_eq_true_eq, List.length_map, lp] at c
   obtain ⟨k, r0, er0⟩ : ∃ k r0, d.past = k :: r0 := by
    cases e : d.past with
    | nil => rw [e] at c; exact absurd rfl c
    | cons k r0 => exact ⟨k, r0, rfl⟩
   have e : Km414.act d .back = (⟨k, r0, d.now :: d.future⟩, Km414.only ((r0.length : Nat) : Int)) := by unfold Km414.act; rw [er0]
   rw [e] at q
   have hp0 := hh.past
   rw [er0, List.reverse_cons] at hp0
   obtain ⟨ps0, s0, eps, hps0, hs0⟩ := pd_snoc_inv hp0
   have lps0 : ps0.length = r0.length := by rw [pd_len hps0, List.length_reverse]
   have lr0 : r0.length + 1 + d.future.length ≤ 30 := by rw [er0] at l30; simpa using l30
   refine ⟨_, rfl, h.p, _, h.dx, _, _, rfl, hh.ob, T.History.cl, T.na_History_undone, rfl, .inl ⟨rfl, _, SqL.of hh.ul⟩, _, rfl, h.p, _, h.dx, _, _, rfl, hh.ob, T.History.cl, T.na_History_state, rfl, h.ul, _, _, rfl, rfl, hh.ul, by rw [List.length_map, lu]; exact Nat.lt_of_le_of_lt (show d.future.length ≤ 30 by omega) (by decide), ?_⟩
   have npu : h.pl ≠ h.ul := hh.npu
   have neu : h.p ≠ h.ul := ins_lst hh.ob hh.ul
   have nep : h.p ≠ h.pl := ins_lst hh.ob hh.pl
   have k1 : KF (hF h) H (upd H h.ul (.lst ((h.us.map fun s => V.ref s.p) ++ [.ref h.s.p]))) := KF.upd (.inr (.inr rfl))
   have ob1 : (upd H h.ul (.lst ((h.us.map fun s => V.ref s.p) ++ [.ref h.s.p]))) h.p = _ := (upd_ne neu).trans hh.ob
   have pl1 : (upd H h.ul (.lst ((h.us.map fun s => V.ref s.p) ++ [.ref h.s.p]))) h.pl = _ := (upd_ne npu).trans hh.pl
   have ul1 : (upd H h.ul (.lst ((h.us.map fun s => V.ref s.p) ++ [.ref h.s.p]))) h.ul = _ := upd_same
   generalize upd H h.ul (.lst ((h.us.map fun s => V.ref s.p) ++ [.ref h.s.p])) = H1 at *
   rw [eps] at pl1
   refine ⟨_, rfl, h.p, _, h.dx, _, _, rfl, ob1, T.History.cl, T.na_History_past, rfl, .inl ⟨rfl, _, SqL.of pl1⟩, h.pl, _, .ref s0.p, rfl, rfl, pl1, by simp, ?_⟩
   have ed : ((ps0 ++ [s0]).map fun s => V.ref s.p).dropLast = ps0.map fun s => V.ref s.p := by rw [List.map_append]; simp
   rw [ed]
   have k2 : KF (hF h) H1 (upd H1 h.pl (.lst (ps0.map fun s => V.ref s.p))) := KF.upd (.inr (.inl rfl))
   have ob2 : (upd H1 h.pl (.lst (ps0.map fun s => V.ref s.p))) h.p = _ := (upd_ne nep).trans ob1
   have pl2 : (upd H1 h.pl (.lst (ps0.map fun s => V.ref s.p))) h.pl = _ := upd_same
   have ul2 : (upd H1 h.pl (.lst (ps0.map fun s => V.ref s.p))) h.ul = _ := (upd_ne (Ne.symm npu)).trans ul1
   generalize upd H1 h.pl (.lst (ps0.map fun s => V.ref s.p)) = H2 at *
   refine ⟨_, rfl, h.p, _, h.dx, _, rfl, ob2, T.History.cl, T.na_History_state, by show 3 < 1000; decide, ?_⟩
   have k3 : KF (hF h) H2 (upd H2 h.p (.ins t.c_History h.dx (hfs (.ref s0.p) (.ref h.pl) (.ref h.ul)))) := KF.upd (.inl rfl)
   have ob3 : (upd H2 h.p (.ins t.c_History h.dx (hfs (.ref s0.p) (.ref h.pl) (.ref h.ul)))) h.p = _ := upd_same
   have pl3 : (upd H2 h.p (.ins t.c_History h.dx (hfs (.ref s0.p) (.ref h.pl) (.ref h.ul)))) h.pl = _ := (upd_ne (Ne.symm nep)).trans pl2
   have ul3 : (upd H2 h.p (.ins t.c_History h.dx (hfs (.ref s0.p) (.ref h.pl) (.ref h.ul)))) h.ul = _ := (upd_ne (Ne.symm neu)).trans ul2
   refine ⟨_, rfl, h.p, _, h.dx, _, _, rfl, ob3, T.History.cl, T.na_History_past, rfl, h.pl, _, rfl, .inl (SqL.of pl3), by show 1 ≤ sizeLine; decide, fun r hr => ?_⟩
   have k13 := (k1.trans k2).trans k3
   rw [List.length_map, lps0]
   change (upd H2 h.p (.ins t.c_History h.dx (hfs (.ref s0.p) (.ref h.pl) (.ref h.ul)))) r = none at hr
   change Q (.ref r) (upd (upd H2 h.p (.ins t.c_History h.dx (hfs (.ref s0.p) (.ref h.pl) (.ref h.ul)))) r _)
   generalize upd H2 h.p (.ins t.c_History h.dx (hfs (.ref s0.p) (.ref h.pl) (.ref h.ul))) = H3 at *
   have hrn : H r = none := by
    cases e : H r with
    | none => rfl
    | some o =>
     by_cases z : hF h r
     ·rcases z with z | z | z
      ·rw [z, ob3] at hr; cases hr
      ·rw [z, pl3] at hr; cases hr
      ·rw [z, ul3] at hr; cases hr
     ·rw [k13 _ _ e z] at hr; cases hr
   have s4 := Same.new (o := .lst [.int ((r0.length : Nat) : Int)]) hr
   have m0 : s0 ∈ h.ps := by rw [eps]; simp
   have mp : ∀ s ∈ ps0, s ∈ h.ps := fun s hs => by rw [eps]; simp [hs]
   refine q _ ⟨h.p, h.dx, s0, h.pl, h.ul, ps0, h.us ++ [h.s]⟩ r (k13.trans (KF.same s4)) rfl ?_ ?_ upd_same hrn
   ·rintro c (z | z | ⟨s, hs, hc⟩ | ⟨s, hs, hc⟩)
    ·exact .inl (.inl z)
    ·exact .inl (.inr (.inr (.inl ⟨s0, m0, z⟩)))
    ·exact .inl (.inr (.inr (.inl ⟨s, mp s hs, hc⟩)))
    ·rcases List.mem_append.mp hs with y | y
     ·exact .inl (.inr (.inr (.inr ⟨s, y, hc⟩)))
     ·rw [List.mem_singleton.mp y] at hc; exact .inl (.inr (.inl hc))
   refine HistAt.same s4 ⟨ob3, hh.st k13 (.inr (.inl m0)) hs0, pl3, ?_, ?_, ?_, hh.okp k (by rw [er0]; simp), fun w hw => hh.okp w (by rw [er0]; simp [hw]), ?_, ?_, npu, ?_⟩
   ·rw [ul3, List.map_append]; rfl
   ·exact pd_impM' hps0 fun a b ha r => hh.st k13 (.inr (.inl (mp a ha))) r
   ·show Paired _ _ (d.now :: d.future).reverse
    rw [List.reverse_cons]
    exact pd_app (pd_impM' hh.fut fun a b ha r => hh.st k13 (.inr (.inr ha)) r) (.cons (hh.st k13 (.inl rfl) hh.now) .nil)
   ·intro w hw
    rcases List.mem_cons.mp hw with z | z
    ·rw [z]; exact hh.ok
    ·exact hh.okf w z
   ·show r0.length + (d.now :: d.future).length ≤ 30
    rw [List.length_cons]; omega
   ·rintro s (z | z | z)
    ·rw [z]; exact hh.dis s0 (.inr (.inl m0))
    ·exact hh.dis s (.inr (.inl (mp s z)))
    ·rcases List.mem_append.mp z with z | z
     ·exact hh.dis s (.inr (.inr z))
     ·exact hh.dis s (.inl (List.mem_singleton.mp z))
def spHAgain (t : Ad) (K : PySem.W.Frag) : Sp := fun vs H Q _ => ∃ (h : HA) (d : Desk), vs = [.ref h.p] ∧ HistAt t K H h d ∧ HPost t K H h (Km414.act d .again) Q
theorem ok_History_again (T : Txt K mg t) : FnOk P w K mg base CX0 1 t.History_again.f t.History_again.d ["self"] (spHAgain t K) := by
 refine T.History_again.fn.ok sc_History_again (fun vs H Q E h => ?_) (fun cdv A outer s H vs Q E hr h => ?_)
 ·obtain ⟨h, d, rfl, _⟩ := h
  rfl
 ·obtain ⟨h, d, rfl, hh, q⟩ := h
  have lu : h.us.length = d.future.length := by rw [pd_len hh.fut, List.length_reverse]
  have lp : h.ps.length = d.past.length := by rw [pd_len hh.past, List.length_reverse]
  have l30 := hh.len
  refine ⟨_, (pss_cons (ps_if (pt_cmpR op_eq (pe_callB (call_lenK (K := K)) (by rfl) T.n_len PySem.boot_len (pa_cons (pfld (K := K) (pv 0)) pa_nil)) pe_int (nomark _)) (pss_one (ps_ret (pe_lst (pa_cons (pgI T.g_MISSING) pa_nil)))) pss_nil) (pss_cons (ps_expr (pe_bm PySem.F.plainAttrs_list PySem.F.slot_list_append PySem.F.type_list_append mt_append (pfld (K := K) (pv 0)) (pa_cons (pfld (K := K) (pv 0)) pa_nil))) (pss_cons (psfld (K := K) (pv 0) (pe_bm0 PySem.F.plainAttrs_list PySem.F.slot_list_pop PySem.F.type_list_pop mt_pop (pfld (K := K) (pv 0)))) (pss_one (ps_ret (pe_lst (pa_cons (pe_callB (call_lenK (K := K)) (by rfl) T.n_len PySem.boot_len (pa_cons (pfld (K := K) (pv 0)) pa_nil)) pa_nil))))))), ?_⟩
  refine ⟨_, rfl, h.p, _, h.dx, _, _, rfl, hh.ob, T.History.cl, T.na_History_undone, rfl, h.ul, _, rfl, .inl (SqL.of hh.ul), rfl, _, rfl, ite2 (fun c => ?_) (fun c => ?_)⟩
  ·rw [decide_eq_true_eq, List.length_map, lu] at c
   have c : d.future = [] := List.length_eq_zero_iff.mp (by injection c with c; omega)
   refine ⟨by show 1 ≤ sizeLine; decide, fun r hr => ?_⟩
   have s1 := Same.new (o := .lst [.int (-2)]) hr
   have e : Km414.act d .again = (d, Km414.only (-2)) := by unfold Km414.act; rw [c]
   rw [e] at q
   exact q _ h r (KF.same s1) rfl (fun c hc => .inl hc) (hh.same s1) upd_same hr
  ·rw [decide_eq_true_eq, List.length_map, lu] at c
   obtain ⟨k, r0, er0⟩ : ∃ k r0, d.future = k :: r0 := by
    cases e : d.future with
    | nil => rw [e] at c; exact absurd rfl c
    | cons k r0 => exact ⟨k, r0, rfl⟩
   have e : Km414.act d .again = (⟨k, d.now :: d.past, r0⟩, Km414.only ((r0.length : Nat) : Int)) := by
    have e30 : (d.now :: d.past).take Km414.PAST = d.now :: d.past := List.take_of_length_le (by rw [List.length_cons]; show d.past.length + 1 ≤ 30; rw [er0, List.length_cons] at l30; omega)
    unfold Km414.act; rw [er0]; dsimp only; rw [e30]
   rw [e] at q
   have hp0 := hh.fut
   rw [er0, List.reverse_cons] at hp0
   obtain ⟨ps0, s0, eps, hps0, hs0⟩ := pd_snoc_inv hp0
   have lps0 : ps0.length = r0.length := by rw [pd_len hps0, List.length_reverse]
   have lr0 : r0.length + 1 + d.past.length ≤ 30 := by rw [er0, List.length_cons] at l30; omega
   refine ⟨_, rfl, h.p, _, h.dx, _, _, rfl, hh.ob, T.History.cl, T.na_History_past, rfl, .inl ⟨rfl, _, SqL.of hh.pl⟩, _, rfl, h.p, _, h.dx, _, _, rfl, hh.ob, T.History.cl, T.na_History_state, rfl, h.pl, _, _, rfl, rfl, hh.pl, by rw [List.length_map, lp]; exact Nat.lt_of_le_of_lt (show d.past.length ≤ 30 by omega) (by decide), ?_⟩
   have npu : h.ul ≠ h.pl := Ne.symm hh.npu
   have neu : h.p ≠ h.pl := ins_lst hh.ob hh.pl
   have nep : h.p ≠ h.ul := ins_lst hh.ob hh.ul
   have k1 : KF (hF h) H (upd H h.pl (.lst ((h.ps.map fun s => V.ref s.p) ++ [.ref h.s.p]))) := KF.upd (.inr (.inl rfl))
   have ob1 : (upd H h.pl (.lst ((h.ps.map fun s => V.ref s.p) ++ [.ref h.s.p]))) h.p = _ := (upd_ne neu).trans hh.ob
   have ul1 : (upd H h.pl (.lst ((h.ps.map fun s => V.ref s.p) ++ [.ref h.s.p]))) h.ul = _ := (upd_ne npu).trans hh.ul
   have pl1 : (upd H h.pl (.lst ((h.ps.map fun s => V.ref s.p) ++ [.ref h.s.p]))) h.pl = _ := upd_same
   generalize upd H h.pl (.lst ((h.ps.map fun s => V.ref s.p) ++ [.ref h.s.p])) = H1 at *
   rw [eps] at ul1
   refine ⟨_, rfl, h.p, _, h.dx, _, _, rfl, ob1, T.History.cl, T.na_History_undone, rfl, .inl ⟨rfl, _, SqL.of ul1⟩, h.ul, _, .ref s0.p, rfl, rfl, ul1, by simp, ?_⟩
   have ed : ((ps0 ++ [s0]).map fun s => V.ref s.p).dropLast = ps0.map fun s => V.ref s.p := by rw [List.map_append]; simp
   rw [ed]
   have k2 : KF (hF h) H1 (upd H1 h.ul (.lst (ps0.map fun s => V.ref s.p))) := KF.upd (.inr (.inr rfl))
   have ob2 : (upd H1 h.ul (.lst (ps0.map fun s => V.ref s.p))) h.p = _ := (upd_ne nep).trans ob1
   have ul2 : (upd H1 h.ul (.lst (ps0.map fun s => V.ref s.p))) h.ul = _ := upd_same
   have pl2 : (upd H1 h.ul (.lst (ps0.map fun s => V.ref s.p))) h.pl = _ := (upd_ne (Ne.symm npu)).trans pl1
   generalize upd H1 h.ul (.lst (ps0.map fun s => V.ref s.p)) = H2 at *
   refine ⟨_, rfl, h.p, _, h.dx, _, rfl, ob2, T.History.cl, T.na_History_state, by show 3 < 1000; decide, ?_⟩
   have k3 : KF (hF h) H2 (upd H2 h.p (.ins t.c_History h.dx (hfs (.ref s0.p) (.ref h.pl) (.ref h.ul)))) := KF.upd (.inl rfl)
   have ob3 : (upd H2 h.p (.ins t.c_History h.dx (hfs (.ref s0.p) (.ref h.pl) (.ref h.ul)))) h.p = _ := upd_same
   have ul3 : (upd H2 h.p (.ins t.c_History h.dx (hfs (.ref s0.p) (.ref h.pl) (.ref h.ul)))) h.ul = _ := (upd_ne (Ne.symm nep)).trans ul2
   have pl3 : (upd H2 h.p (.ins t.c_History h.dx (hfs (.ref s0.p) (.ref h.pl) (.ref h.ul)))) h.pl = _ := (upd_ne (Ne.symm neu)).trans pl2
   refine ⟨_, rfl, h.p, _, h.dx, _, _, rfl, ob3, T.History.cl, T.na_History_undone, rfl, h.ul, _, rfl, .inl (SqL.of ul3), by show 1 ≤ sizeLine; decide, fun r hr => ?_⟩
   have k13 := (k1.trans k2).trans k3
   rw [List.length_map, lps0]
   change (upd H2 h.p (.ins t.c_History h.dx (hfs (.ref s0.p) (.ref h.pl) (.ref h.ul)))) r = none at hr
   change Q (.ref r) (upd (upd H2 h.p (.ins t.c_History h.dx (hfs (.ref s0.p) (.ref h.pl) (.ref h.ul)))) r _)
   generalize upd H2 h.p (.ins t.c_History h.dx (hfs (.ref s0.p) (.ref h.pl) (.ref h.ul))) = H3 at *
   have hrn : H r = none := by
    cases e : H r with
    | none => rfl
    | some o =>
     by_cases z : hF h r
     ·rcases z with z | z | z
      ·rw [z, ob3] at hr; cases hr
      ·rw [z, pl3] at hr; cases hr
      ·rw [z, ul3] at hr; cases hr
     ·rw [k13 _ _ e z] at hr; cases hr
   have s4 := Same.new (o := .lst [.int ((r0.length : Nat) : Int)]) hr
   have m0 : s0 ∈ h.us := by rw [eps]; simp
   have mp : ∀ s ∈ ps0, s ∈ h.us := fun s hs => by rw [eps]; simp [hs]
   refine q _ ⟨h.p, h.dx, s0, h.pl, h.ul, h.ps ++ [h.s], ps0⟩ r (k13.trans (KF.same s4)) rfl ?_ ?_ upd_same hrn
   ·rintro c (z | z | ⟨s, hs, hc⟩ | ⟨s, hs, hc⟩)
    ·exact .inl (.inl z)
    ·exact .inl (.inr (.inr (.inr ⟨s0, m0, z⟩)))
    ·rcases List.mem_append.mp hs with y | y
     ·exact .inl (.inr (.inr (.inl ⟨s, y, hc⟩)))
     ·rw [List.mem_singleton.mp y] at hc; exact .inl (.inr (.inl hc))
    ·exact .inl (.inr (.inr (.inr ⟨s, mp s hs, hc⟩)))
   refine HistAt.same s4 ⟨ob3, hh.st k13 (.inr (.inr m0)) hs0, ?_, ul3, ?_, ?_, hh.okf k (by rw [er0]; simp), ?_, fun w hw => hh.okf w (by rw [er0]; simp [hw]), ?_, Ne.symm npu, ?_⟩
   ·rw [pl3, List.map_append]; rfl
   ·show Paired _ _ (d.now :: d.past).reverse
    rw [List.reverse_cons]
    exact pd_app (pd_impM' hh.past fun a b ha r => hh.st k13 (.inr (.inl ha)) r) (.cons (hh.st k13 (.inl rfl) hh.now) .nil)
   ·exact pd_impM' hps0 fun a b ha r => hh.st k13 (.inr (.inr (mp a ha))) r
   ·intro w hw
    rcases List.mem_cons.mp hw with z | z
    ·rw [z]; exact hh.ok
    ·exact hh.okp w z
   ·show (d.now :: d.past).length + r0.length ≤ 30
    rw [List.length_cons]; omega
   ·rintro s (z | z | z)
    ·rw [z]; exact hh.dis s0 (.inr (.inr m0))
    ·rcases List.mem_append.mp z with z | z
     ·exact hh.dis s (.inr (.inl z))
     ·exact hh.dis s (.inl (List.mem_singleton.mp z))
    ·exact hh.dis s (.inr (.inr (mp s z)))
def spHState (t : Ad) (K : PySem.W.Frag) : Sp := fun vs H Q _ => ∃ (h : HA) (d : Desk), vs = [.ref h.p] ∧ HistAt t K H h d ∧ HPost t K H h (Km414.act d .state) Q
theorem ok_History_standing (T : Txt K mg t) : FnOk P w K mg base CX0 1 t.History_standing.f t.History_standing.d ["self"] (spHState t K) := by
 refine T.History_standing.fn.ok sc_History_standing (fun vs H Q E h => ?_) (fun cdv A outer s H vs Q E hr h => ?_)
 ·obtain ⟨h, d, rfl, _⟩ := h
  rfl
 ·obtain ⟨h, d, rfl, hh, q⟩ := h
  have lp : h.ps.length = d.past.length := by rw [pd_len hh.past, List.length_reverse]
  have lu : h.us.length = d.future.length := by rw [pd_len hh.fut, List.length_reverse]
  have lm := pd_len hh.now.mach
  have le := es_len hh.now
  refine ⟨_, (pss_cons (ps_set (i := 1) sc_History_standing.nd rfl (Or.inl rfl) (pfld (K := K) (pv 0))) (pss_one (ps_ret (pe_lst (pa_cons (pe_callB (call_lenK (K := K)) (by rfl) T.n_len PySem.boot_len (pa_cons (pfld (K := K) (pv 1)) pa_nil)) (pa_cons (pfld (K := K) (pv 1)) (pa_cons (pe_callB (call_lenK (K := K)) (by rfl) T.n_len PySem.boot_len (pa_cons (pfld (K := K) (pv 1)) pa_nil)) (pa_cons (pe_callB (call_lenK (K := K)) (by rfl) T.n_len PySem.boot_len (pa_cons (pfld (K := K) (pv 0)) pa_nil)) (pa_cons (pe_callB (call_lenK (K := K)) (by rfl) T.n_len PySem.boot_len (pa_cons (pfld (K := K) (pv 0)) pa_nil)) pa_nil))))))))), ?_⟩
  refine ⟨_, rfl, h.p, _, h.dx, _, _, rfl, hh.ob, T.History.cl, T.na_History_state, rfl, ?_⟩
  refine ⟨_, rfl, h.s.p, _, h.s.dx, _, _, rfl, hh.now.ob, T.State.cl, T.na_State_machines, rfl, h.s.ml, _, rfl, .inl (SqL.of hh.now.ml), ?_⟩
  refine ⟨_, rfl, h.s.p, _, h.s.dx, _, _, rfl, hh.now.ob, T.State.cl, T.na_State_harm, rfl, ?_⟩
  refine ⟨_, rfl, h.s.p, _, h.s.dx, _, _, rfl, hh.now.ob, T.State.cl, T.na_State_bales, rfl, h.s.sl, _, rfl, .inl (SqL.of hh.now.sl), ?_⟩
  refine ⟨_, rfl, h.p, _, h.dx, _, _, rfl, hh.ob, T.History.cl, T.na_History_past, rfl, h.pl, _, rfl, .inl (SqL.of hh.pl), ?_⟩
  refine ⟨_, rfl, h.p, _, h.dx, _, _, rfl, hh.ob, T.History.cl, T.na_History_undone, rfl, h.ul, _, rfl, .inl (SqL.of hh.ul), by show 5 ≤ sizeLine; decide, fun r hr => ?_⟩
  have s1 := Same.new (o := .lst [.int ((h.s.ms.map V.ref).length : Nat), .int (d.now.harm : Nat), .int ((h.s.es.map V.ref).length : Nat), .int ((h.ps.map fun s => V.ref s.p).length : Nat), .int ((h.us.map fun s => V.ref s.p).length : Nat)]) hr
  refine q _ h r (KF.same s1) rfl (fun c hc => .inl hc) (hh.same s1) ?_ hr
  rw [upd_same, List.length_map, List.length_map, List.length_map, List.length_map, lm, le, lp, lu]
  rfl
def Asks (t : Ad) (K : PySem.W.Frag) (H : Hp) (args : List V) (c : Km414.Call) (sp : Sp) : Prop := ∀ (s : SA) (w : Works) (Q : VK), StateAt t K H s w → WOk w → AskPost H (chg w c).2 Q → sp (.ref s.p :: args) H Q E0
def spHAsk (t : Ad) (P : Program) (w : World) (K : PySem.W.Frag) (mg : Str → Option Value) (base : Heap) : Sp := fun vs H Q _ => ∃ (h : HA) (d : Desk) (f tl : Addr) (args : List V) (c : Km414.Call) (fd : FuncData) (ps : List Str) (sp : Sp), vs = [.ref h.p, .ref f, .ref tl] ∧ HistAt t K H h d ∧ H tl = some (.lst args) ∧
 FnOk P w K mg base CX0 6 f fd ps sp ∧ PySem.W.keepIn K (.ref f) = true ∧ Binds K fd ps [] ∧ (args.length = 0 ∨ args.length = 1 ∨ args.length = 2 ∨ args.length = 3 ∨ args.length = 4 ∨ args.length = 5) ∧ Asks t K H args c sp ∧ isAsk c = true ∧ HPost t K H h (Km414.act d c) Q
theorem ok_History_ask (T : Txt K mg t) : FnOk P w K mg base CX0 8 t.History_ask.f t.History_ask.d ["self", "call", "told"] (spHAsk t P w K mg base) := by
 refine T.History_ask.fn.ok sc_History_ask (fun vs H Q E h => ?_) (fun cdv A outer s H vs Q E hr h => ?_)
 ·obtain ⟨h, d, f, tl, args, c, fd, ps, sp, rfl, _⟩ := h
  rfl
 ·obtain ⟨h, d, f, tl, args, c, fd, ps, sp, rfl, hh, hl, F, kp, bd, hlen, asks, hc, q⟩ := h
  rw [act_ask d c hc] at q
  refine ⟨_, (pss_one (ps_ret (pcall T.called (ok_called T) hr.m (pa_cons (pv 1) (pa_cons (pfld (K := K) (pv 0)) (pa_cons (pv 2) pa_nil)))))), ?_⟩
  refine ⟨_, rfl, _, rfl, h.p, _, h.dx, _, _, rfl, hh.ob, T.History.cl, T.na_History_state, rfl, _, rfl, f, h.s.p, tl, args, fd, ps, sp, rfl, hl, F, kp, bd, hlen, asks h.s d.now _ hh.now hh.ok fun H1 a s1 ha hn => ?_⟩
  exact q H1 h a (KF.same s1) rfl (fun c hc => .inl hc) (hh.same s1) ha hn
theorem hist_new {H1 : Hp} {p dx l3 l5 : Addr} {s0 : SA} {b : Nat} {o1 o2 o4 : List (Str × V)} (hb : b ≤ 6) (hs : StateAt t K H1 s0 (Km414.opened b)) (ob1 : H1 p = some (.ins t.c_History dx o1)) (np : ¬ foot s0 p)
  (hl3 : (upd H1 p (.ins t.c_History dx o2)) l3 = none) (hl5 : (upd (upd (upd H1 p (.ins t.c_History dx o2)) l3 (.lst [])) p (.ins t.c_History dx o4)) l5 = none) :
  HistAt t K (upd (upd (upd (upd (upd H1 p (.ins t.c_History dx o2)) l3 (.lst [])) p (.ins t.c_History dx o4)) l5 (.lst [])) p (.ins t.c_History dx (hfs (.ref s0.p) (.ref l3) (.ref l5)))) ⟨p, dx, s0, l3, l5, [], []⟩ (Km414.fresh b) ∧
  KF (· = p) H1 (upd (upd (upd (upd (upd H1 p (.ins t.c_History dx o2)) l3 (.lst [])) p (.ins t.c_History dx o4)) l5 (.lst [])) p (.ins t.c_History dx (hfs (.ref s0.p) (.ref l3) (.ref l5)))) ∧ H1 l3 = none ∧ H1 l5 = none := by
 have n3 : l3 ≠ p := fun z => by rw [z, upd_same] at hl3; cases hl3
 have n5 : l5 ≠ p := fun z => by rw [z, upd_same] at hl5; cases hl5
 have h3 : H1 l3 = none := by rw [upd_ne n3] at hl3; exact hl3
 have n35 : l3 ≠ l5 := fun z => by rw [← z, upd_ne n3, upd_same] at hl5; cases hl5
 have h5 : H1 l5 = none := by rw [upd_ne n5, upd_ne (Ne.symm n35), upd_ne n5] at hl5; exact hl5
 have k : KF (· = p) H1 (upd (upd (upd (upd (upd H1 p (.ins t.c_History dx o2)) l3 (.lst [])) p (.ins t.c_History dx o4)) l5 (.lst [])) p (.ins t.c_History dx (hfs (.ref s0.p) (.ref l3) (.ref l5)))) := fun c o hc hn => by
  have c3 : c ≠ l3 := fun z => by rw [z, h3] at hc; cases hc
  have c5 : c ≠ l5 := fun z => by rw [z, h5] at hc; cases hc
  rw [upd_ne hn, upd_ne c5, upd_ne hn, upd_ne c3, upd_ne hn]; exact hc
 refine ⟨⟨upd_same, hs.kf k (wrI ob1) (fun c hc z => by rw [z] at hc; exact np hc), ?_, ?_, .nil, .nil, opened_ok hb, (fun w hw => by cases hw), (fun w hw => by cases hw), Nat.zero_le _, n35, ?_⟩, k, h3, h5⟩
 ·show (upd _ p _) l3 = _
  rw [upd_ne n3, upd_ne n35, upd_ne n3, upd_same]; rfl
 ·show (upd _ p _) l5 = _
  rw [upd_ne n5, upd_same]; rfl
 ·rintro s (z | z | z)
  ·rw [z]; exact ⟨foot_new hs h3, foot_new hs h5⟩
  ·cases z
  ·cases z
def spHInit (t : Ad) (K : PySem.W.Frag) : Sp := fun vs H Q _ => ∃ (p dx : Addr), vs = [.ref p] ∧ H p = some (.ins t.c_History dx []) ∧
 ∀ H' (h : HA), KF (· = p) H H' → h.p = p → HistAt t K H' h (Km414.fresh 6) → (∀ c, hAll h c → c = p ∨ H c = none) → Q .non H'
theorem ok_History_init (T : Txt K mg t) : FnOk P w K mg base CX0 5 t.History_init.f t.History_init.d ["self"] (spHInit t K) := by
 refine T.History_init.fn.ok sc_History_init (fun vs H Q E h => ?_) (fun cdv A outer s H vs Q E hr h => ?_)
 ·obtain ⟨p, dx, rfl, _⟩ := h
  rfl
 ·obtain ⟨p, dx, rfl, hp, q⟩ := h
  refine ⟨_, (pss_cons (psfld (K := K) (pv 0) (pmake T.State T.State_init (ok_State_init T) hr.m (pa_cons (pgI T.g_NO_HARM) pa_nil))) (pss_cons (psfld (K := K) (pv 0) (pe_lst pa_nil)) (pss_one (psfld (K := K) (pv 0) (pe_lst pa_nil))))), ?_⟩
  intro p1 d1 hp1 hd1 hne
  refine ⟨p1, d1, 6, rfl, upd_same, fun H1 s0 k1 e1 e2 hs0 hf0 => ⟨rfl, ?_⟩⟩
  have np1 : p ≠ p1 := ne_of_none hp hp1
  have nd1 : p ≠ d1 := ne_of_none hp hd1
  have s1 : Same H H1 := KF.sameNew hp1 (Same.inst hp1 hd1) k1
  have ob1 := s1 _ _ hp
  have fr : ∀ c, foot s0 c → H c = none := fun c hc => by
   rcases hf0 c hc with z | z
   ·rw [z]; exact hp1
   ·exact (Same.inst hp1 hd1).free z
  have np : ¬ foot s0 p := fun z => by rw [fr p z] at hp; cases hp
  rw [← e1]
  refine ⟨_, rfl, p, _, dx, _, rfl, ob1, T.History.cl, T.na_History_state, by show 0 < 1000; decide, ?_⟩
  refine ⟨by show 0 ≤ sizeLine; decide, fun l3 hl3 => ⟨_, rfl, p, _, dx, _, rfl, (Same.new hl3) _ _ upd_same, T.History.cl, T.na_History_past, by show 1 < 1000; decide, ?_⟩⟩
  refine ⟨by show 0 ≤ sizeLine; decide, fun l5 hl5 => ⟨_, rfl, p, _, dx, _, rfl, (Same.new hl5) _ _ upd_same, T.History.cl, T.na_History_undone, by show 2 < 1000; decide, ?_⟩⟩
  obtain ⟨hh, k, h3, h5⟩ := hist_new (b := 6) (by decide) hs0 ob1 np hl3 hl5
  refine q _ ⟨p, dx, s0, l3, l5, [], []⟩ ((KF.same s1).trans k) rfl hh ?_
  rintro c ((z | z | z) | z | ⟨s, hs, hc⟩ | ⟨s, hs, hc⟩)
  ·exact .inl z
  ·rw [z]; exact .inr (s1.free h3)
  ·rw [z]; exact .inr (s1.free h5)
  ·exact .inr (fr c z)
  ·cases hs
  ·cases hs
def spHBegin (t : Ad) (K : PySem.W.Frag) : Sp := fun vs H Q _ => ∃ (h : HA) (d : Desk) (b : Nat), vs = [.ref h.p, .int (b : Nat)] ∧ HistAt t K H h d ∧ HPost t K H h (Km414.act d (.start b)) Q
theorem ok_History_begin (T : Txt K mg t) : FnOk P w K mg base CX0 5 t.History_begin.f t.History_begin.d ["self", "harm"] (spHBegin t K) := by
 refine T.History_begin.fn.ok sc_History_begin (fun vs H Q E h => ?_) (fun cdv A outer s H vs Q E hr h => ?_)
 ·obtain ⟨h, d, b, rfl, _⟩ := h
  rfl
 ·obtain ⟨h, d, b, rfl, hh, q⟩ := h
  refine ⟨_, (pss_cons (ps_if (pt_cmpR op_gt (pv 1) (pgI T.g_NO_HARM) (nomark _)) (pss_one (ps_ret (pe_lst (pa_cons (pgI T.g_WRONG) pa_nil)))) pss_nil) (pss_cons (psfld (K := K) (pv 0) (pmake T.State T.State_init (ok_State_init T) hr.m (pa_cons (pv 1) pa_nil))) (pss_cons (psfld (K := K) (pv 0) (pe_lst pa_nil)) (pss_cons (psfld (K := K) (pv 0) (pe_lst pa_nil)) (pss_one (ps_ret (pe_lst (pa_cons pe_int pa_nil)))))))), ?_⟩
  refine ⟨_, rfl, _, _, rfl, rfl, _, rfl, ite2 (fun c => ?_) (fun c => ?_)⟩
  ·rw [decide_eq_true_eq] at c
   refine ⟨by show 1 ≤ sizeLine; decide, fun r hr => ?_⟩
   have s1 := Same.new (o := .lst [.int (-22)]) hr
   have e : Km414.act d (.start b) = (d, Km414.only (-22)) := by unfold Km414.act; dsimp only; rw [if_pos (show Km414.KINDS < b by unfold Km414.KINDS; omega)]
   rw [e] at q
   exact q _ h r (KF.same s1) rfl (fun c hc => .inl hc) (hh.same s1) upd_same hr
  ·rw [decide_eq_true_eq] at c
   have hb : b ≤ 6 := by omega
   have e : Km414.act d (.start b) = (Km414.fresh b, Km414.only 0) := by unfold Km414.act; dsimp only; rw [if_neg (show ¬ Km414.KINDS < b by unfold Km414.KINDS; omega)]; rfl
   rw [e] at q
   have hp := hh.ob
   refine ⟨_, rfl, fun p1 d1 hp1 hd1 hne => ?_⟩
   refine ⟨p1, d1, b, rfl, upd_same, fun H1 s0 k1 e1 e2 hs0 hf0 => ⟨rfl, ?_⟩⟩
   have s1 : Same H H1 := KF.sameNew hp1 (Same.inst hp1 hd1) k1
   have ob1 := s1 _ _ hp
   have fr : ∀ c, foot s0 c → H c = none := fun c hc => by
    rcases hf0 c hc with z | z
    ·rw [z]; exact hp1
    ·exact (Same.inst hp1 hd1).free z
   have np : ¬ foot s0 h.p := fun z => by rw [fr h.p z] at hp; cases hp
   rw [← e1]
   refine ⟨_, rfl, h.p, _, h.dx, _, rfl, ob1, T.History.cl, T.na_History_state, by show 3 < 1000; decide, ?_⟩
   refine ⟨by show 0 ≤ sizeLine; decide, fun l3 hl3 => ⟨_, rfl, h.p, _, h.dx, _, rfl, (Same.new hl3) _ _ upd_same, T.History.cl, T.na_History_past, by show 3 < 1000; decide, ?_⟩⟩
   refine ⟨by show 0 ≤ sizeLine; decide, fun l5 hl5 => ⟨_, rfl, h.p, _, h.dx, _, rfl, (Same.new hl5) _ _ upd_same, T.History.cl, T.na_History_undone, by show 3 < 1000; decide, ?_⟩⟩
   obtain ⟨hh', k, h3, h5⟩ := hist_new hb hs0 ob1 np hl3 hl5
   refine ⟨by show 1 ≤ sizeLine; decide, fun r hr => ?_⟩
   have s6 := Same.new (o := .lst [.int 0]) hr
   have hrn : H r = none := by
    cases e : H r with
    | none => rfl
    | some o =>
     by_cases z : r = h.p
     ·rw [z] at hr; exact absurd (hh'.ob.symm.trans hr) (by intro y; cases y)
     ·exact absurd ((k _ _ (s1 _ _ e) z).symm.trans hr) (by intro y; cases y)
   refine q _ ⟨h.p, h.dx, s0, l3, l5, [], []⟩ r (((KF.same s1).trans (k.mono fun c e => .inl e)).trans (KF.same s6)) rfl ?_ (hh'.same s6) upd_same hrn
   rintro c ((z | z | z) | z | ⟨s, hs, hc⟩ | ⟨s, hs, hc⟩)
   ·exact .inl (.inl (.inl z))
   ·rw [z]; exact .inr (s1.free h3)
   ·rw [z]; exact .inr (s1.free h5)
   ·exact .inr (fr c z)
   ·cases hs
   ·cases hs
inductive CallAt (H : Hp) : Nat → List V → Km414.Call → Prop
 | c0 (b0 : Nat) : CallAt H 0 [.int (b0 : Nat)] (.start b0)
 | c1 (b0 : Nat) (ra : Addr) (rw : List Nat) : H ra = some (.lst (nts rw)) → rw.length = 6 → CallAt H 1 [.int (b0 : Nat), .ref ra] (.machine b0 rw)
 | c2 (b0 : Nat) (ra : Addr) (rw : List Nat) : H ra = some (.lst (nts rw)) → rw.length = 6 → CallAt H 2 [.int (b0 : Nat), .ref ra] (.setting b0 rw)
 | c3 (b0 b1 : Nat) : CallAt H 3 [.int (b0 : Nat), .int (b1 : Nat)] (.turn b0 b1)
 | c4 (b0 b1 b2 : Nat) : CallAt H 4 [.int (b0 : Nat), .int (b1 : Nat), .int (b2 : Nat)] (.belt b0 b1 b2)
 | c5 (b0 b1 b2 b3 b4 : Nat) : CallAt H 5 [.int (b0 : Nat), .int (b1 : Nat), .int (b2 : Nat), .int (b3 : Nat), .int (b4 : Nat)] (.bay b0 b1 b2 b3 b4)
 | c6 (ra : Addr) (rw : List Nat) : H ra = some (.lst (nts rw)) → rw.length = 6 → CallAt H 6 [.ref ra] (.feed rw)
 | c7 : CallAt H 7 [] .run
 | c8 (b0 : Nat) : CallAt H 8 [.int (b0 : Nat)] (.bale b0)
 | c9 (b0 b1 : Nat) : CallAt H 9 [.int (b0 : Nat), .int (b1 : Nat)] (.dump b0 b1)
 | c10 (b0 : Nat) : CallAt H 10 [.int (b0 : Nat)] (.back_ b0)
 | c11 : CallAt H 11 [] .take
 | c12 (b0 : Nat) : CallAt H 12 [.int (b0 : Nat)] (.would b0)
 | c13 : CallAt H 13 [] .loads
 | c14 (b0 : Nat) : CallAt H 14 [.int (b0 : Nat)] (.pure_ b0)
 | c15 : CallAt H 15 [] .best
 | c16 (b0 : Nat) : CallAt H 16 [.int (b0 : Nat)] (.often b0)
 | c17 (b0 b1 : Nat) : CallAt H 17 [.int (b0 : Nat), .int (b1 : Nat)] (.goes b0 b1)
 | c18 (b0 b1 b2 b3 : Nat) : CallAt H 18 [.int (b0 : Nat), .int (b1 : Nat), .int (b2 : Nat), .int (b3 : Nat)] (.split b0 b1 b2 b3)
 | c19 : CallAt H 19 [] .hopper
 | c20 (b0 : Nat) : CallAt H 20 [.int (b0 : Nat)] (.in_ b0)
 | c21 : CallAt H 21 [] .sets
 | c22 : CallAt H 22 [] .belts
 | c23 : CallAt H 23 [] .bales
 | c24 (b0 : Nat) : CallAt H 24 [.int (b0 : Nat)] (.look b0)
 | c25 : CallAt H 25 [] .worth
 | c26 (b0 : Nat) : CallAt H 26 [.int (b0 : Nat)] (.sums b0)
 | c27 : CallAt H 27 [] .money
 | c28 : CallAt H 28 [] .back
 | c29 : CallAt H 29 [] .again
 | c30 : CallAt H 30 [] .state
def spAnswer (t : Ad) (K : PySem.W.Frag) : Sp := fun vs H Q _ => ∃ (h : HA) (d : Desk) (p : Nat) (tl : Addr) (args : List V) (c : Km414.Call), vs = [.ref h.p, .int (p : Nat), .ref tl] ∧ HistAt t K H h d ∧ H tl = some (.lst args) ∧ CallAt H p args c ∧ HPost t K H h (Km414.act d c) Q
theorem ok_answer_to (T : Txt K mg t) : FnOk P w K mg base CX0 9 t.answer_to.f t.answer_to.d ["history", "call", "told"] (spAnswer t K) := by
 refine T.answer_to.fn.ok sc_answer_to (fun vs H Q E h => ?_) (fun cdv A outer s H vs Q E hr h => ?_)
 ·obtain ⟨h, d, p, tl, args, c, rfl, _⟩ := h
  rfl
 ·obtain ⟨h, d, p, tl, args, c, rfl, hh, hl, hc, q⟩ := h
  refine ⟨_, (pss_cons (ps_if (pt_cmpR op_eq (pv 1) (pgI T.g_START) (nomark _)) (pss_one (ps_ret (pmeth T.History T.History_begin (ok_History_begin T) hr.m (pv 0) (pa_cons (pe_ix (ix_listK (K := K)) (pv 2) pe_int (fun _ _ => rfl)) pa_nil)))) pss_nil) (pss_cons (ps_if (pt_cmpR op_lt (pv 1) (pgI T.g_FIRST_QUESTION) (nomark _)) (pss_one (ps_ret (pmeth T.History T.History_change (ok_History_change T) hr.m (pv 0) (pa_cons (pe_ix (ix_tupK (K := K)) (pgR T.g_CHANGES) (pe_op op_sub (pv 1) (pgI T.g_FIRST_CHANGE)) (fun _ _ => rfl)) (pa_cons (pv 2) pa_nil))))) pss_nil) (pss_cons (ps_if (pt_cmpR op_lt (pv 1) (pgI T.g_BACK) (nomark _)) (pss_one (ps_ret (pmeth T.History T.History_ask (ok_History_ask T) hr.m (pv 0) (pa_cons (pe_ix (ix_tupK (K := K)) (pgR T.g_QUESTIONS) (pe_op op_sub (pv 1) (pgI T.g_FIRST_QUESTION)) (fun _ _ => rfl)) (pa_cons (pv 2) pa_nil))))) pss_nil) (pss_cons (ps_if (pt_cmpR op_eq (pv 1) (pgI T.g_BACK) (nomark _)) (pss_one (ps_ret (pmeth0 T.History T.History_back (ok_History_back T) hr.m (pv 0)))) pss_nil) (pss_cons (ps_if (pt_cmpR op_eq (pv 1) (pgI T.g_AGAIN) (nomark _)) (pss_one (ps_ret (pmeth0 T.History T.History_again (ok_History_again T) hr.m (pv 0)))) pss_nil) (pss_one (ps_ret (pmeth0 T.History T.History_standing (ok_History_standing T) hr.m (pv 0))))))))), ?_⟩
  cases hc with
  | c0 b0 =>
   refine ⟨_, rfl, rfl, _, rfl, ?_⟩
   exact ⟨_, rfl, h.p, h.dx, _, rfl, hh.ob, rfl, _, rfl, tl, _, _, _, rfl, rfl, SqL.of hl, rfl, h, d, b0, rfl, hh, q⟩
  | c1 b0 ra rw hra hrw =>
   refine ⟨_, rfl, rfl, _, rfl, ?_⟩
   refine ⟨_, rfl, _, _, rfl, rfl, _, rfl, ?_⟩
   exact ⟨_, rfl, h.p, h.dx, _, rfl, hh.ob, rfl, _, rfl, _, _, rfl, rfl, t.c_CHANGES, _, _, _, rfl, rfl, T.q_CHANGES.sq H, rfl, _, rfl, h, d, _, tl, _, _, t.so_machine.d, _, _, rfl, hh, hl, (ok_so_machine T).mono (by decide), T.so_machine.fn.kp, T.so_machine.b, .inr (.inr (.inl rfl)), fun s' w H1 Q' e1 hs' ok' post => ⟨s', w, b0, ra, rw, rfl, hs', ok', SqL.of (e1 _ _ hra), hrw, post⟩, rfl, hrw, q⟩
  | c2 b0 ra rw hra hrw =>
   refine ⟨_, rfl, rfl, _, rfl, ?_⟩
   refine ⟨_, rfl, _, _, rfl, rfl, _, rfl, ?_⟩
   exact ⟨_, rfl, h.p, h.dx, _, rfl, hh.ob, rfl, _, rfl, _, _, rfl, rfl, t.c_CHANGES, _, _, _, rfl, rfl, T.q_CHANGES.sq H, rfl, _, rfl, h, d, _, tl, _, _, t.so_setting.d, _, _, rfl, hh, hl, (ok_so_setting T).mono (by decide), T.so_setting.fn.kp, T.so_setting.b, .inr (.inr (.inl rfl)), fun s' w H1 Q' e1 hs' ok' post => ⟨s', w, b0, ra, rw, rfl, hs', ok', SqL.of (e1 _ _ hra), hrw, post⟩, rfl, hrw, q⟩
  | c3 b0 b1 =>
   refine ⟨_, rfl, rfl, _, rfl, ?_⟩
   refine ⟨_, rfl, _, _, rfl, rfl, _, rfl, ?_⟩
   exact ⟨_, rfl, h.p, h.dx, _, rfl, hh.ob, rfl, _, rfl, _, _, rfl, rfl, t.c_CHANGES, _, _, _, rfl, rfl, T.q_CHANGES.sq H, rfl, _, rfl, h, d, _, tl, _, _, t.so_turn.d, _, _, rfl, hh, hl, (ok_so_turn T).mono (by decide), T.so_turn.fn.kp, T.so_turn.b, .inr (.inr (.inl rfl)), fun s' w H1 Q' e1 hs' ok' post => ⟨s', w, b0, b1, rfl, hs', ok', post⟩, rfl, trivial, q⟩
  | c4 b0 b1 b2 =>
   refine ⟨_, rfl, rfl, _, rfl, ?_⟩
   refine ⟨_, rfl, _, _, rfl, rfl, _, rfl, ?_⟩
   exact ⟨_, rfl, h.p, h.dx, _, rfl, hh.ob, rfl, _, rfl, _, _, rfl, rfl, t.c_CHANGES, _, _, _, rfl, rfl, T.q_CHANGES.sq H, rfl, _, rfl, h, d, _, tl, _, _, t.so_belt.d, _, _, rfl, hh, hl, (ok_so_belt T).mono (by decide), T.so_belt.fn.kp, T.so_belt.b, .inr (.inr (.inr (.inl rfl))), fun s' w H1 Q' e1 hs' ok' post => ⟨s', w, b0, b1, b2, rfl, hs', ok', post⟩, rfl, trivial, q⟩
  | c5 b0 b1 b2 b3 b4 =>
   refine ⟨_, rfl, rfl, _, rfl, ?_⟩
   refine ⟨_, rfl, _, _, rfl, rfl, _, rfl, ?_⟩
   exact ⟨_, rfl, h.p, h.dx, _, rfl, hh.ob, rfl, _, rfl, _, _, rfl, rfl, t.c_CHANGES, _, _, _, rfl, rfl, T.q_CHANGES.sq H, rfl, _, rfl, h, d, _, tl, _, _, t.so_bay.d, _, _, rfl, hh, hl, (ok_so_bay T).mono (by decide), T.so_bay.fn.kp, T.so_bay.b, .inr (.inr (.inr (.inr (.inr rfl)))), fun s' w H1 Q' e1 hs' ok' post => ⟨s', w, b0, b1, b2, b3, b4, rfl, hs', ok', post⟩, rfl, trivial, q⟩
  | c6 ra rw hra hrw =>
   refine ⟨_, rfl, rfl, _, rfl, ?_⟩
   refine ⟨_, rfl, _, _, rfl, rfl, _, rfl, ?_⟩
   exact ⟨_, rfl, h.p, h.dx, _, rfl, hh.ob, rfl, _, rfl, _, _, rfl, rfl, t.c_CHANGES, _, _, _, rfl, rfl, T.q_CHANGES.sq H, rfl, _, rfl, h, d, _, tl, _, _, t.so_feed.d, _, _, rfl, hh, hl, (ok_so_feed T).mono (by decide), T.so_feed.fn.kp, T.so_feed.b, .inr (.inl rfl), fun s' w H1 Q' e1 hs' ok' post => ⟨s', w, ra, rw, rfl, hs', ok', e1 _ _ hra, hrw, post⟩, rfl, hrw, q⟩
  | c7 =>
   refine ⟨_, rfl, rfl, _, rfl, ?_⟩
   refine ⟨_, rfl, _, _, rfl, rfl, _, rfl, ?_⟩
   exact ⟨_, rfl, h.p, h.dx, _, rfl, hh.ob, rfl, _, rfl, _, _, rfl, rfl, t.c_CHANGES, _, _, _, rfl, rfl, T.q_CHANGES.sq H, rfl, _, rfl, h, d, _, tl, _, _, t.so_run.d, _, _, rfl, hh, hl, (ok_so_run T).mono (by decide), T.so_run.fn.kp, T.so_run.b, .inl rfl, fun s' w H1 Q' e1 hs' ok' post => ⟨s', w, rfl, hs', ok', post⟩, rfl, trivial, q⟩
  | c8 b0 =>
   refine ⟨_, rfl, rfl, _, rfl, ?_⟩
   refine ⟨_, rfl, _, _, rfl, rfl, _, rfl, ?_⟩
   exact ⟨_, rfl, h.p, h.dx, _, rfl, hh.ob, rfl, _, rfl, _, _, rfl, rfl, t.c_CHANGES, _, _, _, rfl, rfl, T.q_CHANGES.sq H, rfl, _, rfl, h, d, _, tl, _, _, t.so_bale.d, _, _, rfl, hh, hl, (ok_so_bale T).mono (by decide), T.so_bale.fn.kp, T.so_bale.b, .inr (.inl rfl), fun s' w H1 Q' e1 hs' ok' post => ⟨s', w, b0, rfl, hs', ok', post⟩, rfl, trivial, q⟩
  | c9 b0 b1 =>
   refine ⟨_, rfl, rfl, _, rfl, ?_⟩
   refine ⟨_, rfl, _, _, rfl, rfl, _, rfl, ?_⟩
   exact ⟨_, rfl, h.p, h.dx, _, rfl, hh.ob, rfl, _, rfl, _, _, rfl, rfl, t.c_CHANGES, _, _, _, rfl, rfl, T.q_CHANGES.sq H, rfl, _, rfl, h, d, _, tl, _, _, t.so_dump.d, _, _, rfl, hh, hl, (ok_so_dump T).mono (by decide), T.so_dump.fn.kp, T.so_dump.b, .inr (.inr (.inl rfl)), fun s' w H1 Q' e1 hs' ok' post => ⟨s', w, b0, b1, rfl, hs', ok', post⟩, rfl, trivial, q⟩
  | c10 b0 =>
   refine ⟨_, rfl, rfl, _, rfl, ?_⟩
   refine ⟨_, rfl, _, _, rfl, rfl, _, rfl, ?_⟩
   exact ⟨_, rfl, h.p, h.dx, _, rfl, hh.ob, rfl, _, rfl, _, _, rfl, rfl, t.c_CHANGES, _, _, _, rfl, rfl, T.q_CHANGES.sq H, rfl, _, rfl, h, d, _, tl, _, _, t.so_return.d, _, _, rfl, hh, hl, (ok_so_return T).mono (by decide), T.so_return.fn.kp, T.so_return.b, .inr (.inl rfl), fun s' w H1 Q' e1 hs' ok' post => ⟨s', w, b0, rfl, hs', ok', post⟩, rfl, trivial, q⟩
  | c11 =>
   refine ⟨_, rfl, rfl, _, rfl, ?_⟩
   refine ⟨_, rfl, _, _, rfl, rfl, _, rfl, ?_⟩
   exact ⟨_, rfl, h.p, h.dx, _, rfl, hh.ob, rfl, _, rfl, _, _, rfl, rfl, t.c_CHANGES, _, _, _, rfl, rfl, T.q_CHANGES.sq H, rfl, _, rfl, h, d, _, tl, _, _, t.so_take.d, _, _, rfl, hh, hl, (ok_so_take T).mono (by decide), T.so_take.fn.kp, T.so_take.b, .inl rfl, fun s' w H1 Q' e1 hs' ok' post => ⟨s', w, rfl, hs', ok', post⟩, rfl, trivial, q⟩
  | c12 b0 =>
   refine ⟨_, rfl, rfl, _, rfl, ?_⟩
   refine ⟨_, rfl, _, _, rfl, rfl, _, rfl, ?_⟩
   refine ⟨_, rfl, _, _, rfl, rfl, _, rfl, ?_⟩
   exact ⟨_, rfl, h.p, h.dx, _, rfl, hh.ob, rfl, _, rfl, _, _, rfl, rfl, t.c_QUESTIONS, _, _, _, rfl, rfl, T.q_QUESTIONS.sq H, rfl, _, rfl, h, d, _, tl, _, _, t.so_would.d, _, _, rfl, hh, hl, (ok_so_would T).mono (by decide), T.so_would.fn.kp, T.so_would.b, .inr (.inl rfl), fun s' w Q' hs' ok' post => ⟨s', w, b0, rfl, hs', ok', post⟩, rfl, q⟩
  | c13 =>
   refine ⟨_, rfl, rfl, _, rfl, ?_⟩
   refine ⟨_, rfl, _, _, rfl, rfl, _, rfl, ?_⟩
   refine ⟨_, rfl, _, _, rfl, rfl, _, rfl, ?_⟩
   exact ⟨_, rfl, h.p, h.dx, _, rfl, hh.ob, rfl, _, rfl, _, _, rfl, rfl, t.c_QUESTIONS, _, _, _, rfl, rfl, T.q_QUESTIONS.sq H, rfl, _, rfl, h, d, _, tl, _, _, t.so_loads.d, _, _, rfl, hh, hl, (ok_so_loads T).mono (by decide), T.so_loads.fn.kp, T.so_loads.b, .inl rfl, fun s' w Q' hs' ok' post => ⟨s', w, rfl, hs', ok', post⟩, rfl, q⟩
  | c14 b0 =>
   refine ⟨_, rfl, rfl, _, rfl, ?_⟩
   refine ⟨_, rfl, _, _, rfl, rfl, _, rfl, ?_⟩
   refine ⟨_, rfl, _, _, rfl, rfl, _, rfl, ?_⟩
   exact ⟨_, rfl, h.p, h.dx, _, rfl, hh.ob, rfl, _, rfl, _, _, rfl, rfl, t.c_QUESTIONS, _, _, _, rfl, rfl, T.q_QUESTIONS.sq H, rfl, _, rfl, h, d, _, tl, _, _, t.so_pure.d, _, _, rfl, hh, hl, (ok_so_pure T).mono (by decide), T.so_pure.fn.kp, T.so_pure.b, .inr (.inl rfl), fun s' w Q' hs' ok' post => ⟨s', w, b0, rfl, hs', ok', post⟩, rfl, q⟩
  | c15 =>
   refine ⟨_, rfl, rfl, _, rfl, ?_⟩
   refine ⟨_, rfl, _, _, rfl, rfl, _, rfl, ?_⟩
   refine ⟨_, rfl, _, _, rfl, rfl, _, rfl, ?_⟩
   exact ⟨_, rfl, h.p, h.dx, _, rfl, hh.ob, rfl, _, rfl, _, _, rfl, rfl, t.c_QUESTIONS, _, _, _, rfl, rfl, T.q_QUESTIONS.sq H, rfl, _, rfl, h, d, _, tl, _, _, t.so_best.d, _, _, rfl, hh, hl, (ok_so_best T).mono (by decide), T.so_best.fn.kp, T.so_best.b, .inl rfl, fun s' w Q' hs' ok' post => ⟨s', w, rfl, hs', ok', post⟩, rfl, q⟩
  | c16 b0 =>
   refine ⟨_, rfl, rfl, _, rfl, ?_⟩
   refine ⟨_, rfl, _, _, rfl, rfl, _, rfl, ?_⟩
   refine ⟨_, rfl, _, _, rfl, rfl, _, rfl, ?_⟩
   exact ⟨_, rfl, h.p, h.dx, _, rfl, hh.ob, rfl, _, rfl, _, _, rfl, rfl, t.c_QUESTIONS, _, _, _, rfl, rfl, T.q_QUESTIONS.sq H, rfl, _, rfl, h, d, _, tl, _, _, t.so_often.d, _, _, rfl, hh, hl, (ok_so_often T).mono (by decide), T.so_often.fn.kp, T.so_often.b, .inr (.inl rfl), fun s' w Q' hs' ok' post => ⟨s', w, b0, rfl, hs', ok', post⟩, rfl, q⟩
  | c17 b0 b1 =>
   refine ⟨_, rfl, rfl, _, rfl, ?_⟩
   refine ⟨_, rfl, _, _, rfl, rfl, _, rfl, ?_⟩
   refine ⟨_, rfl, _, _, rfl, rfl, _, rfl, ?_⟩
   exact ⟨_, rfl, h.p, h.dx, _, rfl, hh.ob, rfl, _, rfl, _, _, rfl, rfl, t.c_QUESTIONS, _, _, _, rfl, rfl, T.q_QUESTIONS.sq H, rfl, _, rfl, h, d, _, tl, _, _, t.so_goes.d, _, _, rfl, hh, hl, (ok_so_goes T).mono (by decide), T.so_goes.fn.kp, T.so_goes.b, .inr (.inr (.inl rfl)), fun s' w Q' hs' ok' post => ⟨s', w, b0, b1, rfl, hs', ok', post⟩, rfl, q⟩
  | c18 b0 b1 b2 b3 =>
   refine ⟨_, rfl, rfl, _, rfl, ?_⟩
   refine ⟨_, rfl, _, _, rfl, rfl, _, rfl, ?_⟩
   refine ⟨_, rfl, _, _, rfl, rfl, _, rfl, ?_⟩
   exact ⟨_, rfl, h.p, h.dx, _, rfl, hh.ob, rfl, _, rfl, _, _, rfl, rfl, t.c_QUESTIONS, _, _, _, rfl, rfl, T.q_QUESTIONS.sq H, rfl, _, rfl, h, d, _, tl, _, _, t.so_split.d, _, _, rfl, hh, hl, (ok_so_split T).mono (by decide), T.so_split.fn.kp, T.so_split.b, .inr (.inr (.inr (.inr (.inl rfl)))), fun s' w Q' hs' ok' post => ⟨s', w, b0, b1, b2, b3, rfl, hs', ok', post⟩, rfl, q⟩
  | c19 =>
   refine ⟨_, rfl, rfl, _, rfl, ?_⟩
   refine ⟨_, rfl, _, _, rfl, rfl, _, rfl, ?_⟩
   refine ⟨_, rfl, _, _, rfl, rfl, _, rfl, ?_⟩
   exact ⟨_, rfl, h.p, h.dx, _, rfl, hh.ob, rfl, _, rfl, _, _, rfl, rfl, t.c_QUESTIONS, _, _, _, rfl, rfl, T.q_QUESTIONS.sq H, rfl, _, rfl, h, d, _, tl, _, _, t.so_hopper.d, _, _, rfl, hh, hl, (ok_so_hopper T).mono (by decide), T.so_hopper.fn.kp, T.so_hopper.b, .inl rfl, fun s' w Q' hs' ok' post => ⟨s', w, rfl, hs', ok', post⟩, rfl, q⟩
  | c20 b0 =>
   refine ⟨_, rfl, rfl, _, rfl, ?_⟩
   refine ⟨_, rfl, _, _, rfl, rfl, _, rfl, ?_⟩
   refine ⟨_, rfl, _, _, rfl, rfl, _, rfl, ?_⟩
   exact ⟨_, rfl, h.p, h.dx, _, rfl, hh.ob, rfl, _, rfl, _, _, rfl, rfl, t.c_QUESTIONS, _, _, _, rfl, rfl, T.q_QUESTIONS.sq H, rfl, _, rfl, h, d, _, tl, _, _, t.so_in.d, _, _, rfl, hh, hl, (ok_so_in T).mono (by decide), T.so_in.fn.kp, T.so_in.b, .inr (.inl rfl), fun s' w Q' hs' ok' post => ⟨s', w, b0, rfl, hs', ok', post⟩, rfl, q⟩
  | c21 =>
   refine ⟨_, rfl, rfl, _, rfl, ?_⟩
   refine ⟨_, rfl, _, _, rfl, rfl, _, rfl, ?_⟩
   refine ⟨_, rfl, _, _, rfl, rfl, _, rfl, ?_⟩
   exact ⟨_, rfl, h.p, h.dx, _, rfl, hh.ob, rfl, _, rfl, _, _, rfl, rfl, t.c_QUESTIONS, _, _, _, rfl, rfl, T.q_QUESTIONS.sq H, rfl, _, rfl, h, d, _, tl, _, _, t.so_sets.d, _, _, rfl, hh, hl, (ok_so_sets T).mono (by decide), T.so_sets.fn.kp, T.so_sets.b, .inl rfl, fun s' w Q' hs' ok' post => ⟨s', w, rfl, hs', ok', post⟩, rfl, q⟩
  | c22 =>
   refine ⟨_, rfl, rfl, _, rfl, ?_⟩
   refine ⟨_, rfl, _, _, rfl, rfl, _, rfl, ?_⟩
   refine ⟨_, rfl, _, _, rfl, rfl, _, rfl, ?_⟩
   exact ⟨_, rfl, h.p, h.dx, _, rfl, hh.ob, rfl, _, rfl, _, _, rfl, rfl, t.c_QUESTIONS, _, _, _, rfl, rfl, T.q_QUESTIONS.sq H, rfl, _, rfl, h, d, _, tl, _, _, t.so_belts.d, _, _, rfl, hh, hl, (ok_so_belts T).mono (by decide), T.so_belts.fn.kp, T.so_belts.b, .inl rfl, fun s' w Q' hs' ok' post => ⟨s', w, rfl, hs', ok', post⟩, rfl, q⟩
  | c23 =>
   refine ⟨_, rfl, rfl, _, rfl, ?_⟩
   refine ⟨_, rfl, _, _, rfl, rfl, _, rfl, ?_⟩
   refine ⟨_, rfl, _, _, rfl, rfl, _, rfl, ?_⟩
   exact ⟨_, rfl, h.p, h.dx, _, rfl, hh.ob, rfl, _, rfl, _, _, rfl, rfl, t.c_QUESTIONS, _, _, _, rfl, rfl, T.q_QUESTIONS.sq H, rfl, _, rfl, h, d, _, tl, _, _, t.so_bales.d, _, _, rfl, hh, hl, (ok_so_bales T).mono (by decide), T.so_bales.fn.kp, T.so_bales.b, .inl rfl, fun s' w Q' hs' ok' post => ⟨s', w, rfl, hs', ok', post⟩, rfl, q⟩
  | c24 b0 =>
   refine ⟨_, rfl, rfl, _, rfl, ?_⟩
   refine ⟨_, rfl, _, _, rfl, rfl, _, rfl, ?_⟩
   refine ⟨_, rfl, _, _, rfl, rfl, _, rfl, ?_⟩
   exact ⟨_, rfl, h.p, h.dx, _, rfl, hh.ob, rfl, _, rfl, _, _, rfl, rfl, t.c_QUESTIONS, _, _, _, rfl, rfl, T.q_QUESTIONS.sq H, rfl, _, rfl, h, d, _, tl, _, _, t.so_look.d, _, _, rfl, hh, hl, (ok_so_look T).mono (by decide), T.so_look.fn.kp, T.so_look.b, .inr (.inl rfl), fun s' w Q' hs' ok' post => ⟨s', w, b0, rfl, hs', ok', post⟩, rfl, q⟩
  | c25 =>
   refine ⟨_, rfl, rfl, _, rfl, ?_⟩
   refine ⟨_, rfl, _, _, rfl, rfl, _, rfl, ?_⟩
   refine ⟨_, rfl, _, _, rfl, rfl, _, rfl, ?_⟩
   exact ⟨_, rfl, h.p, h.dx, _, rfl, hh.ob, rfl, _, rfl, _, _, rfl, rfl, t.c_QUESTIONS, _, _, _, rfl, rfl, T.q_QUESTIONS.sq H, rfl, _, rfl, h, d, _, tl, _, _, t.so_worth.d, _, _, rfl, hh, hl, (ok_so_worth T).mono (by decide), T.so_worth.fn.kp, T.so_worth.b, .inl rfl, fun s' w Q' hs' ok' post => ⟨s', w, rfl, hs', ok', post⟩, rfl, q⟩
  | c26 b0 =>
   refine ⟨_, rfl, rfl, _, rfl, ?_⟩
   refine ⟨_, rfl, _, _, rfl, rfl, _, rfl, ?_⟩
   refine ⟨_, rfl, _, _, rfl, rfl, _, rfl, ?_⟩
   exact ⟨_, rfl, h.p, h.dx, _, rfl, hh.ob, rfl, _, rfl, _, _, rfl, rfl, t.c_QUESTIONS, _, _, _, rfl, rfl, T.q_QUESTIONS.sq H, rfl, _, rfl, h, d, _, tl, _, _, t.so_sums.d, _, _, rfl, hh, hl, (ok_so_sums T).mono (by decide), T.so_sums.fn.kp, T.so_sums.b, .inr (.inl rfl), fun s' w Q' hs' ok' post => ⟨s', w, b0, rfl, hs', ok', post⟩, rfl, q⟩
  | c27 =>
   refine ⟨_, rfl, rfl, _, rfl, ?_⟩
   refine ⟨_, rfl, _, _, rfl, rfl, _, rfl, ?_⟩
   refine ⟨_, rfl, _, _, rfl, rfl, _, rfl, ?_⟩
   exact ⟨_, rfl, h.p, h.dx, _, rfl, hh.ob, rfl, _, rfl, _, _, rfl, rfl, t.c_QUESTIONS, _, _, _, rfl, rfl, T.q_QUESTIONS.sq H, rfl, _, rfl, h, d, _, tl, _, _, t.so_money.d, _, _, rfl, hh, hl, (ok_so_money T).mono (by decide), T.so_money.fn.kp, T.so_money.b, .inl rfl, fun s' w Q' hs' ok' post => ⟨s', w, rfl, hs', ok', post⟩, rfl, q⟩
  | c28 =>
   refine ⟨_, rfl, rfl, _, rfl, ?_⟩
   refine ⟨_, rfl, _, _, rfl, rfl, _, rfl, ?_⟩
   refine ⟨_, rfl, _, _, rfl, rfl, _, rfl, ?_⟩
   refine ⟨_, rfl, rfl, _, rfl, ?_⟩
   exact ⟨_, rfl, h.p, h.dx, _, rfl, hh.ob, rfl, h, d, rfl, hh, q⟩
  | c29 =>
   refine ⟨_, rfl, rfl, _, rfl, ?_⟩
   refine ⟨_, rfl, _, _, rfl, rfl, _, rfl, ?_⟩
   refine ⟨_, rfl, _, _, rfl, rfl, _, rfl, ?_⟩
   refine ⟨_, rfl, rfl, _, rfl, ?_⟩
   refine ⟨_, rfl, rfl, _, rfl, ?_⟩
   exact ⟨_, rfl, h.p, h.dx, _, rfl, hh.ob, rfl, h, d, rfl, hh, q⟩
  | c30 =>
   refine ⟨_, rfl, rfl, _, rfl, ?_⟩
   refine ⟨_, rfl, _, _, rfl, rfl, _, rfl, ?_⟩
   refine ⟨_, rfl, _, _, rfl, rfl, _, rfl, ?_⟩
   refine ⟨_, rfl, rfl, _, rfl, ?_⟩
   refine ⟨_, rfl, rfl, _, rfl, ?_⟩
   exact ⟨_, rfl, h.p, h.dx, _, rfl, hh.ob, rfl, h, d, rfl, hh, q⟩
abbrev N32 (z : Int) : Bool := Km414Neutral.natural z 32
abbrev Ak (p : Int) (as : List Int) (xs : List (List Int)) : Prop := Km414Neutral.asked1 (PyKm414.whole ((p :: as) :: xs)) = true
theorem nat_of {z : Int} {b : Nat} (h : Km414Neutral.natural z b = true) : ∃ n : Nat, z = (n : Int) := by
 unfold Km414Neutral.natural at h
 rw [Bool.and_eq_true, decide_eq_true_eq] at h
 exact ⟨z.toNat, by omega⟩
theorem nts_nats : ∀ {r : List Int}, r.all (fun (z : Int) => Km414Neutral.natural z 32) = true → nts (Km414Neutral.nats r) = r.map V.int
 | [], _ => rfl
 | z :: r, h => by
  rw [List.all_cons, Bool.and_eq_true] at h
  obtain ⟨n, rfl⟩ := nat_of h.1
  show V.int ((n : Nat) : Int) :: nts (Km414Neutral.nats r) = V.int ((n : Nat) : Int) :: r.map V.int
  rw [nts_nats h.2]
theorem row_of {r : List Int} (h : (decide (r.length = 6) && r.all (fun (z : Int) => Km414Neutral.natural z 32)) = true) : r.length = 6 ∧ nts (Km414Neutral.nats r) = r.map V.int := by
 rw [Bool.and_eq_true, decide_eq_true_eq] at h
 exact ⟨h.1, nts_nats h.2⟩
structure CallIs (p : Int) (n k : Nat) (as : List Int) (xs : List (List Int)) (pn : Nat) (x : Km414.Call) : Prop where
 hp : p = (pn : Int)
 sh : SH[pn]? = some [((n : Nat) : Int), ((k : Nat) : Int)]
 co : Km414Neutral.callOf (PyKm414.whole ((p :: as) :: xs)) = some x
 at_ : ∀ (H : Hp) (ras : List Addr), Paired (RowAt H) ras xs → CallAt H pn (as.map V.int ++ ras.map V.ref) x
 k1 : k ≤ 1
 n5 : n ≤ 5
 r6 : ∀ r ∈ xs, r.length = 6
variable {as : List Int} {xs : List (List Int)}
theorem call_is0 (la : as.length = 1) (lx : xs.length = 0) (ha : Ak 0 as xs) : ∃ x, CallIs 0 1 0 as xs 0 x := by
 match as, la, xs, lx with
 | [b0], _, [], _ =>
  have ha : N32 b0 = true := ha
  obtain ⟨z0, rfl⟩ := nat_of ha
  exact ⟨(.start z0), rfl, rfl, rfl, fun H ras h => match ras, h with | [], .nil => .c0 z0, by decide, by decide, fun r hr => by cases hr⟩
theorem call_is1 (la : as.length = 1) (lx : xs.length = 1) (ha : Ak 1 as xs) : ∃ x, CallIs 1 1 1 as xs 1 x := by
 match as, la, xs, lx with
 | [b0], _, [r0], _ =>
  have ha : (N32 b0 && (decide (r0.length = 6) && r0.all N32)) = true := ha
  rw [Bool.and_eq_true] at ha
  obtain ⟨h0, h1⟩ := ha
  obtain ⟨z0, rfl⟩ := nat_of h0
  obtain ⟨l6, e6⟩ := row_of h1
  exact ⟨(.machine z0 (Km414Neutral.nats r0)), rfl, rfl, rfl, fun H ras h => match ras, h with | [ra], .cons hr .nil => .c1 z0 ra _ (by rw [e6]; exact hr) (by simp [Km414Neutral.nats, l6]), by decide, by decide, fun r hr => by rw [List.mem_singleton.mp hr]; exact l6⟩
theorem call_is2 (la : as.length = 1) (lx : xs.length = 1) (ha : Ak 2 as xs) : ∃ x, CallIs 2 1 1 as xs 2 x := by
 match as, la, xs, lx with
 | [b0], _, [r0], _ =>
  have ha : (N32 b0 && (decide (r0.length = 6) && r0.all N32)) = true := ha
  rw [Bool.and_eq_true] at ha
  obtain ⟨h0, h1⟩ := ha
  obtain ⟨z0, rfl⟩ := nat_of h0
  obtain ⟨l6, e6⟩ := row_of h1
  exact ⟨(.setting z0 (Km414Neutral.nats r0)), rfl, rfl, rfl, fun H ras h => match ras, h with | [ra], .cons hr .nil => .c2 z0 ra _ (by rw [e6]; exact hr) (by simp [Km414Neutral.nats, l6]), by decide, by decide, fun r hr => by rw [List.mem_singleton.mp hr]; exact l6⟩
theorem call_is3 (la : as.length = 2) (lx : xs.length = 0) (ha : Ak 3 as xs) : ∃ x, CallIs 3 2 0 as xs 3 x := by
 match as, la, xs, lx with
 | [b0, b1], _, [], _ =>
  have ha : (N32 b0 && N32 b1) = true := ha
  simp only [Bool.and_eq_true] at ha
  obtain ⟨h0, h1⟩ := ha
  obtain ⟨z0, rfl⟩ := nat_of h0
  obtain ⟨z1, rfl⟩ := nat_of h1
  exact ⟨(.turn z0 z1), rfl, rfl, rfl, fun H ras h => match ras, h with | [], .nil => .c3 z0 z1, by decide, by decide, fun r hr => by cases hr⟩
theorem call_is4 (la : as.length = 3) (lx : xs.length = 0) (ha : Ak 4 as xs) : ∃ x, CallIs 4 3 0 as xs 4 x := by
 match as, la, xs, lx with
 | [b0, b1, b2], _, [], _ =>
  have ha : ((N32 b0 && N32 b1) && N32 b2) = true := ha
  simp only [Bool.and_eq_true] at ha
  obtain ⟨⟨h0, h1⟩, h2⟩ := ha
  obtain ⟨z0, rfl⟩ := nat_of h0
  obtain ⟨z1, rfl⟩ := nat_of h1
  obtain ⟨z2, rfl⟩ := nat_of h2
  exact ⟨(.belt z0 z1 z2), rfl, rfl, rfl, fun H ras h => match ras, h with | [], .nil => .c4 z0 z1 z2, by decide, by decide, fun r hr => by cases hr⟩
theorem call_is5 (la : as.length = 5) (lx : xs.length = 0) (ha : Ak 5 as xs) : ∃ x, CallIs 5 5 0 as xs 5 x := by
 match as, la, xs, lx with
 | [b0, b1, b2, b3, b4], _, [], _ =>
  have ha : ((((N32 b0 && N32 b1) && N32 b2) && N32 b3) && N32 b4) = true := ha
  simp only [Bool.and_eq_true] at ha
  obtain ⟨⟨⟨⟨h0, h1⟩, h2⟩, h3⟩, h4⟩ := ha
  obtain ⟨z0, rfl⟩ := nat_of h0
  obtain ⟨z1, rfl⟩ := nat_of h1
  obtain ⟨z2, rfl⟩ := nat_of h2
  obtain ⟨z3, rfl⟩ := nat_of h3
  obtain ⟨z4, rfl⟩ := nat_of h4
  exact ⟨(.bay z0 z1 z2 z3 z4), rfl, rfl, rfl, fun H ras h => match ras, h with | [], .nil => .c5 z0 z1 z2 z3 z4, by decide, by decide, fun r hr => by cases hr⟩
theorem call_is6 (la : as.length = 0) (lx : xs.length = 1) (ha : Ak 6 as xs) : ∃ x, CallIs 6 0 1 as xs 6 x := by
 match as, la, xs, lx with
 | [], _, [r0], _ =>
  have ha : (decide (r0.length = 6) && r0.all N32) = true := ha
  obtain ⟨l6, e6⟩ := row_of ha
  exact ⟨(.feed (Km414Neutral.nats r0)), rfl, rfl, rfl, fun H ras h => match ras, h with | [ra], .cons hr .nil => .c6 ra _ (by rw [e6]; exact hr) (by simp [Km414Neutral.nats, l6]), by decide, by decide, fun r hr => by rw [List.mem_singleton.mp hr]; exact l6⟩
theorem call_is7 (la : as.length = 0) (lx : xs.length = 0) (ha : Ak 7 as xs) : ∃ x, CallIs 7 0 0 as xs 7 x := by
 match as, la, xs, lx with
 | [], _, [], _ =>
  exact ⟨.run, rfl, rfl, rfl, fun H ras h => match ras, h with | [], .nil => .c7, by decide, by decide, fun r hr => by cases hr⟩
theorem call_is8 (la : as.length = 1) (lx : xs.length = 0) (ha : Ak 8 as xs) : ∃ x, CallIs 8 1 0 as xs 8 x := by
 match as, la, xs, lx with
 | [b0], _, [], _ =>
  have ha : N32 b0 = true := ha
  obtain ⟨z0, rfl⟩ := nat_of ha
  exact ⟨(.bale z0), rfl, rfl, rfl, fun H ras h => match ras, h with | [], .nil => .c8 z0, by decide, by decide, fun r hr => by cases hr⟩
theorem call_is9 (la : as.length = 2) (lx : xs.length = 0) (ha : Ak 9 as xs) : ∃ x, CallIs 9 2 0 as xs 9 x := by
 match as, la, xs, lx with
 | [b0, b1], _, [], _ =>
  have ha : (N32 b0 && N32 b1) = true := ha
  simp only [Bool.and_eq_true] at ha
  obtain ⟨h0, h1⟩ := ha
  obtain ⟨z0, rfl⟩ := nat_of h0
  obtain ⟨z1, rfl⟩ := nat_of h1
  exact ⟨(.dump z0 z1), rfl, rfl, rfl, fun H ras h => match ras, h with | [], .nil => .c9 z0 z1, by decide, by decide, fun r hr => by cases hr⟩
theorem call_is10 (la : as.length = 1) (lx : xs.length = 0) (ha : Ak 10 as xs) : ∃ x, CallIs 10 1 0 as xs 10 x := by
 match as, la, xs, lx with
 | [b0], _, [], _ =>
  have ha : N32 b0 = true := ha
  obtain ⟨z0, rfl⟩ := nat_of ha
  exact ⟨(.back_ z0), rfl, rfl, rfl, fun H ras h => match ras, h with | [], .nil => .c10 z0, by decide, by decide, fun r hr => by cases hr⟩
theorem call_is11 (la : as.length = 0) (lx : xs.length = 0) (ha : Ak 11 as xs) : ∃ x, CallIs 11 0 0 as xs 11 x := by
 match as, la, xs, lx with
 | [], _, [], _ =>
  exact ⟨.take, rfl, rfl, rfl, fun H ras h => match ras, h with | [], .nil => .c11, by decide, by decide, fun r hr => by cases hr⟩
theorem call_is12 (la : as.length = 1) (lx : xs.length = 0) (ha : Ak 12 as xs) : ∃ x, CallIs 12 1 0 as xs 12 x := by
 match as, la, xs, lx with
 | [b0], _, [], _ =>
  have ha : N32 b0 = true := ha
  obtain ⟨z0, rfl⟩ := nat_of ha
  exact ⟨(.would z0), rfl, rfl, rfl, fun H ras h => match ras, h with | [], .nil => .c12 z0, by decide, by decide, fun r hr => by cases hr⟩
theorem call_is13 (la : as.length = 0) (lx : xs.length = 0) (ha : Ak 13 as xs) : ∃ x, CallIs 13 0 0 as xs 13 x := by
 match as, la, xs, lx with
 | [], _, [], _ =>
  exact ⟨.loads, rfl, rfl, rfl, fun H ras h => match ras, h with | [], .nil => .c13, by decide, by decide, fun r hr => by cases hr⟩
theorem call_is14 (la : as.length = 1) (lx : xs.length = 0) (ha : Ak 14 as xs) : ∃ x, CallIs 14 1 0 as xs 14 x := by
 match as, la, xs, lx with
 | [b0], _, [], _ =>
  have ha : N32 b0 = true := ha
  obtain ⟨z0, rfl⟩ := nat_of ha
  exact ⟨(.pure_ z0), rfl, rfl, rfl, fun H ras h => match ras, h with | [], .nil => .c14 z0, by decide, by decide, fun r hr => by cases hr⟩
theorem call_is15 (la : as.length = 0) (lx : xs.length = 0) (ha : Ak 15 as xs) : ∃ x, CallIs 15 0 0 as xs 15 x := by
 match as, la, xs, lx with
 | [], _, [], _ =>
  exact ⟨.best, rfl, rfl, rfl, fun H ras h => match ras, h with | [], .nil => .c15, by decide, by decide, fun r hr => by cases hr⟩
theorem call_is16 (la : as.length = 1) (lx : xs.length = 0) (ha : Ak 16 as xs) : ∃ x, CallIs 16 1 0 as xs 16 x := by
 match as, la, xs, lx with
 | [b0], _, [], _ =>
  have ha : N32 b0 = true := ha
  obtain ⟨z0, rfl⟩ := nat_of ha
  exact ⟨(.often z0), rfl, rfl, rfl, fun H ras h => match ras, h with | [], .nil => .c16 z0, by decide, by decide, fun r hr => by cases hr⟩
theorem call_is17 (la : as.length = 2) (lx : xs.length = 0) (ha : Ak 17 as xs) : ∃ x, CallIs 17 2 0 as xs 17 x := by
 match as, la, xs, lx with
 | [b0, b1], _, [], _ =>
  have ha : (N32 b0 && N32 b1) = true := ha
  simp only [Bool.and_eq_true] at ha
  obtain ⟨h0, h1⟩ := ha
  obtain ⟨z0, rfl⟩ := nat_of h0
  obtain ⟨z1, rfl⟩ := nat_of h1
  exact ⟨(.goes z0 z1), rfl, rfl, rfl, fun H ras h => match ras, h with | [], .nil => .c17 z0 z1, by decide, by decide, fun r hr => by cases hr⟩
theorem call_is18 (la : as.length = 4) (lx : xs.length = 0) (ha : Ak 18 as xs) : ∃ x, CallIs 18 4 0 as xs 18 x := by
 match as, la, xs, lx with
 | [b0, b1, b2, b3], _, [], _ =>
  have ha : (((N32 b0 && N32 b1) && N32 b2) && N32 b3) = true := ha
  simp only [Bool.and_eq_true] at ha
  obtain ⟨⟨⟨h0, h1⟩, h2⟩, h3⟩ := ha
  obtain ⟨z0, rfl⟩ := nat_of h0
  obtain ⟨z1, rfl⟩ := nat_of h1
  obtain ⟨z2, rfl⟩ := nat_of h2
  obtain ⟨z3, rfl⟩ := nat_of h3
  exact ⟨(.split z0 z1 z2 z3), rfl, rfl, rfl, fun H ras h => match ras, h with | [], .nil => .c18 z0 z1 z2 z3, by decide, by decide, fun r hr => by cases hr⟩
theorem call_is19 (la : as.length = 0) (lx : xs.length = 0) (ha : Ak 19 as xs) : ∃ x, CallIs 19 0 0 as xs 19 x := by
 match as, la, xs, lx with
 | [], _, [], _ =>
  exact ⟨.hopper, rfl, rfl, rfl, fun H ras h => match ras, h with | [], .nil => .c19, by decide, by decide, fun r hr => by cases hr⟩
theorem call_is20 (la : as.length = 1) (lx : xs.length = 0) (ha : Ak 20 as xs) : ∃ x, CallIs 20 1 0 as xs 20 x := by
 match as, la, xs, lx with
 | [b0], _, [], _ =>
  have ha : N32 b0 = true := ha
  obtain ⟨z0, rfl⟩ := nat_of ha
  exact ⟨(.in_ z0), rfl, rfl, rfl, fun H ras h => match ras, h with | [], .nil => .c20 z0, by decide, by decide, fun r hr => by cases hr⟩
theorem call_is21 (la : as.length = 0) (lx : xs.length = 0) (ha : Ak 21 as xs) : ∃ x, CallIs 21 0 0 as xs 21 x := by
 match as, la, xs, lx with
 | [], _, [], _ =>
  exact ⟨.sets, rfl, rfl, rfl, fun H ras h => match ras, h with | [], .nil => .c21, by decide, by decide, fun r hr => by cases hr⟩
theorem call_is22 (la : as.length = 0) (lx : xs.length = 0) (ha : Ak 22 as xs) : ∃ x, CallIs 22 0 0 as xs 22 x := by
 match as, la, xs, lx with
 | [], _, [], _ =>
  exact ⟨.belts, rfl, rfl, rfl, fun H ras h => match ras, h with | [], .nil => .c22, by decide, by decide, fun r hr => by cases hr⟩
theorem call_is23 (la : as.length = 0) (lx : xs.length = 0) (ha : Ak 23 as xs) : ∃ x, CallIs 23 0 0 as xs 23 x := by
 match as, la, xs, lx with
 | [], _, [], _ =>
  exact ⟨.bales, rfl, rfl, rfl, fun H ras h => match ras, h with | [], .nil => .c23, by decide, by decide, fun r hr => by cases hr⟩
theorem call_is24 (la : as.length = 1) (lx : xs.length = 0) (ha : Ak 24 as xs) : ∃ x, CallIs 24 1 0 as xs 24 x := by
 match as, la, xs, lx with
 | [b0], _, [], _ =>
  have ha : N32 b0 = true := ha
  obtain ⟨z0, rfl⟩ := nat_of ha
  exact ⟨(.look z0), rfl, rfl, rfl, fun H ras h => match ras, h with | [], .nil => .c24 z0, by decide, by decide, fun r hr => by cases hr⟩
theorem call_is25 (la : as.length = 0) (lx : xs.length = 0) (ha : Ak 25 as xs) : ∃ x, CallIs 25 0 0 as xs 25 x := by
 match as, la, xs, lx with
 | [], _, [], _ =>
  exact ⟨.worth, rfl, rfl, rfl, fun H ras h => match ras, h with | [], .nil => .c25, by decide, by decide, fun r hr => by cases hr⟩
theorem call_is26 (la : as.length = 1) (lx : xs.length = 0) (ha : Ak 26 as xs) : ∃ x, CallIs 26 1 0 as xs 26 x := by
 match as, la, xs, lx with
 | [b0], _, [], _ =>
  have ha : N32 b0 = true := ha
  obtain ⟨z0, rfl⟩ := nat_of ha
  exact ⟨(.sums z0), rfl, rfl, rfl, fun H ras h => match ras, h with | [], .nil => .c26 z0, by decide, by decide, fun r hr => by cases hr⟩
theorem call_is27 (la : as.length = 0) (lx : xs.length = 0) (ha : Ak 27 as xs) : ∃ x, CallIs 27 0 0 as xs 27 x := by
 match as, la, xs, lx with
 | [], _, [], _ =>
  exact ⟨.money, rfl, rfl, rfl, fun H ras h => match ras, h with | [], .nil => .c27, by decide, by decide, fun r hr => by cases hr⟩
theorem call_is28 (la : as.length = 0) (lx : xs.length = 0) (ha : Ak 28 as xs) : ∃ x, CallIs 28 0 0 as xs 28 x := by
 match as, la, xs, lx with
 | [], _, [], _ =>
  exact ⟨.back, rfl, rfl, rfl, fun H ras h => match ras, h with | [], .nil => .c28, by decide, by decide, fun r hr => by cases hr⟩
theorem call_is29 (la : as.length = 0) (lx : xs.length = 0) (ha : Ak 29 as xs) : ∃ x, CallIs 29 0 0 as xs 29 x := by
 match as, la, xs, lx with
 | [], _, [], _ =>
  exact ⟨.again, rfl, rfl, rfl, fun H ras h => match ras, h with | [], .nil => .c29, by decide, by decide, fun r hr => by cases hr⟩
theorem call_is30 (la : as.length = 0) (lx : xs.length = 0) (ha : Ak 30 as xs) : ∃ x, CallIs 30 0 0 as xs 30 x := by
 match as, la, xs, lx with
 | [], _, [], _ =>
  exact ⟨.state, rfl, rfl, rfl, fun H ras h => match ras, h with | [], .nil => .c30, by decide, by decide, fun r hr => by cases hr⟩
theorem call_is {p : Int} {n k : Nat} {as : List Int} {xs : List (List Int)} (hs : PyKm414.shape p = some (n, k)) (la : as.length = n) (lx : xs.length = k) (ha : Km414Neutral.asked1 (PyKm414.whole ((p :: as) :: xs)) = true) : ∃ pn x, CallIs p n k as xs pn x := by
 by_cases h0 : p = 0
 ·subst h0
  have hs : some (1, 0) = some (n, k) := hs
  cases hs
  exact ⟨0, call_is0 la lx ha⟩
 by_cases h1 : p = 1
 ·subst h1
  have hs : some (1, 1) = some (n, k) := hs
  cases hs
  exact ⟨1, call_is1 la lx ha⟩
 by_cases h2 : p = 2
 ·subst h2
  have hs : some (1, 1) = some (n, k) := hs
  cases hs
  exact ⟨2, call_is2 la lx ha⟩
 by_cases h3 : p = 3
 ·subst h3
  have hs : some (2, 0) = some (n, k) := hs
  cases hs
  exact ⟨3, call_is3 la lx ha⟩
 by_cases h4 : p = 4
 ·subst h4
  have hs : some (3, 0) = some (n, k) := hs
  cases hs
  exact ⟨4, call_is4 la lx ha⟩
 by_cases h5 : p = 5
 ·subst h5
  have hs : some (5, 0) = some (n, k) := hs
  cases hs
  exact ⟨5, call_is5 la lx ha⟩
 by_cases h6 : p = 6
 ·subst h6
  have hs : some (0, 1) = some (n, k) := hs
  cases hs
  exact ⟨6, call_is6 la lx ha⟩
 by_cases h7 : p = 7
 ·subst h7
  have hs : some (0, 0) = some (n, k) := hs
  cases hs
  exact ⟨7, call_is7 la lx ha⟩
 by_cases h8 : p = 8
 ·subst h8
  have hs : some (1, 0) = some (n, k) := hs
  cases hs
  exact ⟨8, call_is8 la lx ha⟩
 by_cases h9 : p = 9
 ·subst h9
  have hs : some (2, 0) = some (n, k) := hs
  cases hs
  exact ⟨9, call_is9 la lx ha⟩
 by_cases h10 : p = 10
 ·subst h10
  have hs : some (1, 0) = some (n, k) := hs
  cases hs
  exact ⟨10, call_is10 la lx ha⟩
 by_cases h11 : p = 11
 ·subst h11
  have hs : some (0, 0) = some (n, k) := hs
  cases hs
  exact ⟨11, call_is11 la lx ha⟩
 by_cases h12 : p = 12
 ·subst h12
  have hs : some (1, 0) = some (n, k) := hs
  cases hs
  exact ⟨12, call_is12 la lx ha⟩
 by_cases h13 : p = 13
 ·subst h13
  have hs : some (0, 0) = some (n, k) := hs
  cases hs
  exact ⟨13, call_is13 la lx ha⟩
 by_cases h14 : p = 14
 ·subst h14
  have hs : some (1, 0) = some (n, k) := hs
  cases hs
  exact ⟨14, call_is14 la lx ha⟩
 by_cases h15 : p = 15
 ·subst h15
  have hs : some (0, 0) = some (n, k) := hs
  cases hs
  exact ⟨15, call_is15 la lx ha⟩
 by_cases h16 : p = 16
 ·subst h16
  have hs : some (1, 0) = some (n, k) := hs
  cases hs
  exact ⟨16, call_is16 la lx ha⟩
 by_cases h17 : p = 17
 ·subst h17
  have hs : some (2, 0) = some (n, k) := hs
  cases hs
  exact ⟨17, call_is17 la lx ha⟩
 by_cases h18 : p = 18
 ·subst h18
  have hs : some (4, 0) = some (n, k) := hs
  cases hs
  exact ⟨18, call_is18 la lx ha⟩
 by_cases h19 : p = 19
 ·subst h19
  have hs : some (0, 0) = some (n, k) := hs
  cases hs
  exact ⟨19, call_is19 la lx ha⟩
 by_cases h20 : p = 20
 ·subst h20
  have hs : some (1, 0) = some (n, k) := hs
  cases hs
  exact ⟨20, call_is20 la lx ha⟩
 by_cases h21 : p = 21
 ·subst h21
  have hs : some (0, 0) = some (n, k) := hs
  cases hs
  exact ⟨21, call_is21 la lx ha⟩
 by_cases h22 : p = 22
 ·subst h22
  have hs : some (0, 0) = some (n, k) := hs
  cases hs
  exact ⟨22, call_is22 la lx ha⟩
 by_cases h23 : p = 23
 ·subst h23
  have hs : some (0, 0) = some (n, k) := hs
  cases hs
  exact ⟨23, call_is23 la lx ha⟩
 by_cases h24 : p = 24
 ·subst h24
  have hs : some (1, 0) = some (n, k) := hs
  cases hs
  exact ⟨24, call_is24 la lx ha⟩
 by_cases h25 : p = 25
 ·subst h25
  have hs : some (0, 0) = some (n, k) := hs
  cases hs
  exact ⟨25, call_is25 la lx ha⟩
 by_cases h26 : p = 26
 ·subst h26
  have hs : some (1, 0) = some (n, k) := hs
  cases hs
  exact ⟨26, call_is26 la lx ha⟩
 by_cases h27 : p = 27
 ·subst h27
  have hs : some (0, 0) = some (n, k) := hs
  cases hs
  exact ⟨27, call_is27 la lx ha⟩
 by_cases h28 : p = 28
 ·subst h28
  have hs : some (0, 0) = some (n, k) := hs
  cases hs
  exact ⟨28, call_is28 la lx ha⟩
 by_cases h29 : p = 29
 ·subst h29
  have hs : some (0, 0) = some (n, k) := hs
  cases hs
  exact ⟨29, call_is29 la lx ha⟩
 by_cases h30 : p = 30
 ·subst h30
  have hs : some (0, 0) = some (n, k) := hs
  cases hs
  exact ⟨30, call_is30 la lx ha⟩
 unfold PyKm414.shape at hs
 simp only [h0, h1, h2, h3, h4, h5, h6, h7, h8, h9, h10, h11, h12, h13, h14, h15, h16, h17, h18, h19, h20, h21, h22, h23, h24, h25, h26, h27, h28, h29, h30, if_false] at hs
 cases hs
theorem rows_len : ∀ {k : Nat} {r : List Int} {xs : List (List Int)} {tl : List Int}, PyFlat.rows k r = some (xs, tl) → xs.length = k
 | 0, r, xs, tl, h => by rw [(rows0 h).1]; rfl
 | k + 1, r, xs, tl, h => by
  unfold PyFlat.rows at h
  cases hr : PyFlat.row r with
  | none => rw [hr] at h; cases h
  | some y =>
   obtain ⟨x, s⟩ := y
   rw [hr] at h
   dsimp only at h
   cases hk : PyFlat.rows k s with
   | none => rw [hk] at h; cases h
   | some z =>
    obtain ⟨ys, u⟩ := z
    rw [hk] at h
    have h := Option.some.inj h
    have e : x :: ys = xs := congrArg Prod.fst h
    rw [← e, List.length_cons, rows_len hk]
theorem calls_len : ∀ (cs : List (List (List Int))) (f : Nat) (l : List Int), PyFlat.calls PyKm414.shape f l = some cs → (∀ c ∈ cs, Km414Neutral.asked1 (PyKm414.whole c) = true) → l.length ≤ 13 * cs.length := by
 intro cs
 induction cs with
 | nil =>
  intro f l h _
  cases l with
  | nil => exact Nat.le_refl _
  | cons p r => obtain ⟨f', n, k, xs, tl, cs', _, _, _, e, _⟩ := calls_cons h; cases e
 | cons c cs ih =>
  intro f l h ha
  cases l with
  | nil => exact Nat.zero_le _
  | cons p r =>
   obtain ⟨f', n, k, xs, tl, cs', hs, hn, hr, e, ht⟩ := calls_cons h
   cases e
   obtain ⟨pn, x, ci⟩ := call_is hs (as := r.take n) (by rw [List.length_take]; omega) (rows_len hr) (ha _ (by simp))
   have h1 := ih f' tl ht fun c hc => ha c (by simp [hc])
   have k1 := ci.k1
   have n5 := ci.n5
   have hd : (r.drop n).length = r.length - n := List.length_drop
   have : r.length ≤ n + 7 + tl.length := by
    have : k = 0 ∨ k = 1 := by omega
    rcases this with rfl | rfl
    ·obtain ⟨_, e⟩ := rows0 hr
     rw [e, hd]; omega
    ·obtain ⟨m, q, e0, hm, ex, et⟩ := rows1 hr
     have := ci.r6 (q.take m) (by rw [ex]; simp)
     rw [List.length_take] at this
     rw [e0, List.length_cons] at hd
     have e3 : tl.length = q.length - m := by rw [et, List.length_drop]
     omega
   rw [List.length_cons, List.length_cons]
   omega
theorem asked_short {l : List Int} (h : PyKm414.answers_asked l = true) : (PyKm414.answers l).length ≤ 10000000 := by
 unfold PyKm414.answers_asked at h
 cases hc : PyFlat.calls PyKm414.shape l.length l with
 | none => rw [hc] at h; cases h
 | some cs =>
  rw [hc] at h
  dsimp only at h
  simp only [Bool.and_eq_true] at h
  exact of_decide_eq_true h.2
def deskOf (s : Km414Neutral.S) (d : Desk) : Prop := ∀ d', s = some d' → d' = d
theorem step_is {s : Km414Neutral.S} {c : Km414Neutral.Call} {x : Km414.Call} {d : Desk} (hx : Km414Neutral.callOf c = some x) (hd : deskOf s d) (hm : (Km414Neutral.step s c).2 ≠ []) :
  (Km414Neutral.step s c).2 = Km414Neutral.told (Km414.act d x).2 ∧ deskOf (Km414Neutral.step s c).1 (Km414.act d x).1 := by
 cases s with
 | some d' =>
  have e := hd d' rfl
  subst e
  unfold Km414Neutral.step
  rw [hx]
  exact ⟨rfl, fun d2 e => (Option.some.inj e).symm⟩
 | none =>
  unfold Km414Neutral.step at hm ⊢
  rw [hx] at hm ⊢
  dsimp only at hm ⊢
  cases x with
  | start b =>
   have e : (Km414Neutral.isStart (Km414.Call.start b)) = true := rfl
   rw [if_pos e]
   dsimp only
   by_cases hb : Km414.KINDS < b
   ·have e1 : ∀ d, Km414.act d (.start b) = (d, Km414.only (-22)) := fun d => by unfold Km414.act; dsimp only; rw [if_pos hb]
    rw [e1, e1]
    exact ⟨rfl, fun d2 e => by cases e⟩
   ·have e1 : ∀ d, Km414.act d (.start b) = (Km414.fresh b, Km414.only 0) := fun d => by unfold Km414.act; dsimp only; rw [if_neg hb]; rfl
    rw [e1, e1]
    exact ⟨rfl, fun d2 e => (Option.some.inj e).symm⟩
  | _ => exact absurd rfl hm
def spAns (K : PySem.W.Frag) : Sp := fun vs H Q _ => ∃ (a : Addr) (ns : List Int), vs = [.ref a] ∧ SqL K H a (ns.map V.int) ∧ PyKm414.answers_asked ns = true ∧
 ∀ H' p, H' p = some (.lst ((PyKm414.answers ns).map V.int)) → Q (.ref p) H'
theorem sq_or {H : Hp} {a : Addr} {xs : List V} (h : SqL K H a xs) : (∃ o, H a = some o) ∨ ∀ H1, SqL K H1 a xs := by
 rcases h with (h | ⟨o, h⟩) | h
 ·exact .inl ⟨_, h⟩
 ·exact .inl ⟨_, h⟩
 ·exact .inr fun _ => .inr h
def LoopAt (t : Ad) (K : PySem.W.Frag) (H0 : Hp) (a tp tdx an : Addr) (ns : List Int) (m : Nat) (σ : L2.St) (H : Hp) : Prop :=
 ∃ (v4 v5 : Option V) (j f : Nat) (cs : List (List (List Int))) (st : Km414Neutral.S) (h : HA) (d : Desk) (done : List Int),
  σ = [some (.ref a), some (.ref tp), some (.ref h.p), some (.ref an), v4, v5] ∧ m = cs.length ∧ Same H0 H ∧ TapeAt t K H tp tdx a ns j ∧ PyFlat.calls PyKm414.shape f (ns.drop j) = some cs ∧ j ≤ ns.length ∧
  (∀ c ∈ cs, Km414Neutral.asked1 (PyKm414.whole c) = true) ∧ Km414Neutral.may st (cs.map PyKm414.whole) = true ∧ deskOf st d ∧ HistAt t K H h d ∧ (∀ c, hAll h c → c ≠ tp ∧ c ≠ an ∧ H0 c = none) ∧
  H an = some (.lst (done.map V.int)) ∧ PyKm414.answers ns = done ++ PyFlat.told (PyFlat.played Km414Neutral.step st (cs.map PyKm414.whole))
theorem ok_answers (T : Txt K mg t) : FnOk P w K mg base CX0 10 t.answers.f t.answers.d ["calls"] (spAns K) := by
 refine T.answers.fn.ok sc_answers (fun vs H Q E h => ?_) (fun cdv A outer s H vs Q E hr h => ?_)
 ·obtain ⟨a, ns, rfl, _⟩ := h
  rfl
 ·obtain ⟨a, ns, rfl, hl, ask, q⟩ := h
  obtain ⟨cs, hcs, c1000, hask, hmay, hans⟩ := asked_parts ask
  have hshort := asked_short ask
  have hlen := calls_len cs _ _ hcs hask
  have hns : ns.length ≤ 30000 := by omega
  refine ⟨_, (pss_cons (ps_set (i := 1) sc_answers.nd rfl (Or.inl rfl) (pmake T.Tape T.Tape_init (ok_Tape_init T) hr.m (pa_cons (pv 0) pa_nil))) (pss_cons (ps_set (i := 2) sc_answers.nd rfl (Or.inl rfl) (pmake0 T.History T.History_init (ok_History_init T) hr.m)) (pss_cons (ps_set (i := 3) sc_answers.nd rfl (Or.inl rfl) (pe_lst pa_nil)) (pss_cons (ps_while PassesOwn.never (pt_not (pt_val (pmeth0 T.Tape T.Tape_ended (ok_Tape_ended T) hr.m (pv 1)))) (pss_cons (ps_set (i := 4) sc_answers.nd rfl (Or.inl rfl) (pmeth0 T.Tape T.Tape_number (ok_Tape_number T) hr.m (pv 1))) (pss_cons (ps_set (i := 5) sc_answers.nd rfl (Or.inl rfl) (pcall T.answer_to (ok_answer_to T) hr.m (pa_cons (pv 2) (pa_cons (pv 4) (pa_cons (pcall T.told_behind (ok_told_behind T) hr.m (pa_cons (pv 1) (pa_cons (pv 4) pa_nil))) pa_nil))))) (pss_cons (ps_expr (pe_bm PySem.F.plainAttrs_list PySem.F.slot_list_append PySem.F.type_list_append mt_append (pv 3) (pa_cons (pe_callB (call_lenK (K := K)) (by rfl) T.n_len PySem.boot_len (pa_cons (pv 5) pa_nil)) pa_nil))) (pss_one (ps_expr (pe_bm PySem.F.plainAttrs_list PySem.F.slot_list_extend PySem.F.type_list_extend mt_extend (pv 3) (pa_cons (pv 5) pa_nil)))))))) (pss_one (ps_ret (pv 3))))))), ?_⟩
  refine ⟨_, rfl, fun tp tdx htp htd hne => ?_⟩
  refine ⟨tp, tdx, .ref a, rfl, upd_same, rfl, ?_⟩
  rw [upd_upd]
  have s1 : Same H (upd (upd H tdx (.own tp)) tp (.ins t.c_Tape tdx (tfs (.ref a) (.int 0)))) := Same.inst htp htd
  have ob1 : (upd (upd H tdx (.own tp)) tp (.ins t.c_Tape tdx (tfs (.ref a) (.int 0)))) tp = some (.ins t.c_Tape tdx (tfs (.ref a) (.int 0))) := upd_same
  generalize upd (upd H tdx (.own tp)) tp (.ins t.c_Tape tdx (tfs (.ref a) (.int 0))) = H1 at *
  have ta1 : TapeAt t K H1 tp tdx a ns 0 := ⟨ob1, Same.seq s1 hl, (sq_or hl).elim (fun ⟨o, e⟩ => .inl (ne_of_none e htp)) .inr⟩
  intro hp hdx hhp hhd hne2
  refine ⟨hp, hdx, rfl, upd_same, fun H2 h k2 e2 hh fr2 => ⟨rfl, ?_⟩⟩
  have si := Same.inst (C := t.c_History) (fs := []) hhp hhd
  have s2 : Same H1 H2 := KF.sameNew hhp si k2
  have fr : ∀ c, hAll h c → H1 c = none := fun c hc => by
   rcases fr2 c hc with z | z
   ·rw [z]; exact hhp
   ·exact si.free z
  rw [← e2]
  refine ⟨by show 0 ≤ sizeLine; decide, fun an han => ?_⟩
  have s3 := Same.new (o := .lst []) han
  have an0 : H an = none := (s1.trans s2).free han
  have hh3 := hh.same s3
  have ta3 := (ta1.same s2).same s3
  have san : (upd H2 an (.lst [])) an = some (.lst []) := upd_same
  have s03 := (s1.trans s2).trans s3
  have inv0 : ∀ c, hAll h c → c ≠ tp ∧ c ≠ an ∧ H c = none := fun c hc => by
   have c1 := fr c hc
   refine ⟨(fun z => by rw [z, ob1] at c1; cases c1), fun z => ?_, s1.free c1⟩
   rw [z] at hc
   rcases hc with (y | y | y) | y | ⟨s', hs', y⟩ | ⟨s', hs', y⟩
   ·rw [y, hh.ob] at han; cases han
   ·rw [y, hh.pl] at han; cases han
   ·rw [y, hh.ul] at han; cases han
   ·exact foot_new hh.now han y
   ·obtain ⟨w', hw'⟩ := pd_memL hh.past hs'
    exact foot_new hw' han y
   ·obtain ⟨w', hw'⟩ := pd_memL hh.fut hs'
    exact foot_new hw' han y
  change tSeq _ _ _ _ (upd H2 an (.lst []))
  generalize upd H2 an (.lst []) = H3 at *
  refine ⟨LoopAt t K H a tp tdx an ns, ⟨cs.length, _, _, 0, ns.length, cs, Km414Neutral.start, h, Km414.fresh 6, [], rfl, rfl, s03, ta3, hcs, Nat.zero_le _, hask, hmay, (fun d' e => by cases e), hh3, inv0, san, hans⟩, ?_⟩
  clear hh3 ta3 inv0 san s03 hh fr fr2 k2 s2 s3 hmay hask hans hcs
  rintro m σ H4 ⟨v4, v5, j, f, cs, st, h, d, done, rfl, rfl, s4, ta, hcs, hj, hask, hmay, hdk, hh, inv, hA, hans⟩
  refine ⟨_, rfl, tp, tdx, _, rfl, ta.ob, rfl, tp, tdx, a, ns, j, rfl, ta, _, rfl, ?_⟩
  by_cases hend : ns.length ≤ j
  ·rw [decide_eq_true hend]
   have e0 : ns.drop j = [] := List.drop_eq_nil_of_le hend
   rw [e0] at hcs
   have e1 := calls_nil hcs
   subst e1
   refine ⟨_, rfl, q H4 an ?_⟩
   rw [hA, hans]
   simp [PyFlat.played, PyFlat.told]
  ·rw [decide_eq_false hend]
   have hlt : j < ns.length := by omega
   refine ⟨fun σ' H' => ∃ m', m' < cs.length ∧ LoopAt t K H a tp tdx an ns m' σ' H', fun σ' H' z => z, ?_⟩
   have ed : ns.drop j = ns[j] :: ns.drop (j + 1) := List.drop_eq_getElem_cons hlt
   have ez : ns[j]? = some ns[j] := List.getElem?_eq_getElem hlt
   generalize ns[j] = z at *
   rw [ed] at hcs
   obtain ⟨f', n, k, xs, tl, cs', hsh, hn, hrow, rfl, hcs'⟩ := calls_cons hcs
   have lr : (ns.drop (j + 1)).length = ns.length - (j + 1) := List.length_drop
   obtain ⟨pn, x, ci⟩ := call_is hsh (as := (ns.drop (j + 1)).take n) (by rw [List.length_take]; omega) (rows_len hrow) (hask _ (by simp))
   obtain rfl := ci.hp
   have hmy := may_cons (s := st) (c := PyKm414.whole ((((pn : Nat) : Int) :: (ns.drop (j + 1)).take n) :: xs)) (l := cs'.map PyKm414.whole) hmay
   obtain ⟨hst2, hdk2⟩ := step_is ci.co hdk hmy.1
   rw [List.map_cons] at hans
   unfold PyFlat.played at hans
   rw [told_cons, hst2] at hans
   generalize (Km414Neutral.step st (PyKm414.whole ((((pn : Nat) : Int) :: (ns.drop (j + 1)).take n) :: xs))).1 = st2 at *
   refine ⟨_, rfl, tp, tdx, _, rfl, ta.ob, rfl, tp, tdx, a, ns, j, _, rfl, ta, ez, fun H5 k5 ta5 => ?_⟩
   refine ⟨_, rfl, _, rfl, _, rfl, _, rfl, tp, tdx, a, ns, j + 1, pn, n, k, xs, tl, rfl, ta5, ci.sh, ci.k1, by omega, by rw [← List.drop_drop]; exact hrow, hns, fun H6 r ras j' k6 ta6 ej hj' hij hr6 prs frs hrn => ?_⟩
   have k46 := k5.trans k6
   have s6 : Same H H6 := KF.sameNew htp s4 k46
   have ntp : an ≠ tp := fun y => by rw [y, ta.ob] at hA; cases hA
   have hA6 := k46 _ _ hA ntp
   have hh6 : HistAt t K H6 h d := hh.kf k46 (fun c e => by rw [e]; exact .inr ⟨_, _, _, ta.ob⟩) fun c hc e => (inv c hc).1 e
   refine ⟨h, d, pn, r, _, x, rfl, hh6, hr6, ci.at_ H6 ras prs, fun H7 h7 al k7 ep fr7 hh7 hal haln => ?_⟩
   have s7 : Same H H7 := fun b o hb => k7 b o (s6 b o hb) fun y => by rw [(inv b (.inl y)).2.2] at hb; cases hb
   have ob7 := k7 _ _ ta6.ob fun y => (inv _ (.inl y)).1 rfl
   have hA7 := k7 _ _ hA6 fun y => (inv _ (.inl y)).2.1 rfl
   have inv7 : ∀ c, hAll h7 c → c ≠ tp ∧ c ≠ an ∧ H c = none := fun c hc => by
    rcases fr7 c hc with y | y
    ·exact inv c y
    ·refine ⟨fun e => ?_, fun e => ?_, s6.free y⟩
     ·rw [e, ta6.ob] at y; cases y
     ·rw [e, hA6] at y; cases y
   have alan : al ≠ an := fun e => by rw [e, hA6] at haln; cases haln
   have elen : (ansV (Km414.act d x).2).length = (Km414Neutral.told (Km414.act d x).2).length := List.length_map _
   have hdl : done.length + 1 + (Km414Neutral.told (Km414.act d x).2).length ≤ 10000000 := by
    rw [hans] at hshort
    simp only [List.length_append, List.length_cons] at hshort
    omega
   refine ⟨_, rfl, .inl ⟨rfl, _, SqL.of hA7⟩, _, rfl, al, _, rfl, .inl (SqL.of hal), an, _, _, rfl, rfl, hA7, by rw [List.length_map]; exact Nat.lt_of_le_of_lt (show done.length ≤ 10000000 by omega) (by decide), ?_⟩
   rw [elen]
   have k8 : KF (· = an) H7 (upd H7 an (.lst (done.map V.int ++ [.int (((Km414Neutral.told (Km414.act d x).2).length : Nat) : Int)]))) := KF.upd rfl
   have hA8 : (upd H7 an (.lst (done.map V.int ++ [.int (((Km414Neutral.told (Km414.act d x).2).length : Nat) : Int)]))) an = _ := upd_same
   have hal8 := k8 _ _ hal alan
   generalize upd H7 an (.lst (done.map V.int ++ [.int (((Km414Neutral.told (Km414.act d x).2).length : Nat) : Int)])) = H8 at *
   refine ⟨_, rfl, .inl ⟨rfl, _, SqL.of hA8⟩, _, rfl, an, al, _, _, rfl, rfl, hA8, hal8, ?_, ?_⟩
   ·rw [List.length_append, List.length_map, elen]
    exact Nat.le_trans (show done.length + 1 + (Km414Neutral.told (Km414.act d x).2).length ≤ 10000000 from hdl) (by decide)
   have k9 : KF (· = an) H8 (upd H8 an (.lst (done.map V.int ++ [.int (((Km414Neutral.told (Km414.act d x).2).length : Nat) : Int)] ++ ansV (Km414.act d x).2))) := KF.upd rfl
   have hA9 : (upd H8 an (.lst (done.map V.int ++ [.int (((Km414Neutral.told (Km414.act d x).2).length : Nat) : Int)] ++ ansV (Km414.act d x).2))) an = _ := upd_same
   generalize upd H8 an (.lst (done.map V.int ++ [.int (((Km414Neutral.told (Km414.act d x).2).length : Nat) : Int)] ++ ansV (Km414.act d x).2)) = H9 at *
   have k79 := k8.trans k9
   have an0 : H an = none := an0
   have s9 : Same H H9 := KF.sameNew an0 s7 k79
   have hh9 := hh7.kf k79 (fun c e => by rw [e]; exact .inl ⟨_, hA7⟩) fun c hc e => (inv7 c hc).2.1 e
   refine ⟨cs'.length, by rw [List.length_cons]; omega, some (.int (pn : Nat)), some (.ref al), j', f', cs', st2, h7, (Km414.act d x).1, done ++ ((((Km414Neutral.told (Km414.act d x).2).length : Nat) : Int) :: Km414Neutral.told (Km414.act d x).2), ?_, rfl, s9, ⟨k79 _ _ ob7 (Ne.symm ntp), Same.seq s9 hl, ta.np⟩, by rw [ej]; exact hcs', hj', fun c hc => hask c (by simp [hc]), hmy.2, hdk2, hh9, inv7, ?_, ?_⟩
   ·rw [ep]; rfl
   ·rw [hA9, List.map_append, List.map_cons]
    unfold ansV
    simp
   ·rw [hans]; simp
theorem fn_at {K : PySem.W.Frag} {h : Heap} {mg : Str → Option Value} {x : Str} {st : Stmt} {ps : List Str} {f : Addr} {oc kV doc pm cdv ct : Value} {od an : Option Addr} {sl : Array (Option Value)} (X : K.In h) (G : h.Ns mainGlobals mg)
  (b : ∀ (kV doc pm : Value) (an : Option Addr) (cdv ct : Value) (us : List Value), us.length = ps.length → bindArgs (PySem.W.fnOf x x (defArgs st) (defBody st) (defScope st) .none kV doc pm an cdv ct) ⟨us, []⟩ = pure (ps.zip us))
  (a : PySem.W.nsIn K mainGlobals x = some (some (.ref f))) (l : K.lookup f = some ⟨oc, od, .func (PySem.W.fnOf x x (defArgs st) (defBody st) (defScope st) .none kV doc pm an cdv ct), sl⟩) (c : PySem.W.codeIn K cdv x = true) (k : PySem.W.keepIn K (.ref f) = true) : ∃ r, FnAt K mg x st ps r := by
 have F := fun_mk (st := st) l c k
 exact ⟨⟨f, _⟩, F, F.binds b, PySem.W.mg_of X G a⟩
theorem mt_mk {K : PySem.W.Frag} {C f : Addr} {m qual : Str} {st : Stmt} {ps : List Str} {oc kV doc pm cdv ct : Value} {od an : Option Addr} {sl : Array (Option Value)}
  (b : ∀ (kV doc pm : Value) (an : Option Addr) (cdv ct : Value) (us : List Value), us.length = ps.length → bindArgs (PySem.W.fnOf m qual (defArgs st) (defBody st) (defScope st) .none kV doc pm an cdv ct) ⟨us, []⟩ = pure (ps.zip us))
  (a : PySem.W.findIn K (.ref C) m = some (some (.ref f))) (i : PySem.W.isFn K (.ref f) = true) (l : K.lookup f = some ⟨oc, od, .func (PySem.W.fnOf m qual (defArgs st) (defBody st) (defScope st) .none kV doc pm an cdv ct), sl⟩) (c : PySem.W.codeIn K cdv qual = true) (k : PySem.W.keepIn K (.ref f) = true) :
  MtAt K C m qual st ps ⟨f, PySem.W.fnOf m qual (defArgs st) (defBody st) (defScope st) .none kV doc pm an cdv ct⟩ := by
 have F := fun_mk (st := st) l c k
 exact ⟨F, F.binds b, a, i, k⟩
theorem int_at {K : PySem.W.Frag} {h : Heap} {mg : Str → Option Value} {x : Str} {v : Int} {tk : Tok} (X : K.In h) (G : h.Ns mainGlobals mg) (a : PySem.W.nsIn K mainGlobals x = some (some (.int v tk))) : GInt mg x v := ⟨tk, PySem.W.mg_of X G a⟩
theorem no_at {K : PySem.W.Frag} {h : Heap} {mg : Str → Option Value} {x : Str} (X : K.In h) (G : h.Ns mainGlobals mg) (a : PySem.W.nsIn K mainGlobals x = some none) : mg x = none := PySem.W.mg_none_of X G a
theorem tup_at {K : PySem.W.Frag} {h : Heap} {mg : Str → Option Value} {x : Str} {c : Addr} {cl : Value} {d : Option Addr} {its : Array Value} {n : Nat} {sl : Array (Option Value)} {xs : List V} (X : K.In h) (G : h.Ns mainGlobals mg) (a : PySem.W.nsIn K mainGlobals x = some (some (.ref c)))
  (l : K.lookup c = some ⟨cl, d, .seq its n, sl⟩) (hc : cl = .type "tuple") (hs : its.size ≤ sizeLine) (v : Vals xs its.toList) : ∃ c, mg x = some (.ref c) ∧ KTup K c xs := ⟨c, PySem.W.mg_of X G a, _, its, n, l, hc, rfl, hs, v⟩
theorem cls_Machine {K : PySem.W.Frag} {h : Heap} {mg : Str → Option Value} {C : Addr} {f0 : Addr} {oc0 kV0 dc0 pm0 cd0 ct0 : Value} {od0 an0 : Option Addr} {sl0 : Array (Option Value)} {f1 : Addr} {oc1 kV1 dc1 pm1 cd1 ct1 : Value} {od1 an1 : Option Addr} {sl1 : Array (Option Value)} (X : K.In h) (G : h.Ns mainGlobals mg)
  (aC : PySem.W.nsIn K mainGlobals "Machine" = some (some (.ref C))) (pg : PySem.W.plainGet K C Str.empty = true) (hd : PySem.W.hasDictIn K C = true) (po : PySem.W.plainOver K C = true) (sa : PySem.W.findIn K (.ref C) "__setattr__" = some (some (.builtin "object.__setattr__"))) (mk : PySem.W.makesIn K C = true) (kc : PySem.W.keepIn K (.ref C) = true)
  (a0 : PySem.W.findIn K (.ref C) "__init__" = some (some (.ref f0))) (i0 : PySem.W.isFn K (.ref f0) = true) (l0 : K.lookup f0 = some ⟨oc0, od0, .func (PySem.W.fnOf "__init__" "Machine.__init__" (defArgs s_Machine_init) (defBody s_Machine_init) (defScope s_Machine_init) .none kV0 dc0 pm0 an0 cd0 ct0), sl0⟩) (c0 : PySem.W.codeIn K cd0 "Machine.__init__" = true) (k0 : PySem.W.keepIn K (.ref f0) = true)
  (a1 : PySem.W.findIn K (.ref C) "copied" = some (some (.ref f1))) (i1 : PySem.W.isFn K (.ref f1) = true) (l1 : K.lookup f1 = some ⟨oc1, od1, .func (PySem.W.fnOf "copied" "Machine.copied" (defArgs s_Machine_copied) (defBody s_Machine_copied) (defScope s_Machine_copied) .none kV1 dc1 pm1 an1 cd1 ct1), sl1⟩) (c1 : PySem.W.codeIn K cd1 "Machine.copied" = true) (k1 : PySem.W.keepIn K (.ref f1) = true)
  (n_most : PySem.W.findIn K (.ref C) "most" = some none)
  (n_settings : PySem.W.findIn K (.ref C) "settings" = some none)
  (n_chosen : PySem.W.findIn K (.ref C) "chosen" = some none)
  (n_belts : PySem.W.findIn K (.ref C) "belts" = some none) :
  ∃ (C : Addr) (r0 : FnRec) (r1 : FnRec), ClAt K mg "Machine" C r0.f ∧ MtAt K C "__init__" "Machine.__init__" s_Machine_init ["self", "most", "setting"] r0 ∧ MtAt K C "copied" "Machine.copied" s_Machine_copied ["self"] r1 ∧ NoAttr K C "most" ∧ NoAttr K C "settings" ∧ NoAttr K C "chosen" ∧ NoAttr K C "belts" :=
 ⟨C, _, _, ⟨⟨pg, hd, po, sa⟩, PySem.W.mg_of X G aC, ⟨mk, a0, i0, kc⟩⟩, mt_mk (fun _ _ _ _ _ _ us hl => match us, hl with | [_, _, _], _ => rfl) a0 i0 l0 c0 k0, mt_mk (fun _ _ _ _ _ _ us hl => match us, hl with | [_], _ => rfl) a1 i1 l1 c1 k1, n_most, n_settings, n_chosen, n_belts⟩
theorem cls_Bay {K : PySem.W.Frag} {h : Heap} {mg : Str → Option Value} {C : Addr} {f0 : Addr} {oc0 kV0 dc0 pm0 cd0 ct0 : Value} {od0 an0 : Option Addr} {sl0 : Array (Option Value)} {f1 : Addr} {oc1 kV1 dc1 pm1 cd1 ct1 : Value} {od1 an1 : Option Addr} {sl1 : Array (Option Value)} (X : K.In h) (G : h.Ns mainGlobals mg)
  (aC : PySem.W.nsIn K mainGlobals "Bay" = some (some (.ref C))) (pg : PySem.W.plainGet K C Str.empty = true) (hd : PySem.W.hasDictIn K C = true) (po : PySem.W.plainOver K C = true) (sa : PySem.W.findIn K (.ref C) "__setattr__" = some (some (.builtin "object.__setattr__"))) (mk : PySem.W.makesIn K C = true) (kc : PySem.W.keepIn K (.ref C) = true)
  (a0 : PySem.W.findIn K (.ref C) "__init__" = some (some (.ref f0))) (i0 : PySem.W.isFn K (.ref f0) = true) (l0 : K.lookup f0 = some ⟨oc0, od0, .func (PySem.W.fnOf "__init__" "Bay.__init__" (defArgs s_Bay_init) (defBody s_Bay_init) (defScope s_Bay_init) .none kV0 dc0 pm0 an0 cd0 ct0), sl0⟩) (c0 : PySem.W.codeIn K cd0 "Bay.__init__" = true) (k0 : PySem.W.keepIn K (.ref f0) = true)
  (a1 : PySem.W.findIn K (.ref C) "copied" = some (some (.ref f1))) (i1 : PySem.W.isFn K (.ref f1) = true) (l1 : K.lookup f1 = some ⟨oc1, od1, .func (PySem.W.fnOf "copied" "Bay.copied" (defArgs s_Bay_copied) (defBody s_Bay_copied) (defScope s_Bay_copied) .none kV1 dc1 pm1 an1 cd1 ct1), sl1⟩) (c1 : PySem.W.codeIn K cd1 "Bay.copied" = true) (k1 : PySem.W.keepIn K (.ref f1) = true)
  (n_kind : PySem.W.findIn K (.ref C) "kind" = some none)
  (n_pure : PySem.W.findIn K (.ref C) "pure" = some none)
  (n_price : PySem.W.findIn K (.ref C) "price" = some none)
  (n_most : PySem.W.findIn K (.ref C) "most" = some none)
  (n_mix : PySem.W.findIn K (.ref C) "mix" = some none) :
  ∃ (C : Addr) (r0 : FnRec) (r1 : FnRec), ClAt K mg "Bay" C r0.f ∧ MtAt K C "__init__" "Bay.__init__" s_Bay_init ["self"] r0 ∧ MtAt K C "copied" "Bay.copied" s_Bay_copied ["self"] r1 ∧ NoAttr K C "kind" ∧ NoAttr K C "pure" ∧ NoAttr K C "price" ∧ NoAttr K C "most" ∧ NoAttr K C "mix" :=
 ⟨C, _, _, ⟨⟨pg, hd, po, sa⟩, PySem.W.mg_of X G aC, ⟨mk, a0, i0, kc⟩⟩, mt_mk (fun _ _ _ _ _ _ us hl => match us, hl with | [_], _ => rfl) a0 i0 l0 c0 k0, mt_mk (fun _ _ _ _ _ _ us hl => match us, hl with | [_], _ => rfl) a1 i1 l1 c1 k1, n_kind, n_pure, n_price, n_most, n_mix⟩
theorem cls_State {K : PySem.W.Frag} {h : Heap} {mg : Str → Option Value} {C : Addr} {f0 : Addr} {oc0 kV0 dc0 pm0 cd0 ct0 : Value} {od0 an0 : Option Addr} {sl0 : Array (Option Value)} {f1 : Addr} {oc1 kV1 dc1 pm1 cd1 ct1 : Value} {od1 an1 : Option Addr} {sl1 : Array (Option Value)} (X : K.In h) (G : h.Ns mainGlobals mg)
  (aC : PySem.W.nsIn K mainGlobals "State" = some (some (.ref C))) (pg : PySem.W.plainGet K C Str.empty = true) (hd : PySem.W.hasDictIn K C = true) (po : PySem.W.plainOver K C = true) (sa : PySem.W.findIn K (.ref C) "__setattr__" = some (some (.builtin "object.__setattr__"))) (mk : PySem.W.makesIn K C = true) (kc : PySem.W.keepIn K (.ref C) = true)
  (a0 : PySem.W.findIn K (.ref C) "__init__" = some (some (.ref f0))) (i0 : PySem.W.isFn K (.ref f0) = true) (l0 : K.lookup f0 = some ⟨oc0, od0, .func (PySem.W.fnOf "__init__" "State.__init__" (defArgs s_State_init) (defBody s_State_init) (defScope s_State_init) .none kV0 dc0 pm0 an0 cd0 ct0), sl0⟩) (c0 : PySem.W.codeIn K cd0 "State.__init__" = true) (k0 : PySem.W.keepIn K (.ref f0) = true)
  (a1 : PySem.W.findIn K (.ref C) "copied" = some (some (.ref f1))) (i1 : PySem.W.isFn K (.ref f1) = true) (l1 : K.lookup f1 = some ⟨oc1, od1, .func (PySem.W.fnOf "copied" "State.copied" (defArgs s_State_copied) (defBody s_State_copied) (defScope s_State_copied) .none kV1 dc1 pm1 an1 cd1 ct1), sl1⟩) (c1 : PySem.W.codeIn K cd1 "State.copied" = true) (k1 : PySem.W.keepIn K (.ref f1) = true)
  (n_harm : PySem.W.findIn K (.ref C) "harm" = some none)
  (n_hopper : PySem.W.findIn K (.ref C) "hopper" = some none)
  (n_machines : PySem.W.findIn K (.ref C) "machines" = some none)
  (n_bays : PySem.W.findIn K (.ref C) "bays" = some none)
  (n_bales : PySem.W.findIn K (.ref C) "bales" = some none)
  (n_fed : PySem.W.findIn K (.ref C) "fed" = some none)
  (n_dumped : PySem.W.findIn K (.ref C) "dumped" = some none)
  (n_cost : PySem.W.findIn K (.ref C) "cost" = some none) :
  ∃ (C : Addr) (r0 : FnRec) (r1 : FnRec), ClAt K mg "State" C r0.f ∧ MtAt K C "__init__" "State.__init__" s_State_init ["self", "harm"] r0 ∧ MtAt K C "copied" "State.copied" s_State_copied ["self"] r1 ∧ NoAttr K C "harm" ∧ NoAttr K C "hopper" ∧ NoAttr K C "machines" ∧ NoAttr K C "bays" ∧ NoAttr K C "bales" ∧ NoAttr K C "fed" ∧ NoAttr K C "dumped" ∧ NoAttr K C "cost" :=
 ⟨C, _, _, ⟨⟨pg, hd, po, sa⟩, PySem.W.mg_of X G aC, ⟨mk, a0, i0, kc⟩⟩, mt_mk (fun _ _ _ _ _ _ us hl => match us, hl with | [_, _], _ => rfl) a0 i0 l0 c0 k0, mt_mk (fun _ _ _ _ _ _ us hl => match us, hl with | [_], _ => rfl) a1 i1 l1 c1 k1, n_harm, n_hopper, n_machines, n_bays, n_bales, n_fed, n_dumped, n_cost⟩
theorem cls_History {K : PySem.W.Frag} {h : Heap} {mg : Str → Option Value} {C : Addr} {f0 : Addr} {oc0 kV0 dc0 pm0 cd0 ct0 : Value} {od0 an0 : Option Addr} {sl0 : Array (Option Value)} {f1 : Addr} {oc1 kV1 dc1 pm1 cd1 ct1 : Value} {od1 an1 : Option Addr} {sl1 : Array (Option Value)} {f2 : Addr} {oc2 kV2 dc2 pm2 cd2 ct2 : Value} {od2 an2 : Option Addr} {sl2 : Array (Option Value)} {f3 : Addr} {oc3 kV3 dc3 pm3 cd3 ct3 : Value} {od3 an3 : Option Addr} {sl3 : Array (Option Value)} {f4 : Addr} {oc4 kV4 dc4 pm4 cd4 ct4 : Value} {od4 an4 : Option Addr} {sl4 : Array (Option Value)} {f5 : Addr} {oc5 kV5 dc5 pm5 cd5 ct5 : Value} {od5 an5 : Option Addr} {sl5 : Array (Option Value)} {f6 : Addr} {oc6 kV6 dc6 pm6 cd6 ct6 : Value} {od6 an6 : Option Addr} {sl6 : Array (Option Value)} (X : K.In h) (G : h.Ns mainGlobals mg)
  (aC : PySem.W.nsIn K mainGlobals "History" = some (some (.ref C))) (pg : PySem.W.plainGet K C Str.empty = true) (hd : PySem.W.hasDictIn K C = true) (po : PySem.W.plainOver K C = true) (sa : PySem.W.findIn K (.ref C) "__setattr__" = some (some (.builtin "object.__setattr__"))) (mk : PySem.W.makesIn K C = true) (kc : PySem.W.keepIn K (.ref C) = true)
  (a0 : PySem.W.findIn K (.ref C) "__init__" = some (some (.ref f0))) (i0 : PySem.W.isFn K (.ref f0) = true) (l0 : K.lookup f0 = some ⟨oc0, od0, .func (PySem.W.fnOf "__init__" "History.__init__" (defArgs s_History_init) (defBody s_History_init) (defScope s_History_init) .none kV0 dc0 pm0 an0 cd0 ct0), sl0⟩) (c0 : PySem.W.codeIn K cd0 "History.__init__" = true) (k0 : PySem.W.keepIn K (.ref f0) = true)
  (a1 : PySem.W.findIn K (.ref C) "begin" = some (some (.ref f1))) (i1 : PySem.W.isFn K (.ref f1) = true) (l1 : K.lookup f1 = some ⟨oc1, od1, .func (PySem.W.fnOf "begin" "History.begin" (defArgs s_History_begin) (defBody s_History_begin) (defScope s_History_begin) .none kV1 dc1 pm1 an1 cd1 ct1), sl1⟩) (c1 : PySem.W.codeIn K cd1 "History.begin" = true) (k1 : PySem.W.keepIn K (.ref f1) = true)
  (a2 : PySem.W.findIn K (.ref C) "change" = some (some (.ref f2))) (i2 : PySem.W.isFn K (.ref f2) = true) (l2 : K.lookup f2 = some ⟨oc2, od2, .func (PySem.W.fnOf "change" "History.change" (defArgs s_History_change) (defBody s_History_change) (defScope s_History_change) .none kV2 dc2 pm2 an2 cd2 ct2), sl2⟩) (c2 : PySem.W.codeIn K cd2 "History.change" = true) (k2 : PySem.W.keepIn K (.ref f2) = true)
  (a3 : PySem.W.findIn K (.ref C) "ask" = some (some (.ref f3))) (i3 : PySem.W.isFn K (.ref f3) = true) (l3 : K.lookup f3 = some ⟨oc3, od3, .func (PySem.W.fnOf "ask" "History.ask" (defArgs s_History_ask) (defBody s_History_ask) (defScope s_History_ask) .none kV3 dc3 pm3 an3 cd3 ct3), sl3⟩) (c3 : PySem.W.codeIn K cd3 "History.ask" = true) (k3 : PySem.W.keepIn K (.ref f3) = true)
  (a4 : PySem.W.findIn K (.ref C) "back" = some (some (.ref f4))) (i4 : PySem.W.isFn K (.ref f4) = true) (l4 : K.lookup f4 = some ⟨oc4, od4, .func (PySem.W.fnOf "back" "History.back" (defArgs s_History_back) (defBody s_History_back) (defScope s_History_back) .none kV4 dc4 pm4 an4 cd4 ct4), sl4⟩) (c4 : PySem.W.codeIn K cd4 "History.back" = true) (k4 : PySem.W.keepIn K (.ref f4) = true)
  (a5 : PySem.W.findIn K (.ref C) "again" = some (some (.ref f5))) (i5 : PySem.W.isFn K (.ref f5) = true) (l5 : K.lookup f5 = some ⟨oc5, od5, .func (PySem.W.fnOf "again" "History.again" (defArgs s_History_again) (defBody s_History_again) (defScope s_History_again) .none kV5 dc5 pm5 an5 cd5 ct5), sl5⟩) (c5 : PySem.W.codeIn K cd5 "History.again" = true) (k5 : PySem.W.keepIn K (.ref f5) = true)
  (a6 : PySem.W.findIn K (.ref C) "standing" = some (some (.ref f6))) (i6 : PySem.W.isFn K (.ref f6) = true) (l6 : K.lookup f6 = some ⟨oc6, od6, .func (PySem.W.fnOf "standing" "History.standing" (defArgs s_History_standing) (defBody s_History_standing) (defScope s_History_standing) .none kV6 dc6 pm6 an6 cd6 ct6), sl6⟩) (c6 : PySem.W.codeIn K cd6 "History.standing" = true) (k6 : PySem.W.keepIn K (.ref f6) = true)
  (n_state : PySem.W.findIn K (.ref C) "state" = some none)
  (n_past : PySem.W.findIn K (.ref C) "past" = some none)
  (n_undone : PySem.W.findIn K (.ref C) "undone" = some none) :
  ∃ (C : Addr) (r0 : FnRec) (r1 : FnRec) (r2 : FnRec) (r3 : FnRec) (r4 : FnRec) (r5 : FnRec) (r6 : FnRec), ClAt K mg "History" C r0.f ∧ MtAt K C "__init__" "History.__init__" s_History_init ["self"] r0 ∧ MtAt K C "begin" "History.begin" s_History_begin ["self", "harm"] r1 ∧ MtAt K C "change" "History.change" s_History_change ["self", "call", "told"] r2 ∧ MtAt K C "ask" "History.ask" s_History_ask ["self", "call", "told"] r3 ∧ MtAt K C "back" "History.back" s_History_back ["self"] r4 ∧ MtAt K C "again" "History.again" s_History_again ["self"] r5 ∧ MtAt K C "standing" "History.standing" s_History_standing ["self"] r6 ∧ NoAttr K C "state" ∧ NoAttr K C "past" ∧ NoAttr K C "undone" :=
 ⟨C, _, _, _, _, _, _, _, ⟨⟨pg, hd, po, sa⟩, PySem.W.mg_of X G aC, ⟨mk, a0, i0, kc⟩⟩, mt_mk (fun _ _ _ _ _ _ us hl => match us, hl with | [_], _ => rfl) a0 i0 l0 c0 k0, mt_mk (fun _ _ _ _ _ _ us hl => match us, hl with | [_, _], _ => rfl) a1 i1 l1 c1 k1, mt_mk (fun _ _ _ _ _ _ us hl => match us, hl with | [_, _, _], _ => rfl) a2 i2 l2 c2 k2, mt_mk (fun _ _ _ _ _ _ us hl => match us, hl with | [_, _, _], _ => rfl) a3 i3 l3 c3 k3, mt_mk (fun _ _ _ _ _ _ us hl => match us, hl with | [_], _ => rfl) a4 i4 l4 c4 k4, mt_mk (fun _ _ _ _ _ _ us hl => match us, hl with | [_], _ => rfl) a5 i5 l5 c5 k5, mt_mk (fun _ _ _ _ _ _ us hl => match us, hl with | [_], _ => rfl) a6 i6 l6 c6 k6, n_state, n_past, n_undone⟩
theorem cls_Tape {K : PySem.W.Frag} {h : Heap} {mg : Str → Option Value} {C : Addr} {f0 : Addr} {oc0 kV0 dc0 pm0 cd0 ct0 : Value} {od0 an0 : Option Addr} {sl0 : Array (Option Value)} {f1 : Addr} {oc1 kV1 dc1 pm1 cd1 ct1 : Value} {od1 an1 : Option Addr} {sl1 : Array (Option Value)} {f2 : Addr} {oc2 kV2 dc2 pm2 cd2 ct2 : Value} {od2 an2 : Option Addr} {sl2 : Array (Option Value)} {f3 : Addr} {oc3 kV3 dc3 pm3 cd3 ct3 : Value} {od3 an3 : Option Addr} {sl3 : Array (Option Value)} {f4 : Addr} {oc4 kV4 dc4 pm4 cd4 ct4 : Value} {od4 an4 : Option Addr} {sl4 : Array (Option Value)} (X : K.In h) (G : h.Ns mainGlobals mg)
  (aC : PySem.W.nsIn K mainGlobals "Tape" = some (some (.ref C))) (pg : PySem.W.plainGet K C Str.empty = true) (hd : PySem.W.hasDictIn K C = true) (po : PySem.W.plainOver K C = true) (sa : PySem.W.findIn K (.ref C) "__setattr__" = some (some (.builtin "object.__setattr__"))) (mk : PySem.W.makesIn K C = true) (kc : PySem.W.keepIn K (.ref C) = true)
  (a0 : PySem.W.findIn K (.ref C) "__init__" = some (some (.ref f0))) (i0 : PySem.W.isFn K (.ref f0) = true) (l0 : K.lookup f0 = some ⟨oc0, od0, .func (PySem.W.fnOf "__init__" "Tape.__init__" (defArgs s_Tape_init) (defBody s_Tape_init) (defScope s_Tape_init) .none kV0 dc0 pm0 an0 cd0 ct0), sl0⟩) (c0 : PySem.W.codeIn K cd0 "Tape.__init__" = true) (k0 : PySem.W.keepIn K (.ref f0) = true)
  (a1 : PySem.W.findIn K (.ref C) "ended" = some (some (.ref f1))) (i1 : PySem.W.isFn K (.ref f1) = true) (l1 : K.lookup f1 = some ⟨oc1, od1, .func (PySem.W.fnOf "ended" "Tape.ended" (defArgs s_Tape_ended) (defBody s_Tape_ended) (defScope s_Tape_ended) .none kV1 dc1 pm1 an1 cd1 ct1), sl1⟩) (c1 : PySem.W.codeIn K cd1 "Tape.ended" = true) (k1 : PySem.W.keepIn K (.ref f1) = true)
  (a2 : PySem.W.findIn K (.ref C) "take" = some (some (.ref f2))) (i2 : PySem.W.isFn K (.ref f2) = true) (l2 : K.lookup f2 = some ⟨oc2, od2, .func (PySem.W.fnOf "take" "Tape.take" (defArgs s_Tape_take) (defBody s_Tape_take) (defScope s_Tape_take) .none kV2 dc2 pm2 an2 cd2 ct2), sl2⟩) (c2 : PySem.W.codeIn K cd2 "Tape.take" = true) (k2 : PySem.W.keepIn K (.ref f2) = true)
  (a3 : PySem.W.findIn K (.ref C) "number" = some (some (.ref f3))) (i3 : PySem.W.isFn K (.ref f3) = true) (l3 : K.lookup f3 = some ⟨oc3, od3, .func (PySem.W.fnOf "number" "Tape.number" (defArgs s_Tape_number) (defBody s_Tape_number) (defScope s_Tape_number) .none kV3 dc3 pm3 an3 cd3 ct3), sl3⟩) (c3 : PySem.W.codeIn K cd3 "Tape.number" = true) (k3 : PySem.W.keepIn K (.ref f3) = true)
  (a4 : PySem.W.findIn K (.ref C) "row" = some (some (.ref f4))) (i4 : PySem.W.isFn K (.ref f4) = true) (l4 : K.lookup f4 = some ⟨oc4, od4, .func (PySem.W.fnOf "row" "Tape.row" (defArgs s_Tape_row) (defBody s_Tape_row) (defScope s_Tape_row) .none kV4 dc4 pm4 an4 cd4 ct4), sl4⟩) (c4 : PySem.W.codeIn K cd4 "Tape.row" = true) (k4 : PySem.W.keepIn K (.ref f4) = true)
  (n_numbers : PySem.W.findIn K (.ref C) "numbers" = some none)
  (n_at : PySem.W.findIn K (.ref C) "at" = some none) :
  ∃ (C : Addr) (r0 : FnRec) (r1 : FnRec) (r2 : FnRec) (r3 : FnRec) (r4 : FnRec), ClAt K mg "Tape" C r0.f ∧ MtAt K C "__init__" "Tape.__init__" s_Tape_init ["self", "numbers"] r0 ∧ MtAt K C "ended" "Tape.ended" s_Tape_ended ["self"] r1 ∧ MtAt K C "take" "Tape.take" s_Tape_take ["self", "length"] r2 ∧ MtAt K C "number" "Tape.number" s_Tape_number ["self"] r3 ∧ MtAt K C "row" "Tape.row" s_Tape_row ["self"] r4 ∧ NoAttr K C "numbers" ∧ NoAttr K C "at" :=
 ⟨C, _, _, _, _, _, ⟨⟨pg, hd, po, sa⟩, PySem.W.mg_of X G aC, ⟨mk, a0, i0, kc⟩⟩, mt_mk (fun _ _ _ _ _ _ us hl => match us, hl with | [_, _], _ => rfl) a0 i0 l0 c0 k0, mt_mk (fun _ _ _ _ _ _ us hl => match us, hl with | [_], _ => rfl) a1 i1 l1 c1 k1, mt_mk (fun _ _ _ _ _ _ us hl => match us, hl with | [_, _], _ => rfl) a2 i2 l2 c2 k2, mt_mk (fun _ _ _ _ _ _ us hl => match us, hl with | [_], _ => rfl) a3 i3 l3 c3 k3, mt_mk (fun _ _ _ _ _ _ us hl => match us, hl with | [_], _ => rfl) a4 i4 l4 c4 k4, n_numbers, n_at⟩
theorem tf_NOTHING {K : PySem.W.Frag} {h : Heap} {mg : Str → Option Value} {c : Addr} {d : Option Addr} {n : Nat} {sl : Array (Option Value)} {u0 u1 u2 u3 u4 u5 : Tok} (X : K.In h) (G : h.Ns mainGlobals mg) (a : PySem.W.nsIn K mainGlobals "NOTHING" = some (some (.ref c)))
  (l : K.lookup c = some ⟨.type "tuple", d, .seq #[.int 0 u0, .int 0 u1, .int 0 u2, .int 0 u3, .int 0 u4, .int 0 u5] n, sl⟩) : ∃ c, mg "NOTHING" = some (.ref c) ∧ KTup K c [.int 0, .int 0, .int 0, .int 0, .int 0, .int 0] :=
 ⟨c, PySem.W.mg_of X G a, _, _, n, l, rfl, rfl, by show 6 ≤ sizeLine; decide, .cons ⟨_, rfl⟩ (.cons ⟨_, rfl⟩ (.cons ⟨_, rfl⟩ (.cons ⟨_, rfl⟩ (.cons ⟨_, rfl⟩ (.cons ⟨_, rfl⟩ (.nil))))))⟩
theorem tf_CHANGES {K : PySem.W.Frag} {h : Heap} {mg : Str → Option Value} {c a0 a1 a2 a3 a4 a5 a6 a7 a8 a9 a10 b0 b1 b2 b3 b4 b5 b6 b7 b8 b9 b10 : Addr} {d : Option Addr} {n : Nat} {sl : Array (Option Value)} (X : K.In h) (G : h.Ns mainGlobals mg) (a : PySem.W.nsIn K mainGlobals "CHANGES" = some (some (.ref c)))
  (l : K.lookup c = some ⟨.type "tuple", d, .seq #[.ref a0, .ref a1, .ref a2, .ref a3, .ref a4, .ref a5, .ref a6, .ref a7, .ref a8, .ref a9, .ref a10] n, sl⟩)
  (g0 : PySem.W.nsIn K mainGlobals "so_machine" = some (some (.ref a0))) (m0 : mg "so_machine" = some (.ref b0))
  (g1 : PySem.W.nsIn K mainGlobals "so_setting" = some (some (.ref a1))) (m1 : mg "so_setting" = some (.ref b1))
  (g2 : PySem.W.nsIn K mainGlobals "so_turn" = some (some (.ref a2))) (m2 : mg "so_turn" = some (.ref b2))
  (g3 : PySem.W.nsIn K mainGlobals "so_belt" = some (some (.ref a3))) (m3 : mg "so_belt" = some (.ref b3))
  (g4 : PySem.W.nsIn K mainGlobals "so_bay" = some (some (.ref a4))) (m4 : mg "so_bay" = some (.ref b4))
  (g5 : PySem.W.nsIn K mainGlobals "so_feed" = some (some (.ref a5))) (m5 : mg "so_feed" = some (.ref b5))
  (g6 : PySem.W.nsIn K mainGlobals "so_run" = some (some (.ref a6))) (m6 : mg "so_run" = some (.ref b6))
  (g7 : PySem.W.nsIn K mainGlobals "so_bale" = some (some (.ref a7))) (m7 : mg "so_bale" = some (.ref b7))
  (g8 : PySem.W.nsIn K mainGlobals "so_dump" = some (some (.ref a8))) (m8 : mg "so_dump" = some (.ref b8))
  (g9 : PySem.W.nsIn K mainGlobals "so_return" = some (some (.ref a9))) (m9 : mg "so_return" = some (.ref b9))
  (g10 : PySem.W.nsIn K mainGlobals "so_take" = some (some (.ref a10))) (m10 : mg "so_take" = some (.ref b10)) : ∃ c, mg "CHANGES" = some (.ref c) ∧ KTup K c [.ref b0, .ref b1, .ref b2, .ref b3, .ref b4, .ref b5, .ref b6, .ref b7, .ref b8, .ref b9, .ref b10] := by
 have e0 := m0.symm.trans (PySem.W.mg_of X G g0)
 injection e0 with e0
 injection e0 with e0
 subst e0
 have e1 := m1.symm.trans (PySem.W.mg_of X G g1)
 injection e1 with e1
 injection e1 with e1
 subst e1
 have e2 := m2.symm.trans (PySem.W.mg_of X G g2)
 injection e2 with e2
 injection e2 with e2
 subst e2
 have e3 := m3.symm.trans (PySem.W.mg_of X G g3)
 injection e3 with e3
 injection e3 with e3
 subst e3
 have e4 := m4.symm.trans (PySem.W.mg_of X G g4)
 injection e4 with e4
 injection e4 with e4
 subst e4
 have e5 := m5.symm.trans (PySem.W.mg_of X G g5)
 injection e5 with e5
 injection e5 with e5
 subst e5
 have e6 := m6.symm.trans (PySem.W.mg_of X G g6)
 injection e6 with e6
 injection e6 with e6
 subst e6
 have e7 := m7.symm.trans (PySem.W.mg_of X G g7)
 injection e7 with e7
 injection e7 with e7
 subst e7
 have e8 := m8.symm.trans (PySem.W.mg_of X G g8)
 injection e8 with e8
 injection e8 with e8
 subst e8
 have e9 := m9.symm.trans (PySem.W.mg_of X G g9)
 injection e9 with e9
 injection e9 with e9
 subst e9
 have e10 := m10.symm.trans (PySem.W.mg_of X G g10)
 injection e10 with e10
 injection e10 with e10
 subst e10
 exact ⟨c, PySem.W.mg_of X G a, _, _, n, l, rfl, rfl, by show 11 ≤ sizeLine; decide, .cons rfl (.cons rfl (.cons rfl (.cons rfl (.cons rfl (.cons rfl (.cons rfl (.cons rfl (.cons rfl (.cons rfl (.cons rfl (.nil)))))))))))⟩
theorem tf_QUESTIONS {K : PySem.W.Frag} {h : Heap} {mg : Str → Option Value} {c a0 a1 a2 a3 a4 a5 a6 a7 a8 a9 a10 a11 a12 a13 a14 a15 b0 b1 b2 b3 b4 b5 b6 b7 b8 b9 b10 b11 b12 b13 b14 b15 : Addr} {d : Option Addr} {n : Nat} {sl : Array (Option Value)} (X : K.In h) (G : h.Ns mainGlobals mg) (a : PySem.W.nsIn K mainGlobals "QUESTIONS" = some (some (.ref c)))
  (l : K.lookup c = some ⟨.type "tuple", d, .seq #[.ref a0, .ref a1, .ref a2, .ref a3, .ref a4, .ref a5, .ref a6, .ref a7, .ref a8, .ref a9, .ref a10, .ref a11, .ref a12, .ref a13, .ref a14, .ref a15] n, sl⟩)
  (g0 : PySem.W.nsIn K mainGlobals "so_would" = some (some (.ref a0))) (m0 : mg "so_would" = some (.ref b0))
  (g1 : PySem.W.nsIn K mainGlobals "so_loads" = some (some (.ref a1))) (m1 : mg "so_loads" = some (.ref b1))
  (g2 : PySem.W.nsIn K mainGlobals "so_pure" = some (some (.ref a2))) (m2 : mg "so_pure" = some (.ref b2))
  (g3 : PySem.W.nsIn K mainGlobals "so_best" = some (some (.ref a3))) (m3 : mg "so_best" = some (.ref b3))
  (g4 : PySem.W.nsIn K mainGlobals "so_often" = some (some (.ref a4))) (m4 : mg "so_often" = some (.ref b4))
  (g5 : PySem.W.nsIn K mainGlobals "so_goes" = some (some (.ref a5))) (m5 : mg "so_goes" = some (.ref b5))
  (g6 : PySem.W.nsIn K mainGlobals "so_split" = some (some (.ref a6))) (m6 : mg "so_split" = some (.ref b6))
  (g7 : PySem.W.nsIn K mainGlobals "so_hopper" = some (some (.ref a7))) (m7 : mg "so_hopper" = some (.ref b7))
  (g8 : PySem.W.nsIn K mainGlobals "so_in" = some (some (.ref a8))) (m8 : mg "so_in" = some (.ref b8))
  (g9 : PySem.W.nsIn K mainGlobals "so_sets" = some (some (.ref a9))) (m9 : mg "so_sets" = some (.ref b9))
  (g10 : PySem.W.nsIn K mainGlobals "so_belts" = some (some (.ref a10))) (m10 : mg "so_belts" = some (.ref b10))
  (g11 : PySem.W.nsIn K mainGlobals "so_bales" = some (some (.ref a11))) (m11 : mg "so_bales" = some (.ref b11))
  (g12 : PySem.W.nsIn K mainGlobals "so_look" = some (some (.ref a12))) (m12 : mg "so_look" = some (.ref b12))
  (g13 : PySem.W.nsIn K mainGlobals "so_worth" = some (some (.ref a13))) (m13 : mg "so_worth" = some (.ref b13))
  (g14 : PySem.W.nsIn K mainGlobals "so_sums" = some (some (.ref a14))) (m14 : mg "so_sums" = some (.ref b14))
  (g15 : PySem.W.nsIn K mainGlobals "so_money" = some (some (.ref a15))) (m15 : mg "so_money" = some (.ref b15)) : ∃ c, mg "QUESTIONS" = some (.ref c) ∧ KTup K c [.ref b0, .ref b1, .ref b2, .ref b3, .ref b4, .ref b5, .ref b6, .ref b7, .ref b8, .ref b9, .ref b10, .ref b11, .ref b12, .ref b13, .ref b14, .ref b15] := by
 have e0 := m0.symm.trans (PySem.W.mg_of X G g0)
 injection e0 with e0
 injection e0 with e0
 subst e0
 have e1 := m1.symm.trans (PySem.W.mg_of X G g1)
 injection e1 with e1
 injection e1 with e1
 subst e1
 have e2 := m2.symm.trans (PySem.W.mg_of X G g2)
 injection e2 with e2
 injection e2 with e2
 subst e2
 have e3 := m3.symm.trans (PySem.W.mg_of X G g3)
 injection e3 with e3
 injection e3 with e3
 subst e3
 have e4 := m4.symm.trans (PySem.W.mg_of X G g4)
 injection e4 with e4
 injection e4 with e4
 subst e4
 have e5 := m5.symm.trans (PySem.W.mg_of X G g5)
 injection e5 with e5
 injection e5 with e5
 subst e5
 have e6 := m6.symm.trans (PySem.W.mg_of X G g6)
 injection e6 with e6
 injection e6 with e6
 subst e6
 have e7 := m7.symm.trans (PySem.W.mg_of X G g7)
 injection e7 with e7
 injection e7 with e7
 subst e7
 have e8 := m8.symm.trans (PySem.W.mg_of X G g8)
 injection e8 with e8
 injection e8 with e8
 subst e8
 have e9 := m9.symm.trans (PySem.W.mg_of X G g9)
 injection e9 with e9
 injection e9 with e9
 subst e9
 have e10 := m10.symm.trans (PySem.W.mg_of X G g10)
 injection e10 with e10
 injection e10 with e10
 subst e10
 have e11 := m11.symm.trans (PySem.W.mg_of X G g11)
 injection e11 with e11
 injection e11 with e11
 subst e11
 have e12 := m12.symm.trans (PySem.W.mg_of X G g12)
 injection e12 with e12
 injection e12 with e12
 subst e12
 have e13 := m13.symm.trans (PySem.W.mg_of X G g13)
 injection e13 with e13
 injection e13 with e13
 subst e13
 have e14 := m14.symm.trans (PySem.W.mg_of X G g14)
 injection e14 with e14
 injection e14 with e14
 subst e14
 have e15 := m15.symm.trans (PySem.W.mg_of X G g15)
 injection e15 with e15
 injection e15 with e15
 subst e15
 exact ⟨c, PySem.W.mg_of X G a, _, _, n, l, rfl, rfl, by show 16 ≤ sizeLine; decide, .cons rfl (.cons rfl (.cons rfl (.cons rfl (.cons rfl (.cons rfl (.cons rfl (.cons rfl (.cons rfl (.cons rfl (.cons rfl (.cons rfl (.cons rfl (.cons rfl (.cons rfl (.cons rfl (.nil))))))))))))))))⟩
theorem tf_SHAPES {K : PySem.W.Frag} {h : Heap} {mg : Str → Option Value} {c e0 e1 e2 e3 e4 e5 e6 e7 e8 e9 e10 e11 e12 e13 e14 e15 e16 e17 e18 e19 e20 e21 e22 e23 e24 e25 e26 e27 e28 e29 e30 : Addr} {d d0 d1 d2 d3 d4 d5 d6 d7 d8 d9 d10 d11 d12 d13 d14 d15 d16 d17 d18 d19 d20 d21 d22 d23 d24 d25 d26 d27 d28 d29 d30 : Option Addr} {n n0 n1 n2 n3 n4 n5 n6 n7 n8 n9 n10 n11 n12 n13 n14 n15 n16 n17 n18 n19 n20 n21 n22 n23 n24 n25 n26 n27 n28 n29 n30 : Nat} {sl s0 s1 s2 s3 s4 s5 s6 s7 s8 s9 s10 s11 s12 s13 s14 s15 s16 s17 s18 s19 s20 s21 s22 s23 s24 s25 s26 s27 s28 s29 s30 : Array (Option Value)} {u0_0 u0_1 u1_0 u1_1 u2_0 u2_1 u3_0 u3_1 u4_0 u4_1 u5_0 u5_1 u6_0 u6_1 u7_0 u7_1 u8_0 u8_1 u9_0 u9_1 u10_0 u10_1 u11_0 u11_1 u12_0 u12_1 u13_0 u13_1 u14_0 u14_1 u15_0 u15_1 u16_0 u16_1 u17_0 u17_1 u18_0 u18_1 u19_0 u19_1 u20_0 u20_1 u21_0 u21_1 u22_0 u22_1 u23_0 u23_1 u24_0 u24_1 u25_0 u25_1 u26_0 u26_1 u27_0 u27_1 u28_0 u28_1 u29_0 u29_1 u30_0 u30_1 : Tok} (X : K.In h) (G : h.Ns mainGlobals mg) (a : PySem.W.nsIn K mainGlobals "SHAPES" = some (some (.ref c)))
  (l : K.lookup c = some ⟨.type "tuple", d, .seq #[.ref e0, .ref e1, .ref e2, .ref e3, .ref e4, .ref e5, .ref e6, .ref e7, .ref e8, .ref e9, .ref e10, .ref e11, .ref e12, .ref e13, .ref e14, .ref e15, .ref e16, .ref e17, .ref e18, .ref e19, .ref e20, .ref e21, .ref e22, .ref e23, .ref e24, .ref e25, .ref e26, .ref e27, .ref e28, .ref e29, .ref e30] n, sl⟩)
  (l0 : K.lookup e0 = some ⟨.type "tuple", d0, .seq #[.int 1 u0_0, .int 0 u0_1] n0, s0⟩)
  (l1 : K.lookup e1 = some ⟨.type "tuple", d1, .seq #[.int 1 u1_0, .int 1 u1_1] n1, s1⟩)
  (l2 : K.lookup e2 = some ⟨.type "tuple", d2, .seq #[.int 1 u2_0, .int 1 u2_1] n2, s2⟩)
  (l3 : K.lookup e3 = some ⟨.type "tuple", d3, .seq #[.int 2 u3_0, .int 0 u3_1] n3, s3⟩)
  (l4 : K.lookup e4 = some ⟨.type "tuple", d4, .seq #[.int 3 u4_0, .int 0 u4_1] n4, s4⟩)
  (l5 : K.lookup e5 = some ⟨.type "tuple", d5, .seq #[.int 5 u5_0, .int 0 u5_1] n5, s5⟩)
  (l6 : K.lookup e6 = some ⟨.type "tuple", d6, .seq #[.int 0 u6_0, .int 1 u6_1] n6, s6⟩)
  (l7 : K.lookup e7 = some ⟨.type "tuple", d7, .seq #[.int 0 u7_0, .int 0 u7_1] n7, s7⟩)
  (l8 : K.lookup e8 = some ⟨.type "tuple", d8, .seq #[.int 1 u8_0, .int 0 u8_1] n8, s8⟩)
  (l9 : K.lookup e9 = some ⟨.type "tuple", d9, .seq #[.int 2 u9_0, .int 0 u9_1] n9, s9⟩)
  (l10 : K.lookup e10 = some ⟨.type "tuple", d10, .seq #[.int 1 u10_0, .int 0 u10_1] n10, s10⟩)
  (l11 : K.lookup e11 = some ⟨.type "tuple", d11, .seq #[.int 0 u11_0, .int 0 u11_1] n11, s11⟩)
  (l12 : K.lookup e12 = some ⟨.type "tuple", d12, .seq #[.int 1 u12_0, .int 0 u12_1] n12, s12⟩)
  (l13 : K.lookup e13 = some ⟨.type "tuple", d13, .seq #[.int 0 u13_0, .int 0 u13_1] n13, s13⟩)
  (l14 : K.lookup e14 = some ⟨.type "tuple", d14, .seq #[.int 1 u14_0, .int 0 u14_1] n14, s14⟩)
  (l15 : K.lookup e15 = some ⟨.type "tuple", d15, .seq #[.int 0 u15_0, .int 0 u15_1] n15, s15⟩)
  (l16 : K.lookup e16 = some ⟨.type "tuple", d16, .seq #[.int 1 u16_0, .int 0 u16_1] n16, s16⟩)
  (l17 : K.lookup e17 = some ⟨.type "tuple", d17, .seq #[.int 2 u17_0, .int 0 u17_1] n17, s17⟩)
  (l18 : K.lookup e18 = some ⟨.type "tuple", d18, .seq #[.int 4 u18_0, .int 0 u18_1] n18, s18⟩)
  (l19 : K.lookup e19 = some ⟨.type "tuple", d19, .seq #[.int 0 u19_0, .int 0 u19_1] n19, s19⟩)
  (l20 : K.lookup e20 = some ⟨.type "tuple", d20, .seq #[.int 1 u20_0, .int 0 u20_1] n20, s20⟩)
  (l21 : K.lookup e21 = some ⟨.type "tuple", d21, .seq #[.int 0 u21_0, .int 0 u21_1] n21, s21⟩)
  (l22 : K.lookup e22 = some ⟨.type "tuple", d22, .seq #[.int 0 u22_0, .int 0 u22_1] n22, s22⟩)
  (l23 : K.lookup e23 = some ⟨.type "tuple", d23, .seq #[.int 0 u23_0, .int 0 u23_1] n23, s23⟩)
  (l24 : K.lookup e24 = some ⟨.type "tuple", d24, .seq #[.int 1 u24_0, .int 0 u24_1] n24, s24⟩)
  (l25 : K.lookup e25 = some ⟨.type "tuple", d25, .seq #[.int 0 u25_0, .int 0 u25_1] n25, s25⟩)
  (l26 : K.lookup e26 = some ⟨.type "tuple", d26, .seq #[.int 1 u26_0, .int 0 u26_1] n26, s26⟩)
  (l27 : K.lookup e27 = some ⟨.type "tuple", d27, .seq #[.int 0 u27_0, .int 0 u27_1] n27, s27⟩)
  (l28 : K.lookup e28 = some ⟨.type "tuple", d28, .seq #[.int 0 u28_0, .int 0 u28_1] n28, s28⟩)
  (l29 : K.lookup e29 = some ⟨.type "tuple", d29, .seq #[.int 0 u29_0, .int 0 u29_1] n29, s29⟩)
  (l30 : K.lookup e30 = some ⟨.type "tuple", d30, .seq #[.int 0 u30_0, .int 0 u30_1] n30, s30⟩) :
  ∃ c es, mg "SHAPES" = some (.ref c) ∧ KTup K c (es.map V.ref) ∧ Paired (fun a (p : List Int) => KTup K a (p.map V.int)) es [[1, 0], [1, 1], [1, 1], [2, 0], [3, 0], [5, 0], [0, 1], [0, 0], [1, 0], [2, 0], [1, 0], [0, 0], [1, 0], [0, 0], [1, 0], [0, 0], [1, 0], [2, 0], [4, 0], [0, 0], [1, 0], [0, 0], [0, 0], [0, 0], [1, 0], [0, 0], [1, 0], [0, 0], [0, 0], [0, 0], [0, 0]] := by
 refine ⟨c, [e0, e1, e2, e3, e4, e5, e6, e7, e8, e9, e10, e11, e12, e13, e14, e15, e16, e17, e18, e19, e20, e21, e22, e23, e24, e25, e26, e27, e28, e29, e30], PySem.W.mg_of X G a, ⟨_, _, n, l, rfl, rfl, by show 31 ≤ sizeLine; decide, .cons rfl (.cons rfl (.cons rfl (.cons rfl (.cons rfl (.cons rfl (.cons rfl (.cons rfl (.cons rfl (.cons rfl (.cons rfl (.cons rfl (.cons rfl (.cons rfl (.cons rfl (.cons rfl (.cons rfl (.cons rfl (.cons rfl (.cons rfl (.cons rfl (.cons rfl (.cons rfl (.cons rfl (.cons rfl (.cons rfl (.cons rfl (.cons rfl (.cons rfl (.cons rfl (.cons rfl (.nil)))))))))))))))))))))))))))))))⟩, ?_⟩
 exact .cons ⟨_, _, _, l0, rfl, rfl, by show 2 ≤ sizeLine; decide, .cons ⟨_, rfl⟩ (.cons ⟨_, rfl⟩ (.nil))⟩ (.cons ⟨_, _, _, l1, rfl, rfl, by show 2 ≤ sizeLine; decide, .cons ⟨_, rfl⟩ (.cons ⟨_, rfl⟩ (.nil))⟩ (.cons ⟨_, _, _, l2, rfl, rfl, by show 2 ≤ sizeLine; decide, .cons ⟨_, rfl⟩ (.cons ⟨_, rfl⟩ (.nil))⟩ (.cons ⟨_, _, _, l3, rfl, rfl, by show 2 ≤ sizeLine; decide, .cons ⟨_, rfl⟩ (.cons ⟨_, rfl⟩ (.nil))⟩ (.cons ⟨_, _, _, l4, rfl, rfl, by show 2 ≤ sizeLine; decide, .cons ⟨_, rfl⟩ (.cons ⟨_, rfl⟩ (.nil))⟩ (.cons ⟨_, _, _, l5, rfl, rfl, by show 2 ≤ sizeLine; decide, .cons ⟨_, rfl⟩ (.cons ⟨_, rfl⟩ (.nil))⟩ (.cons ⟨_, _, _, l6, rfl, rfl, by show 2 ≤ sizeLine; decide, .cons ⟨_, rfl⟩ (.cons ⟨_, rfl⟩ (.nil))⟩ (.cons ⟨_, _, _, l7, rfl, rfl, by show 2 ≤ sizeLine; decide, .cons ⟨_, rfl⟩ (.cons ⟨_, rfl⟩ (.nil))⟩ (.cons ⟨_, _, _, l8, rfl, rfl, by show 2 ≤ sizeLine; decide, .cons ⟨_, rfl⟩ (.cons ⟨_, rfl⟩ (.nil))⟩ (.cons ⟨_, _, _, l9, rfl, rfl, by show 2 ≤ sizeLine; decide, .cons ⟨_, rfl⟩ (.cons ⟨_, rfl⟩ (.nil))⟩ (.cons ⟨_, _, _, l10, rfl, rfl, by show 2 ≤ sizeLine; decide, .cons ⟨_, rfl⟩ (.cons ⟨_, rfl⟩ (.nil))⟩ (.cons ⟨_, _, _, l11, rfl, rfl, by show 2 ≤ sizeLine; decide, .cons ⟨_, rfl⟩ (.cons ⟨_, rfl⟩ (.nil))⟩ (.cons ⟨_, _, _, l12, rfl, rfl, by show 2 ≤ sizeLine; decide, .cons ⟨_, rfl⟩ (.cons ⟨_, rfl⟩ (.nil))⟩ (.cons ⟨_, _, _, l13, rfl, rfl, by show 2 ≤ sizeLine; decide, .cons ⟨_, rfl⟩ (.cons ⟨_, rfl⟩ (.nil))⟩ (.cons ⟨_, _, _, l14, rfl, rfl, by show 2 ≤ sizeLine; decide, .cons ⟨_, rfl⟩ (.cons ⟨_, rfl⟩ (.nil))⟩ (.cons ⟨_, _, _, l15, rfl, rfl, by show 2 ≤ sizeLine; decide, .cons ⟨_, rfl⟩ (.cons ⟨_, rfl⟩ (.nil))⟩ (.cons ⟨_, _, _, l16, rfl, rfl, by show 2 ≤ sizeLine; decide, .cons ⟨_, rfl⟩ (.cons ⟨_, rfl⟩ (.nil))⟩ (.cons ⟨_, _, _, l17, rfl, rfl, by show 2 ≤ sizeLine; decide, .cons ⟨_, rfl⟩ (.cons ⟨_, rfl⟩ (.nil))⟩ (.cons ⟨_, _, _, l18, rfl, rfl, by show 2 ≤ sizeLine; decide, .cons ⟨_, rfl⟩ (.cons ⟨_, rfl⟩ (.nil))⟩ (.cons ⟨_, _, _, l19, rfl, rfl, by show 2 ≤ sizeLine; decide, .cons ⟨_, rfl⟩ (.cons ⟨_, rfl⟩ (.nil))⟩ (.cons ⟨_, _, _, l20, rfl, rfl, by show 2 ≤ sizeLine; decide, .cons ⟨_, rfl⟩ (.cons ⟨_, rfl⟩ (.nil))⟩ (.cons ⟨_, _, _, l21, rfl, rfl, by show 2 ≤ sizeLine; decide, .cons ⟨_, rfl⟩ (.cons ⟨_, rfl⟩ (.nil))⟩ (.cons ⟨_, _, _, l22, rfl, rfl, by show 2 ≤ sizeLine; decide, .cons ⟨_, rfl⟩ (.cons ⟨_, rfl⟩ (.nil))⟩ (.cons ⟨_, _, _, l23, rfl, rfl, by show 2 ≤ sizeLine; decide, .cons ⟨_, rfl⟩ (.cons ⟨_, rfl⟩ (.nil))⟩ (.cons ⟨_, _, _, l24, rfl, rfl, by show 2 ≤ sizeLine; decide, .cons ⟨_, rfl⟩ (.cons ⟨_, rfl⟩ (.nil))⟩ (.cons ⟨_, _, _, l25, rfl, rfl, by show 2 ≤ sizeLine; decide, .cons ⟨_, rfl⟩ (.cons ⟨_, rfl⟩ (.nil))⟩ (.cons ⟨_, _, _, l26, rfl, rfl, by show 2 ≤ sizeLine; decide, .cons ⟨_, rfl⟩ (.cons ⟨_, rfl⟩ (.nil))⟩ (.cons ⟨_, _, _, l27, rfl, rfl, by show 2 ≤ sizeLine; decide, .cons ⟨_, rfl⟩ (.cons ⟨_, rfl⟩ (.nil))⟩ (.cons ⟨_, _, _, l28, rfl, rfl, by show 2 ≤ sizeLine; decide, .cons ⟨_, rfl⟩ (.cons ⟨_, rfl⟩ (.nil))⟩ (.cons ⟨_, _, _, l29, rfl, rfl, by show 2 ≤ sizeLine; decide, .cons ⟨_, rfl⟩ (.cons ⟨_, rfl⟩ (.nil))⟩ (.cons ⟨_, _, _, l30, rfl, rfl, by show 2 ≤ sizeLine; decide, .cons ⟨_, rfl⟩ (.cons ⟨_, rfl⟩ (.nil))⟩ (.nil)))))))))))))))))))))))))))))))
theorem binds_ans {K : PySem.W.Frag} {mg : Str → Option Value} {r : FnRec} (h : FnAt K mg "answers" s_answers ["calls"] r) (s : Shared) (us : List Value) (hu : us.length = (["calls"] : List Str).length) : BindsTo s r.d ⟨us, []⟩ ((["calls"] : List Str).zip us) := by
 obtain ⟨oc, od, kV, doc, pm, an, cdv, ct, osl, e, lk, hcd⟩ := h.fn.ex
 rw [e]
 exact match us, hu with | [_], _ => .of_eq rfl
end
end Sb
namespace PySem.W.Fast
def tw15381119237524856711 := 0
def tw12198457906133810993 := 0
def tw15022370128992301193 := 0
def tw6282605538339051386 := 0
def tw975091367883316449 := 0
def tw4339507391286384422 := 0
def tw1898345150375321815 := 0
def tw14536855063532614625 := 0
def tw5539568636543718020 := 0
def tw14401210968080291129 := 0
def tw6100496384081824976 := 0
def tw1400204087117267900 := 0
def tw10282938994556181797 := 0
def tw13752543183079990572 := 0
def tw12282533064969822302 := 0
def tw2566153203709898718 := 0
def tw8047755301806422434 := 0
def tw3940431987125343183 := 0
def tw18029581125006124435 := 0
def tw12976069709117046324 := 0
def tw6944201642416735976 := 0
def tw9020667223472302052 := 0
def tw17187414389385113055 := 0
def tw14626484069829384337 := 0
def tw7563070148802508695 := 0
def tw9924803092748857201 := 0
def tw12659778280150065011 := 0
def tw14496330426859461468 := 0
def tw1706833754786455450 := 0
def tw11238961437561511476 := 0
def tw823276134897699627 := 0
def tw18296174865956103978 := 0
def tw2745944030168779516 := 0
def tw4852833584188779897 := 0
def tw14411000152787632365 := 0
def tw14477083281440745689 := 0
def tw9859867186362540068 := 0
def tw14450197395249679266 := 0
def tw18354690316505439601 := 0
def tw11087445417429897491 := 0
def tw12356634900343526114 := 0
def tw2986561795216497678 := 0
def tw10852795261321539440 := 0
def tw15769086232913155285 := 0
def tw5606827698992637033 := 0
def tw12911806695598122296 := 0
def tw13137339210972821558 := 0
def tw9622645416973418918 := 0
def tw9174297246522909964 := 0
def tw7377758716945645631 := 0
def tw15389152522567905366 := 0
def tw15506262284315364001 := 0
def tw16649620089746365533 := 0
def tw11392993253366922694 := 0
def tw11695516788811290749 := 0
def tw10721233795571581814 := 0
def tw10506381452636565790 := 0
def tw16480653148236841337 := 0
def tw278168831827474940 := 0
def tw4988114531533064799 := 0
def tw828983070518537454 := 0
def tw14349843095947906833 := 0
def tw16044922148489035564 := 0
def tw3422876602333660371 := 0
def tw6691656812401293083 := 0
def tw11830795311702821105 := 0
def tw4460708194169729375 := 0
def tw4952444368773939949 := 0
def tw11615326179872096176 := 0
def tw15291610663114696049 := 0
def tw1060471601017542526 := 0
def tw6581725131312858940 := 0
def tw9810974184254107399 := 0
def tw6600235681749280270 := 0
def tw3395453821830314546 := 0
def tw11234815516789110159 := 0
def tw16287608073816817342 := 0
def tw9357662447558946753 := 0
def tw14008250612860203155 := 0
def tw6746665950670141425 := 0
def tw14963490446289783182 := 0
def tw10596436766730247895 := 0
def tw14067686472484771010 := 0
def tw4929875019396320829 := 0
def tw13976962913415644824 := 0
def tw10740090514603230624 := 0
def tw1875259605257137588 := 0
def tw13478605415246326088 := 0
def tw16725069891507590709 := 0
def tw11621783955215735791 := 0
def tw498178753224552493 := 0
def tw2957412833090656804 := 0
def tw7463724043079524555 := 0
def tw10477687059066803056 := 0
def tw9957038320842722562 := 0
def tw13783259823786094924 := 0
def tw12390520969488450339 := 0
def tw6282172673455823372 := 0
def tw17295626827569878064 := 0
def tw14712308307566372057 := 0
def tw6663200329565070078 := 0
def tw3106627893660639498 := 0
def tw7327612313514402146 := 0
def tw10687732921486176324 := 0
def tw13684316313546729589 := 0
def tw8995822815640865800 := 0
def tw1658549432032053441 := 0
def tw8225835246139586294 := 0
def tw13588008643064405096 := 0
def tw4569492777903401303 := 0
def tw8568580195456027025 := 0
def tw14284629476870414556 := 0
def tw6455659684404823772 := 0
def tw7624935586356245734 := 0
def tw6679262790673404769 := 0
def tw12489783717964932878 := 0
def tw3266304499022522570 := 0
def tw3229266392525031129 := 0
def tw621334839923911912 := 0
def tw6204673931474529545 := 0
def tw8953413783137036104 := 0
def tw17649438308296866978 := 0
def tw10801741931650784928 := 0
def tw7657511753363576379 := 0
def tw9067635108427885496 := 0
def tw1759626812973072424 := 0
def tw816886506051915417 := 0
def tw11939162362165063225 := 0
def tw13421981766579395801 := 0
def tw7688857642179371698 := 0
def tw2352207012762172575 := 0
end PySem.W.Fast
open PySem PySem.W PyProof.Rows
set_option maxRecDepth 100000 in
set_option maxHeartbeats 0 in
theorem PySem.Challenge.cw_sortingbelts_s01_answers_holds : PySem.Challenge.rw_sortingbelts_s01_answers.Holds := by
 w_on; k_headS; (case hw => exact ⟨[.list [.int 0, .int 0]], by decide +kernel, by decide +kernel⟩)
 k_fillS
 refine L2.walk_specK (r := PySem.Challenge.rw_sortingbelts_s01_answers) (k := 10) (CX := L2.CX0) (ps := ["calls"]) (sp := Sb.spAns) (by decide +kernel) rfl rfl ⟨rfl, by decide, by decide⟩ (fun w h Y => PySem.W.kIn_of Y) ?F ?S (fun _ _ _ _ z => z)
 case F =>
  intro w mg fa h Y KX G hmg
  obtain ⟨c_Machine, r_Machine_init, r_Machine_copied, h_Machine, h_Machine_init, h_Machine_copied, na_Machine_most, na_Machine_settings, na_Machine_chosen, na_Machine_belts⟩ := Sb.cls_Machine KX G (by k_is) (by k_is) (by k_is) (by k_is) (by k_is) (by k_is) (by k_is) (by k_is) (by k_is) (by k_is) (by k_is) (by k_is) (by k_is) (by k_is) (by k_is) (by k_is) (by k_is) (by k_is) (by k_is) (by k_is) (by k_is)
  obtain ⟨c_Bay, r_Bay_init, r_Bay_copied, h_Bay, h_Bay_init, h_Bay_copied, na_Bay_kind, na_Bay_pure, na_Bay_price, na_Bay_most, na_Bay_mix⟩ := Sb.cls_Bay KX G (by k_is) (by k_is) (by k_is) (by k_is) (by k_is) (by k_is) (by k_is) (by k_is) (by k_is) (by k_is) (by k_is) (by k_is) (by k_is) (by k_is) (by k_is) (by k_is) (by k_is) (by k_is) (by k_is) (by k_is) (by k_is) (by k_is)
  obtain ⟨c_State, r_State_init, r_State_copied, h_State, h_State_init, h_State_copied, na_State_harm, na_State_hopper, na_State_machines, na_State_bays, na_State_bales, na_State_fed, na_State_dumped, na_State_cost⟩ := Sb.cls_State KX G (by k_is) (by k_is) (by k_is) (by k_is) (by k_is) (by k_is) (by k_is) (by k_is) (by k_is) (by k_is) (by k_is) (by k_is) (by k_is) (by k_is) (by k_is) (by k_is) (by k_is) (by k_is) (by k_is) (by k_is) (by k_is) (by k_is) (by k_is) (by k_is) (by k_is)
  obtain ⟨c_History, r_History_init, r_History_begin, r_History_change, r_History_ask, r_History_back, r_History_again, r_History_standing, h_History, h_History_init, h_History_begin, h_History_change, h_History_ask, h_History_back, h_History_again, h_History_standing, na_History_state, na_History_past, na_History_undone⟩ := Sb.cls_History KX G (by k_is) (by k_is) (by k_is) (by k_is) (by k_is) (by k_is) (by k_is) (by k_is) (by k_is) (by k_is) (by k_is) (by k_is) (by k_is) (by k_is) (by k_is) (by k_is) (by k_is) (by k_is) (by k_is) (by k_is) (by k_is) (by k_is) (by k_is) (by k_is) (by k_is) (by k_is) (by k_is) (by k_is) (by k_is) (by k_is) (by k_is) (by k_is) (by k_is) (by k_is) (by k_is) (by k_is) (by k_is) (by k_is) (by k_is) (by k_is) (by k_is) (by k_is) (by k_is) (by k_is) (by k_is)
  obtain ⟨c_Tape, r_Tape_init, r_Tape_ended, r_Tape_take, r_Tape_number, r_Tape_row, h_Tape, h_Tape_init, h_Tape_ended, h_Tape_take, h_Tape_number, h_Tape_row, na_Tape_numbers, na_Tape_at⟩ := Sb.cls_Tape KX G (by k_is) (by k_is) (by k_is) (by k_is) (by k_is) (by k_is) (by k_is) (by k_is) (by k_is) (by k_is) (by k_is) (by k_is) (by k_is) (by k_is) (by k_is) (by k_is) (by k_is) (by k_is) (by k_is) (by k_is) (by k_is) (by k_is) (by k_is) (by k_is) (by k_is) (by k_is) (by k_is) (by k_is) (by k_is) (by k_is) (by k_is) (by k_is) (by k_is) (by k_is)
  obtain ⟨r_only, h_only⟩ := Sb.fn_at (x := "only") (st := Sb.s_only) (ps := ["kind", "kg"]) KX G (fun _ _ _ _ _ _ us hl => match us, hl with | [_, _], _ => rfl) (by k_is) (by k_is) (by k_is) (by k_is)
  obtain ⟨r_added, h_added⟩ := Sb.fn_at (x := "added") (st := Sb.s_added) (ps := ["mix", "other"]) KX G (fun _ _ _ _ _ _ us hl => match us, hl with | [_, _], _ => rfl) (by k_is) (by k_is) (by k_is) (by k_is)
  obtain ⟨r_lessened, h_lessened⟩ := Sb.fn_at (x := "lessened") (st := Sb.s_lessened) (ps := ["mix", "part"]) KX G (fun _ _ _ _ _ _ us hl => match us, hl with | [_, _], _ => rfl) (by k_is) (by k_is) (by k_is) (by k_is)
  obtain ⟨r_parted, h_parted⟩ := Sb.fn_at (x := "parted") (st := Sb.s_parted) (ps := ["mix", "setting"]) KX G (fun _ _ _ _ _ _ us hl => match us, hl with | [_, _], _ => rfl) (by k_is) (by k_is) (by k_is) (by k_is)
  obtain ⟨r_is_good, h_is_good⟩ := Sb.fn_at (x := "is_good") (st := Sb.s_is_good) (ps := ["bay", "mix", "harm"]) KX G (fun _ _ _ _ _ _ us hl => match us, hl with | [_, _, _], _ => rfl) (by k_is) (by k_is) (by k_is) (by k_is)
  obtain ⟨r_brought, h_brought⟩ := Sb.fn_at (x := "brought") (st := Sb.s_brought) (ps := ["bay", "mix"]) KX G (fun _ _ _ _ _ _ us hl => match us, hl with | [_, _], _ => rfl) (by k_is) (by k_is) (by k_is) (by k_is)
  obtain ⟨r_mixes_of, h_mixes_of⟩ := Sb.fn_at (x := "mixes_of") (st := Sb.s_mixes_of) (ps := ["bays"]) KX G (fun _ _ _ _ _ _ us hl => match us, hl with | [_], _ => rfl) (by k_is) (by k_is) (by k_is) (by k_is)
  obtain ⟨r_worth_of_all, h_worth_of_all⟩ := Sb.fn_at (x := "worth_of_all") (st := Sb.s_worth_of_all) (ps := ["bays", "mixes", "harm"]) KX G (fun _ _ _ _ _ _ us hl => match us, hl with | [_, _, _], _ => rfl) (by k_is) (by k_is) (by k_is) (by k_is)
  obtain ⟨r_entered, h_entered⟩ := Sb.fn_at (x := "entered") (st := Sb.s_entered) (ps := ["had", "machines", "mix"]) KX G (fun _ _ _ _ _ _ us hl => match us, hl with | [_, _, _], _ => rfl) (by k_is) (by k_is) (by k_is) (by k_is)
  obtain ⟨r_part_at, h_part_at⟩ := Sb.fn_at (x := "part_at") (st := Sb.s_part_at) (ps := ["places", "k", "belts", "setting"]) KX G (fun _ _ _ _ _ _ us hl => match us, hl with | [_, _, _, _], _ => rfl) (by k_is) (by k_is) (by k_is) (by k_is)
  obtain ⟨r_put_through, h_put_through⟩ := Sb.fn_at (x := "put_through") (st := Sb.s_put_through) (ps := ["had", "machines", "mix"]) KX G (fun _ _ _ _ _ _ us hl => match us, hl with | [_, _, _], _ => rfl) (by k_is) (by k_is) (by k_is) (by k_is)
  obtain ⟨r_put_through_alone, h_put_through_alone⟩ := Sb.fn_at (x := "put_through_alone") (st := Sb.s_put_through_alone) (ps := ["machines", "mix"]) KX G (fun _ _ _ _ _ _ us hl => match us, hl with | [_, _], _ => rfl) (by k_is) (by k_is) (by k_is) (by k_is)
  obtain ⟨r_put_hopper_through, h_put_hopper_through⟩ := Sb.fn_at (x := "put_hopper_through") (st := Sb.s_put_hopper_through) (ps := ["state"]) KX G (fun _ _ _ _ _ _ us hl => match us, hl with | [_], _ => rfl) (by k_is) (by k_is) (by k_is) (by k_is)
  obtain ⟨r_again_till_good, h_again_till_good⟩ := Sb.fn_at (x := "again_till_good") (st := Sb.s_again_till_good) (ps := ["state", "i"]) KX G (fun _ _ _ _ _ _ us hl => match us, hl with | [_, _], _ => rfl) (by k_is) (by k_is) (by k_is) (by k_is)
  obtain ⟨r_machine_loads, h_machine_loads⟩ := Sb.fn_at (x := "machine_loads") (st := Sb.s_machine_loads) (ps := ["places"]) KX G (fun _ _ _ _ _ _ us hl => match us, hl with | [_], _ => rfl) (by k_is) (by k_is) (by k_is) (by k_is)
  obtain ⟨r_machines_part, h_machines_part⟩ := Sb.fn_at (x := "machines_part") (st := Sb.s_machines_part) (ps := ["machines", "places"]) KX G (fun _ _ _ _ _ _ us hl => match us, hl with | [_, _], _ => rfl) (by k_is) (by k_is) (by k_is) (by k_is)
  obtain ⟨r_bays_hold, h_bays_hold⟩ := Sb.fn_at (x := "bays_hold") (st := Sb.s_bays_hold) (ps := ["bays", "places"]) KX G (fun _ _ _ _ _ _ us hl => match us, hl with | [_, _], _ => rfl) (by k_is) (by k_is) (by k_is) (by k_is)
  obtain ⟨r_fits, h_fits⟩ := Sb.fn_at (x := "fits") (st := Sb.s_fits) (ps := ["state", "places"]) KX G (fun _ _ _ _ _ _ us hl => match us, hl with | [_, _], _ => rfl) (by k_is) (by k_is) (by k_is) (by k_is)
  obtain ⟨r_branched, h_branched⟩ := Sb.fn_at (x := "branched") (st := Sb.s_branched) (ps := ["ways", "k", "machine"]) KX G (fun _ _ _ _ _ _ us hl => match us, hl with | [_, _, _], _ => rfl) (by k_is) (by k_is) (by k_is) (by k_is)
  obtain ⟨r_ways_through, h_ways_through⟩ := Sb.fn_at (x := "ways_through") (st := Sb.s_ways_through) (ps := ["state"]) KX G (fun _ _ _ _ _ _ us hl => match us, hl with | [_], _ => rfl) (by k_is) (by k_is) (by k_is) (by k_is)
  obtain ⟨r_best_settings, h_best_settings⟩ := Sb.fn_at (x := "best_settings") (st := Sb.s_best_settings) (ps := ["state"]) KX G (fun _ _ _ _ _ _ us hl => match us, hl with | [_], _ => rfl) (by k_is) (by k_is) (by k_is) (by k_is)
  obtain ⟨r_most_is_right, h_most_is_right⟩ := Sb.fn_at (x := "most_is_right") (st := Sb.s_most_is_right) (ps := ["most"]) KX G (fun _ _ _ _ _ _ us hl => match us, hl with | [_], _ => rfl) (by k_is) (by k_is) (by k_is) (by k_is)
  obtain ⟨r_hopper_takes, h_hopper_takes⟩ := Sb.fn_at (x := "hopper_takes") (st := Sb.s_hopper_takes) (ps := ["state", "kg"]) KX G (fun _ _ _ _ _ _ us hl => match us, hl with | [_, _], _ => rfl) (by k_is) (by k_is) (by k_is) (by k_is)
  obtain ⟨r_so_machine, h_so_machine⟩ := Sb.fn_at (x := "so_machine") (st := Sb.s_so_machine) (ps := ["state", "most", "p"]) KX G (fun _ _ _ _ _ _ us hl => match us, hl with | [_, _, _], _ => rfl) (by k_is) (by k_is) (by k_is) (by k_is)
  obtain ⟨r_so_setting, h_so_setting⟩ := Sb.fn_at (x := "so_setting") (st := Sb.s_so_setting) (ps := ["state", "k", "p"]) KX G (fun _ _ _ _ _ _ us hl => match us, hl with | [_, _, _], _ => rfl) (by k_is) (by k_is) (by k_is) (by k_is)
  obtain ⟨r_so_turn, h_so_turn⟩ := Sb.fn_at (x := "so_turn") (st := Sb.s_so_turn) (ps := ["state", "k", "s"]) KX G (fun _ _ _ _ _ _ us hl => match us, hl with | [_, _, _], _ => rfl) (by k_is) (by k_is) (by k_is) (by k_is)
  obtain ⟨r_leads_on, h_leads_on⟩ := Sb.fn_at (x := "leads_on") (st := Sb.s_leads_on) (ps := ["state", "k", "to"]) KX G (fun _ _ _ _ _ _ us hl => match us, hl with | [_, _, _], _ => rfl) (by k_is) (by k_is) (by k_is) (by k_is)
  obtain ⟨r_so_belt, h_so_belt⟩ := Sb.fn_at (x := "so_belt") (st := Sb.s_so_belt) (ps := ["state", "k", "side", "to"]) KX G (fun _ _ _ _ _ _ us hl => match us, hl with | [_, _, _, _], _ => rfl) (by k_is) (by k_is) (by k_is) (by k_is)
  obtain ⟨r_so_bay, h_so_bay⟩ := Sb.fn_at (x := "so_bay") (st := Sb.s_so_bay) (ps := ["state", "i", "kind", "pure", "price", "most"]) KX G (fun _ _ _ _ _ _ us hl => match us, hl with | [_, _, _, _, _, _], _ => rfl) (by k_is) (by k_is) (by k_is) (by k_is)
  obtain ⟨r_so_feed, h_so_feed⟩ := Sb.fn_at (x := "so_feed") (st := Sb.s_so_feed) (ps := ["state", "m"]) KX G (fun _ _ _ _ _ _ us hl => match us, hl with | [_, _], _ => rfl) (by k_is) (by k_is) (by k_is) (by k_is)
  obtain ⟨r_so_run, h_so_run⟩ := Sb.fn_at (x := "so_run") (st := Sb.s_so_run) (ps := ["state"]) KX G (fun _ _ _ _ _ _ us hl => match us, hl with | [_], _ => rfl) (by k_is) (by k_is) (by k_is) (by k_is)
  obtain ⟨r_so_bale, h_so_bale⟩ := Sb.fn_at (x := "so_bale") (st := Sb.s_so_bale) (ps := ["state", "i"]) KX G (fun _ _ _ _ _ _ us hl => match us, hl with | [_, _], _ => rfl) (by k_is) (by k_is) (by k_is) (by k_is)
  obtain ⟨r_so_dump, h_so_dump⟩ := Sb.fn_at (x := "so_dump") (st := Sb.s_so_dump) (ps := ["state", "i", "price"]) KX G (fun _ _ _ _ _ _ us hl => match us, hl with | [_, _, _], _ => rfl) (by k_is) (by k_is) (by k_is) (by k_is)
  obtain ⟨r_so_return, h_so_return⟩ := Sb.fn_at (x := "so_return") (st := Sb.s_so_return) (ps := ["state", "i"]) KX G (fun _ _ _ _ _ _ us hl => match us, hl with | [_, _], _ => rfl) (by k_is) (by k_is) (by k_is) (by k_is)
  obtain ⟨r_so_take, h_so_take⟩ := Sb.fn_at (x := "so_take") (st := Sb.s_so_take) (ps := ["state"]) KX G (fun _ _ _ _ _ _ us hl => match us, hl with | [_], _ => rfl) (by k_is) (by k_is) (by k_is) (by k_is)
  obtain ⟨r_called, h_called⟩ := Sb.fn_at (x := "called") (st := Sb.s_called) (ps := ["call", "state", "told"]) KX G (fun _ _ _ _ _ _ us hl => match us, hl with | [_, _, _], _ => rfl) (by k_is) (by k_is) (by k_is) (by k_is)
  obtain ⟨r_filled_up, h_filled_up⟩ := Sb.fn_at (x := "filled_up") (st := Sb.s_filled_up) (ps := ["numbers", "length"]) KX G (fun _ _ _ _ _ _ us hl => match us, hl with | [_, _], _ => rfl) (by k_is) (by k_is) (by k_is) (by k_is)
  obtain ⟨r_for_each_machine, h_for_each_machine⟩ := Sb.fn_at (x := "for_each_machine") (st := Sb.s_for_each_machine) (ps := ["numbers"]) KX G (fun _ _ _ _ _ _ us hl => match us, hl with | [_], _ => rfl) (by k_is) (by k_is) (by k_is) (by k_is)
  obtain ⟨r_with_sum, h_with_sum⟩ := Sb.fn_at (x := "with_sum") (st := Sb.s_with_sum) (ps := ["mix"]) KX G (fun _ _ _ _ _ _ us hl => match us, hl with | [_], _ => rfl) (by k_is) (by k_is) (by k_is) (by k_is)
  obtain ⟨r_so_would, h_so_would⟩ := Sb.fn_at (x := "so_would") (st := Sb.s_so_would) (ps := ["state", "i"]) KX G (fun _ _ _ _ _ _ us hl => match us, hl with | [_, _], _ => rfl) (by k_is) (by k_is) (by k_is) (by k_is)
  obtain ⟨r_so_loads, h_so_loads⟩ := Sb.fn_at (x := "so_loads") (st := Sb.s_so_loads) (ps := ["state"]) KX G (fun _ _ _ _ _ _ us hl => match us, hl with | [_], _ => rfl) (by k_is) (by k_is) (by k_is) (by k_is)
  obtain ⟨r_so_pure, h_so_pure⟩ := Sb.fn_at (x := "so_pure") (st := Sb.s_so_pure) (ps := ["state", "i"]) KX G (fun _ _ _ _ _ _ us hl => match us, hl with | [_, _], _ => rfl) (by k_is) (by k_is) (by k_is) (by k_is)
  obtain ⟨r_so_best, h_so_best⟩ := Sb.fn_at (x := "so_best") (st := Sb.s_so_best) (ps := ["state"]) KX G (fun _ _ _ _ _ _ us hl => match us, hl with | [_], _ => rfl) (by k_is) (by k_is) (by k_is) (by k_is)
  obtain ⟨r_so_often, h_so_often⟩ := Sb.fn_at (x := "so_often") (st := Sb.s_so_often) (ps := ["state", "i"]) KX G (fun _ _ _ _ _ _ us hl => match us, hl with | [_, _], _ => rfl) (by k_is) (by k_is) (by k_is) (by k_is)
  obtain ⟨r_so_goes, h_so_goes⟩ := Sb.fn_at (x := "so_goes") (st := Sb.s_so_goes) (ps := ["state", "kind", "kg"]) KX G (fun _ _ _ _ _ _ us hl => match us, hl with | [_, _, _], _ => rfl) (by k_is) (by k_is) (by k_is) (by k_is)
  obtain ⟨r_so_split, h_so_split⟩ := Sb.fn_at (x := "so_split") (st := Sb.s_so_split) (ps := ["state", "k", "side", "kind", "kg"]) KX G (fun _ _ _ _ _ _ us hl => match us, hl with | [_, _, _, _, _], _ => rfl) (by k_is) (by k_is) (by k_is) (by k_is)
  obtain ⟨r_so_hopper, h_so_hopper⟩ := Sb.fn_at (x := "so_hopper") (st := Sb.s_so_hopper) (ps := ["state"]) KX G (fun _ _ _ _ _ _ us hl => match us, hl with | [_], _ => rfl) (by k_is) (by k_is) (by k_is) (by k_is)
  obtain ⟨r_so_in, h_so_in⟩ := Sb.fn_at (x := "so_in") (st := Sb.s_so_in) (ps := ["state", "i"]) KX G (fun _ _ _ _ _ _ us hl => match us, hl with | [_, _], _ => rfl) (by k_is) (by k_is) (by k_is) (by k_is)
  obtain ⟨r_so_sets, h_so_sets⟩ := Sb.fn_at (x := "so_sets") (st := Sb.s_so_sets) (ps := ["state"]) KX G (fun _ _ _ _ _ _ us hl => match us, hl with | [_], _ => rfl) (by k_is) (by k_is) (by k_is) (by k_is)
  obtain ⟨r_so_belts, h_so_belts⟩ := Sb.fn_at (x := "so_belts") (st := Sb.s_so_belts) (ps := ["state"]) KX G (fun _ _ _ _ _ _ us hl => match us, hl with | [_], _ => rfl) (by k_is) (by k_is) (by k_is) (by k_is)
  obtain ⟨r_brought_by_bales, h_brought_by_bales⟩ := Sb.fn_at (x := "brought_by_bales") (st := Sb.s_brought_by_bales) (ps := ["state"]) KX G (fun _ _ _ _ _ _ us hl => match us, hl with | [_], _ => rfl) (by k_is) (by k_is) (by k_is) (by k_is)
  obtain ⟨r_so_bales, h_so_bales⟩ := Sb.fn_at (x := "so_bales") (st := Sb.s_so_bales) (ps := ["state"]) KX G (fun _ _ _ _ _ _ us hl => match us, hl with | [_], _ => rfl) (by k_is) (by k_is) (by k_is) (by k_is)
  obtain ⟨r_so_look, h_so_look⟩ := Sb.fn_at (x := "so_look") (st := Sb.s_so_look) (ps := ["state", "n"]) KX G (fun _ _ _ _ _ _ us hl => match us, hl with | [_, _], _ => rfl) (by k_is) (by k_is) (by k_is) (by k_is)
  obtain ⟨r_so_worth, h_so_worth⟩ := Sb.fn_at (x := "so_worth") (st := Sb.s_so_worth) (ps := ["state"]) KX G (fun _ _ _ _ _ _ us hl => match us, hl with | [_], _ => rfl) (by k_is) (by k_is) (by k_is) (by k_is)
  obtain ⟨r_so_sums, h_so_sums⟩ := Sb.fn_at (x := "so_sums") (st := Sb.s_so_sums) (ps := ["state", "kind"]) KX G (fun _ _ _ _ _ _ us hl => match us, hl with | [_, _], _ => rfl) (by k_is) (by k_is) (by k_is) (by k_is)
  obtain ⟨r_so_money, h_so_money⟩ := Sb.fn_at (x := "so_money") (st := Sb.s_so_money) (ps := ["state"]) KX G (fun _ _ _ _ _ _ us hl => match us, hl with | [_], _ => rfl) (by k_is) (by k_is) (by k_is) (by k_is)
  obtain ⟨r_told_behind, h_told_behind⟩ := Sb.fn_at (x := "told_behind") (st := Sb.s_told_behind) (ps := ["tape", "call"]) KX G (fun _ _ _ _ _ _ us hl => match us, hl with | [_, _], _ => rfl) (by k_is) (by k_is) (by k_is) (by k_is)
  obtain ⟨r_answer_to, h_answer_to⟩ := Sb.fn_at (x := "answer_to") (st := Sb.s_answer_to) (ps := ["history", "call", "told"]) KX G (fun _ _ _ _ _ _ us hl => match us, hl with | [_, _, _], _ => rfl) (by k_is) (by k_is) (by k_is) (by k_is)
  obtain ⟨r_answers, h_answers⟩ := Sb.fn_at (x := "answers") (st := Sb.s_answers) (ps := ["calls"]) KX G (fun _ _ _ _ _ _ us hl => match us, hl with | [_], _ => rfl) (by k_is) (by k_is) (by k_is) (by k_is)
  have g_KINDS : L2.GInt mg "KINDS" (6) := Sb.int_at KX G (by k_is)
  have g_THOUSAND : L2.GInt mg "THOUSAND" (1000) := Sb.int_at KX G (by k_is)
  have g_BAYS : L2.GInt mg "BAYS" (6) := Sb.int_at KX G (by k_is)
  have g_MACHINES : L2.GInt mg "MACHINES" (5) := Sb.int_at KX G (by k_is)
  have g_MOST_HELD : L2.GInt mg "MOST_HELD" (1000000) := Sb.int_at KX G (by k_is)
  have g_MOST_TIMES : L2.GInt mg "MOST_TIMES" (20) := Sb.int_at KX G (by k_is)
  have g_MISSING : L2.GInt mg "MISSING" (-2) := Sb.int_at KX G (by k_is)
  have g_EMPTY : L2.GInt mg "EMPTY" (-6) := Sb.int_at KX G (by k_is)
  have g_WRONG : L2.GInt mg "WRONG" (-22) := Sb.int_at KX G (by k_is)
  have g_FULL : L2.GInt mg "FULL" (-28) := Sb.int_at KX G (by k_is)
  have g_UNFIT : L2.GInt mg "UNFIT" (-33) := Sb.int_at KX G (by k_is)
  have g_NO_ROOM : L2.GInt mg "NO_ROOM" (-62) := Sb.int_at KX G (by k_is)
  have g_MOST_SETTINGS : L2.GInt mg "MOST_SETTINGS" (3) := Sb.int_at KX G (by k_is)
  have g_MOST_FED_OF_A_KIND : L2.GInt mg "MOST_FED_OF_A_KIND" (10000) := Sb.int_at KX G (by k_is)
  have g_MOST_IN_HOPPER : L2.GInt mg "MOST_IN_HOPPER" (100000) := Sb.int_at KX G (by k_is)
  have g_MOST_EVER_FED : L2.GInt mg "MOST_EVER_FED" (100000000) := Sb.int_at KX G (by k_is)
  have g_MOST_BALES : L2.GInt mg "MOST_BALES" (40) := Sb.int_at KX G (by k_is)
  have g_HIGHEST_PRICE : L2.GInt mg "HIGHEST_PRICE" (10000) := Sb.int_at KX G (by k_is)
  have g_HIGHEST_DUMP_PRICE : L2.GInt mg "HIGHEST_DUMP_PRICE" (1000) := Sb.int_at KX G (by k_is)
  have g_MOST_TAKEN_BACK : L2.GInt mg "MOST_TAKEN_BACK" (30) := Sb.int_at KX G (by k_is)
  have g_NO_HARM : L2.GInt mg "NO_HARM" (6) := Sb.int_at KX G (by k_is)
  have g_MOST_ASKED_OF : L2.GInt mg "MOST_ASKED_OF" (100000) := Sb.int_at KX G (by k_is)
  have g_START : L2.GInt mg "START" (0) := Sb.int_at KX G (by k_is)
  have g_FIRST_CHANGE : L2.GInt mg "FIRST_CHANGE" (1) := Sb.int_at KX G (by k_is)
  have g_FIRST_QUESTION : L2.GInt mg "FIRST_QUESTION" (12) := Sb.int_at KX G (by k_is)
  have g_BACK : L2.GInt mg "BACK" (28) := Sb.int_at KX G (by k_is)
  have g_AGAIN : L2.GInt mg "AGAIN" (29) := Sb.int_at KX G (by k_is)
  have n_all : mg "all" = none := Sb.no_at KX G (by k_is)
  have n_enumerate : mg "enumerate" = none := Sb.no_at KX G (by k_is)
  have n_len : mg "len" = none := Sb.no_at KX G (by k_is)
  have n_list : mg "list" = none := Sb.no_at KX G (by k_is)
  have n_max : mg "max" = none := Sb.no_at KX G (by k_is)
  have n_range : mg "range" = none := Sb.no_at KX G (by k_is)
  have n_sum : mg "sum" = none := Sb.no_at KX G (by k_is)
  have n_tuple : mg "tuple" = none := Sb.no_at KX G (by k_is)
  have n_zip : mg "zip" = none := Sb.no_at KX G (by k_is)
  obtain ⟨c_NOTHING, g_NOTHING, q_NOTHING⟩ := Sb.tf_NOTHING KX G (by k_is) (by k_is)
  obtain ⟨c_CHANGES, g_CHANGES, q_CHANGES⟩ := Sb.tf_CHANGES KX G (by k_is) (by k_is) (by k_is) h_so_machine.g (by k_is) h_so_setting.g (by k_is) h_so_turn.g (by k_is) h_so_belt.g (by k_is) h_so_bay.g (by k_is) h_so_feed.g (by k_is) h_so_run.g (by k_is) h_so_bale.g (by k_is) h_so_dump.g (by k_is) h_so_return.g (by k_is) h_so_take.g
  obtain ⟨c_QUESTIONS, g_QUESTIONS, q_QUESTIONS⟩ := Sb.tf_QUESTIONS KX G (by k_is) (by k_is) (by k_is) h_so_would.g (by k_is) h_so_loads.g (by k_is) h_so_pure.g (by k_is) h_so_best.g (by k_is) h_so_often.g (by k_is) h_so_goes.g (by k_is) h_so_split.g (by k_is) h_so_hopper.g (by k_is) h_so_in.g (by k_is) h_so_sets.g (by k_is) h_so_belts.g (by k_is) h_so_bales.g (by k_is) h_so_look.g (by k_is) h_so_worth.g (by k_is) h_so_sums.g (by k_is) h_so_money.g
  obtain ⟨c_SHAPES, es_SHAPES, g_SHAPES, q_SHAPES, qe_SHAPES⟩ := Sb.tf_SHAPES KX G (by k_is) (by k_is) (by k_is) (by k_is) (by k_is) (by k_is) (by k_is) (by k_is) (by k_is) (by k_is) (by k_is) (by k_is) (by k_is) (by k_is) (by k_is) (by k_is) (by k_is) (by k_is) (by k_is) (by k_is) (by k_is) (by k_is) (by k_is) (by k_is) (by k_is) (by k_is) (by k_is) (by k_is) (by k_is) (by k_is) (by k_is) (by k_is) (by k_is)
  have T : Sb.Txt _ mg ⟨r_only, r_added, r_lessened, r_parted, r_Machine_init, r_Machine_copied, r_Bay_init, r_Bay_copied, r_State_init, r_State_copied, r_is_good, r_brought, r_mixes_of, r_worth_of_all, r_entered, r_part_at, r_put_through, r_put_through_alone, r_put_hopper_through, r_again_till_good, r_machine_loads, r_machines_part, r_bays_hold, r_fits, r_branched, r_ways_through, r_best_settings, r_most_is_right, r_hopper_takes, r_so_machine, r_so_setting, r_so_turn, r_leads_on, r_so_belt, r_so_bay, r_so_feed, r_so_run, r_so_bale, r_so_dump, r_so_return, r_so_take, r_called, r_History_init, r_History_begin, r_History_change, r_History_ask, r_History_back, r_History_again, r_History_standing, r_filled_up, r_for_each_machine, r_with_sum, r_so_would, r_so_loads, r_so_pure, r_so_best, r_so_often, r_so_goes, r_so_split, r_so_hopper, r_so_in, r_so_sets, r_so_belts, r_brought_by_bales, r_so_bales, r_so_look, r_so_worth, r_so_sums, r_so_money, r_Tape_init, r_Tape_ended, r_Tape_take, r_Tape_number, r_Tape_row, r_told_behind, r_answer_to, r_answers, c_Machine, c_Bay, c_State, c_History, c_Tape, c_NOTHING, c_CHANGES, c_QUESTIONS, c_SHAPES, es_SHAPES⟩ := ⟨h_only, h_added, h_lessened, h_parted, h_Machine_init, h_Machine_copied, h_Bay_init, h_Bay_copied, h_State_init, h_State_copied, h_is_good, h_brought, h_mixes_of, h_worth_of_all, h_entered, h_part_at, h_put_through, h_put_through_alone, h_put_hopper_through, h_again_till_good, h_machine_loads, h_machines_part, h_bays_hold, h_fits, h_branched, h_ways_through, h_best_settings, h_most_is_right, h_hopper_takes, h_so_machine, h_so_setting, h_so_turn, h_leads_on, h_so_belt, h_so_bay, h_so_feed, h_so_run, h_so_bale, h_so_dump, h_so_return, h_so_take, h_called, h_History_init, h_History_begin, h_History_change, h_History_ask, h_History_back, h_History_again, h_History_standing, h_filled_up, h_for_each_machine, h_with_sum, h_so_would, h_so_loads, h_so_pure, h_so_best, h_so_often, h_so_goes, h_so_split, h_so_hopper, h_so_in, h_so_sets, h_so_belts, h_brought_by_bales, h_so_bales, h_so_look, h_so_worth, h_so_sums, h_so_money, h_Tape_init, h_Tape_ended, h_Tape_take, h_Tape_number, h_Tape_row, h_told_behind, h_answer_to, h_answers, h_Machine, h_Bay, h_State, h_History, h_Tape, na_Machine_most, na_Machine_settings, na_Machine_chosen, na_Machine_belts, na_Bay_kind, na_Bay_pure, na_Bay_price, na_Bay_most, na_Bay_mix, na_State_harm, na_State_hopper, na_State_machines, na_State_bays, na_State_bales, na_State_fed, na_State_dumped, na_State_cost, na_History_state, na_History_past, na_History_undone, na_Tape_numbers, na_Tape_at, g_KINDS, g_THOUSAND, g_BAYS, g_MACHINES, g_MOST_HELD, g_MOST_TIMES, g_MISSING, g_EMPTY, g_WRONG, g_FULL, g_UNFIT, g_NO_ROOM, g_MOST_SETTINGS, g_MOST_FED_OF_A_KIND, g_MOST_IN_HOPPER, g_MOST_EVER_FED, g_MOST_BALES, g_HIGHEST_PRICE, g_HIGHEST_DUMP_PRICE, g_MOST_TAKEN_BACK, g_NO_HARM, g_MOST_ASKED_OF, g_START, g_FIRST_CHANGE, g_FIRST_QUESTION, g_BACK, g_AGAIN, g_NOTHING, g_CHANGES, g_QUESTIONS, g_SHAPES, q_NOTHING, q_CHANGES, q_QUESTIONS, q_SHAPES, qe_SHAPES, n_all, n_enumerate, n_len, n_list, n_max, n_range, n_sum, n_tuple, n_zip⟩
  have e := hmg.symm.trans h_answers.g
  injection e with e
  injection e with e
  subst e
  exact ⟨r_answers.d, Sb.binds_ans h_answers, fun base _ _ => Sb.ok_answers T⟩
 case S =>
  intro K H xs a hO hwi hask hx
  cases hx with
  | cons h1 h2 =>
   cases h2
   cases h1 with
   | lst hs ha =>
    have e := L2.ints_dw a.1 _ ha
    subst e
    exact ⟨_, a.1, rfl, hs, hask, fun H' p hp => .lst (L2.SqL.of hp) (L2.dw_ints _)⟩
