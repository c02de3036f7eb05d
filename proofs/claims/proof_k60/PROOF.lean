import PyProof.Rows.All
import Wide.All
import OpenK.AllK
import Wide.FinOn
import Lean
import PyProof.EqAt
import PyProof.EqKinds
import PyProof.TupleCall
import PySem.Challenge.RW_ringbase_k60_pages_refused
set_option Elab.async false
set_option linter.all false
set_option maxRecDepth 100000
namespace L2
open PySem PySem.Spec PyProof.Rows

abbrev Key := Sum Int Str
def keyIs : Key → Value → Bool
  | .inl k, v => Value.isInt k v
  | .inr x, v => Value.isStrOf x v
def keyH (w : World) : Key → Int
  | .inl k => hashInt k
  | .inr x => hashStr w x
theorem keyIs_shape : ∀ {k : Key} {v : Value}, keyIs k v = true → (∃ i t, k = Sum.inl i ∧ v = Value.int i t) ∨ (∃ x t, k = Sum.inr x ∧ v = Value.str x t)
  | .inl i, v, h => by
    obtain ⟨t, e⟩ := Value.isInt_shape (k := i) (v := v) h
    exact .inl ⟨i, t, rfl, e⟩
  | .inr x, v, h => by
    obtain ⟨t, e⟩ := Value.isStrOf_shape (x := x) (v := v) h
    exact .inr ⟨x, t, rfl, e⟩
theorem key_ll (a b : Int) : decide ((Sum.inl a : Key) = Sum.inl b) = (a == b) := by
  by_cases e : a = b
  · subst e; simp
  · have h : ¬ (Sum.inl a : Key) = Sum.inl b := fun q => e (Sum.inl.inj q)
    rw [decide_eq_false h]
    exact (beq_eq_false_iff_ne.mpr e).symm
theorem key_rr (a b : Str) : decide ((Sum.inr a : Key) = Sum.inr b) = decide (a = b) := by
  by_cases e : a = b
  · subst e; simp
  · have h : ¬ (Sum.inr a : Key) = Sum.inr b := fun q => e (Sum.inr.inj q)
    rw [decide_eq_false h, decide_eq_false e]
theorem key_lr (a : Int) (b : Str) : decide ((Sum.inl a : Key) = Sum.inr b) = false := decide_eq_false (fun q => nomatch q)
theorem key_rl (a : Str) (b : Int) : decide ((Sum.inr a : Key) = Sum.inl b) = false := decide_eq_false (fun q => nomatch q)

def mixKind (prog : Program) (w : World) : PySem.KeyKind prog w Key where
  is := keyIs
  hash := keyH w
  inj := fun v a b ha hb => by
    rcases keyIs_shape ha with ⟨i, t, rfl, rfl⟩ | ⟨x, t, rfl, rfl⟩
    · rcases keyIs_shape hb with ⟨j, u, rfl, e⟩ | ⟨y, u, rfl, e⟩
      · injection e with e1 _; rw [e1]
      · exact nomatch e
    · rcases keyIs_shape hb with ⟨j, u, rfl, e⟩ | ⟨y, u, rfl, e⟩
      · exact nomatch e
      · injection e with e1 _; rw [e1]
  byValue := fun k v h => by
    rcases keyIs_shape h with ⟨i, t, rfl, rfl⟩ | ⟨x, t, rfl, rfl⟩ <;> rfl
  pyHash := fun hv h => by
    rcases keyIs_shape hv with ⟨i, t, rfl, rfl⟩ | ⟨x, t, rfl, rfl⟩
    · exact wpAny_pyHash_int h
    · exact wpAny_pyHash_str h
  eqBool := fun hu hv h => by
    rcases keyIs_shape hu with ⟨i, t, rfl, rfl⟩ | ⟨x, t, rfl, rfl⟩
    · rcases keyIs_shape hv with ⟨j, u, rfl, rfl⟩ | ⟨y, u, rfl, rfl⟩
      · rw [key_ll] at h; exact wpAny_eqBool_int h
      · rw [key_lr] at h; exact SeqAt.EqAt.int_str i t y u _ _ _ _ h
    · rcases keyIs_shape hv with ⟨j, u, rfl, rfl⟩ | ⟨y, u, rfl, rfl⟩
      · rw [key_rl] at h; exact SeqAt.EqAt.str_int x t j u _ _ _ _ h
      · rw [key_rr] at h; exact wpAny_eqBool_str h
  «strs» := fun k x t v h => by
    rcases keyIs_shape h with ⟨i, u, rfl, e⟩ | ⟨y, u, rfl, e⟩
    · exact nomatch e
    · injection e with e1 _
      subst e1
      cases v <;> rfl

end L2

namespace L2
open PySem PySem.Spec PyProof.Rows

inductive V where
  | non | bl (b : Bool) | int (i : Int) | str (x : Str) | byt (b : Array UInt8) | flt (b : UInt64) | ref (a : Addr) | ty (n : String)
  deriving DecidableEq

def RelV : V → Value → Prop
  | .non, u => u = Value.none
  | .bl b, u => u = Value.bool b
  | .int i, u => ∃ t, u = Value.int i t
  | .str x, u => ∃ t, u = Value.str x t
  | .byt b, u => ∃ t, u = Value.bytes b t
  | .flt b, u => ∃ t, u = Value.float b t
  | .ref a, u => u = Value.ref a
  | .ty n, u => u = Value.type n

abbrev Vals : List V → List Value → Prop := Paired RelV
theorem Vals.length {xs : List V} {us : List Value} (r : Vals xs us) : xs.length = us.length := Paired.length r
theorem Vals.get : ∀ {xs : List V} {us : List Value} {i : Nat} {x : V}, Vals xs us → xs[i]? = some x → ∃ u, us[i]? = some u ∧ RelV x u
  | _, _, _, _, .nil, e => by simp at e
  | _, _, 0, _, .cons r _, e => by simp at e; subst e; exact ⟨_, rfl, r⟩
  | _, _, i + 1, x, .cons _ t, e => by
    obtain ⟨u, h1, h2⟩ := Vals.get (i := i) (x := x) t (by simpa using e)
    exact ⟨u, by simpa using h1, h2⟩
theorem Vals.append : ∀ {xs ys : List V} {us ws : List Value}, Vals xs us → Vals ys ws → Vals (xs ++ ys) (us ++ ws)
  | _, _, _, _, .nil, s => s
  | _, _, _, _, .cons r t, s => .cons r (Vals.append t s)
theorem Vals.take : ∀ {xs : List V} {us : List Value} (n : Nat), Vals xs us → Vals (xs.take n) (us.take n)
  | _, _, 0, _ => .nil
  | _, _, _ + 1, .nil => .nil
  | _, _, n + 1, .cons r t => .cons r (Vals.take n t)
theorem Vals.drop : ∀ {xs : List V} {us : List Value} (n : Nat), Vals xs us → Vals (xs.drop n) (us.drop n)
  | _, _, 0, r => r
  | _, _, _ + 1, .nil => .nil
  | _, _, n + 1, .cons _ t => Vals.drop n t
def RelO : Option V → Option Value → Prop
  | some v, some u => RelV v u
  | none, none => True
  | _, _ => False
def KV {κ : Type} : List (κ × V) → List (κ × Value) → Prop := Paired fun (p : κ × V) (q : κ × Value) => p.1 = q.1 ∧ RelV p.2 q.2

def kV : Key → V
  | .inl i => .int i
  | .inr x => .str x

inductive HO where
  /-- a list -/
  | lst (xs : List V)
  /-- a tuple (never changes) -/
  | tup (xs : List V)
  /-- a dict whose keys are ints and texts; one whose keys are tuples of ints and texts (the empty one is both) -/
  | dK (kvs : List (Key × V)) | dT (kvs : List (List Key × V))
  /-- a set of ints: its members, its size -/
  | set (S : Int → Bool) (n : Nat)
  /-- an instance of the class at C, its dict at dx, its attributes -/
  | ins (C dx : Addr) (fs : List (Str × V))
  /-- the dict of the instance at x -/
  | own (x : Addr)
  /-- the dict of an exception -/
  | xd (fs : List (Str × V))
  /-- a bound method, f of x -/
  | met (f x : Addr)
  /-- a range object lo, lo + 1, .. below hi -/
  | rng (lo hi : Int)
  /-- a thing that is known to the object (the script; a dict while a loop walks it): read, never written while it is so -/
  | frz (o : Obj) (u : HO)
  /-- a code object's table -/
  | tbl (ps : Array Value)
  /-- any other thing, by what is true of its one object (a def of one's own: SetO a S n := HO.ext fun h => ..) -/
  | ext (φ : Heap → Prop)

abbrev Hp := Addr → Option HO
def upd (H : Hp) (a : Addr) (o : HO) : Hp := fun b => if b = a then some o else H b
theorem upd_same {H : Hp} {a : Addr} {o : HO} : upd H a o a = some o := by unfold upd; rw [if_pos rfl]
theorem upd_ne {H : Hp} {a b : Addr} {o : HO} (h : b ≠ a) : upd H a o b = H b := by unfold upd; rw [if_neg h]
theorem ne_of {H : Hp} {a b : Addr} {o u : HO} (h : H a = some o) (h' : H b = some u) (d : o ≠ u) : a ≠ b := by
  intro e; subst e; rw [h] at h'; exact d (Option.some.inj h')
theorem ne_of_none {H : Hp} {a b : Addr} {o : HO} (h : H a = some o) (h' : H b = none) : a ≠ b := by
  intro e; subst e; rw [h] at h'; cases h'

section
variable (P : Program) (w : World)
def ObjOk (H : Hp) (h : Heap) (a : Addr) : HO → Prop
  | .lst xs => xs.length ≤ sizeLine ∧ ∃ (its : List Value) (n : Nat), Vals xs its ∧ h.get? a = some { cls := .type "list", data := .seq its.toArray n }
  | .tup xs => xs.length ≤ sizeLine ∧ ∃ its : List Value, Vals xs its ∧ IsTup h a its.toArray
  | .dK kvs => kvs.length ≤ sizeLine ∧ (a == sysModules) = false ∧ ∃ vs, KV kvs vs ∧ h.DictOf (mixKind P w) a vs
  | .dT kvs => kvs.length ≤ sizeLine ∧ (a == sysModules) = false ∧ ∃ xs : List (List Key × Addr × Value),
      Paired (fun (p : List Key × V) (q : List Key × Addr × Value) => p.1 = q.1 ∧ H q.2.1 = some (.tup (p.1.map kV)) ∧ RelV p.2 q.2.2) kvs xs ∧
      ∃ o es ep, h.get? a = some o ∧ o.ExactDict ∧ o.data = .dict es ep ∧ es.toList = xs.map (entryOfKey (tupleKind (mixKind P w))) ∧ (xs.map (·.1)).Nodup
  | .set S n => h.SetOf (intKind P w) a S n
  | .ins C dx fs => H dx = some (.own a) ∧ fs.length ≤ 1000 ∧ dx ≠ a ∧ h.get? a = some (PySem.W.instObj C dx) ∧
      ∃ mA, h.Ns1 dx mA ∧ (∀ f, RelO (fs.lookup f) (mA f)) ∧ PySem.Within mA (fs.map (·.1))
  | .own _ => ∃ o, h.get? a = some o
  | .xd fs => ∃ mA, h.Ns1 a mA ∧ ∀ f, RelO (fs.lookup f) (mA f)
  | .rng lo hi => ∃ t u v, h.get? a = some { cls := .type "range", data := .fields #[.int lo t, .int hi u, .int 1 v] }
  | .frz o u => h.get? a = some o ∧ ObjOk H h a u
  | .tbl ps => h.get? a = some { cls := .none, data := .fields ps }
  | .met f x => h.get? a = some (PySem.W.methodObj (.ref f) (.ref x))
  | .ext φ => φ h ∧ (∃ o, h.get? a = some o) ∧ ∀ h1 h2 : Heap, φ h1 → (∀ o, h1.get? a = some o → h2.get? a = some o) → φ h2
def HOk (H : Hp) (h : Heap) : Prop := ∀ a o, H a = some o → ObjOk P w H h a o
end

section
variable {P : Program} {w : World} {H H' : Hp} {h h' : Heap} {a : Addr} {o : HO}
theorem ObjOk.lt (x : ObjOk P w H h a o) : a < h.objs.size := by
  cases o with
  | lst xs => obtain ⟨_, _, _, _, e⟩ := x; exact Heap.lt_size e
  | tup xs => obtain ⟨_, _, _, p⟩ := x; exact p.lt
  | dK kvs => obtain ⟨_, _, _, _, o, _, _, e, _⟩ := x; exact Heap.lt_size e
  | dT kvs => obtain ⟨_, _, _, _, o, _, _, e, _⟩ := x; exact Heap.lt_size e
  | set S n => obtain ⟨o, _, _, _, e, _⟩ := x; exact Heap.lt_size e
  | ins C dx fs => obtain ⟨_, _, _, e, _⟩ := x; exact Heap.lt_size e
  | own y => obtain ⟨_, e⟩ := x; exact Heap.lt_size e
  | xd fs => obtain ⟨_, ⟨_, _, _, e, _⟩, _⟩ := x; exact Heap.lt_size e
  | rng lo hi => obtain ⟨_, _, _, e⟩ := x; exact Heap.lt_size e
  | frz ob u => obtain ⟨e, _⟩ := x; exact Heap.lt_size e
  | tbl ps => exact Heap.lt_size (show h.get? a = some _ from x)
  | met f y => exact Heap.lt_size (show h.get? a = some _ from x)
  | ext φ => obtain ⟨_, ⟨_, e⟩, _⟩ := x; exact Heap.lt_size e
theorem Paired.mapP {α β : Type} {F G : α → β → Prop} : ∀ {l₁ : List α} {l₂ : List β}, Paired F l₁ l₂ → (∀ a b, F a b → G a b) → Paired G l₁ l₂
  | _, _, .nil, _ => .nil
  | _, _, .cons r t, f => .cons (f _ _ r) (Paired.mapP t f)
theorem Paired.imp' {α β : Type} {F G : α → β → Prop} (f : ∀ a b, F a b → G a b) {l₁ : List α} {l₂ : List β} (r : Paired F l₁ l₂) : Paired G l₁ l₂ := Paired.mapP r f
theorem ObjOk.stay (x : ObjOk P w H h a o) (k : ∀ b u, (b = a ∨ H b = some (.own a)) → h.get? b = some u → h'.get? b = some u)
    (ho : ∀ b, H b = some (.own a) → H' b = some (.own a)) (ht : ∀ b xs, H b = some (.tup xs) → H' b = some (.tup xs)) : ObjOk P w H' h' a o := by
  induction o with
  | lst xs => obtain ⟨z, its, n, r, e⟩ := x; exact ⟨z, its, n, r, k _ _ (.inl rfl) e⟩
  | tup xs => obtain ⟨z, its, r, ob, e, c⟩ := x; exact ⟨z, its, r, ob, k _ _ (.inl rfl) e, c⟩
  | dK kvs => obtain ⟨z, y, vs, r, ob, es, ep, e, c⟩ := x; exact ⟨z, y, vs, r, ob, es, ep, k _ _ (.inl rfl) e, c⟩
  | dT kvs =>
    obtain ⟨z, y, xs, r, ob, es, ep, e, c⟩ := x
    exact ⟨z, y, xs, Paired.mapP r fun p q z => ⟨z.1, ht _ _ z.2.1, z.2.2⟩, ob, es, ep, k _ _ (.inl rfl) e, c⟩
  | set S n => obtain ⟨ob, es, ep, t, e, c⟩ := x; exact ⟨ob, es, ep, t, k _ _ (.inl rfl) e, c⟩
  | ins C dx fs =>
    obtain ⟨d, z, ne, e, mA, ⟨od, es, ep, e2, c⟩, r⟩ := x
    exact ⟨ho _ d, z, ne, k _ _ (.inl rfl) e, mA, ⟨od, es, ep, k _ _ (.inr d) e2, c⟩, r⟩
  | own y => obtain ⟨ob, e⟩ := x; exact ⟨ob, k _ _ (.inl rfl) e⟩
  | xd fs => obtain ⟨mA, ⟨od, es, ep, e, c⟩, r⟩ := x; exact ⟨mA, ⟨od, es, ep, k _ _ (.inl rfl) e, c⟩, r⟩
  | rng lo hi => obtain ⟨t, u, v, e⟩ := x; exact ⟨t, u, v, k _ _ (.inl rfl) e⟩
  | frz ob u ih => obtain ⟨e, q⟩ := x; exact ⟨k _ _ (.inl rfl) e, ih q⟩
  | tbl ps =>
    have e : h.get? a = some { cls := .none, data := .fields ps } := x
    show h'.get? a = some { cls := .none, data := .fields ps }
    exact k a _ (.inl rfl) e
  | met f y =>
    have e : h.get? a = some (PySem.W.methodObj (.ref f) (.ref y)) := x
    show h'.get? a = some (PySem.W.methodObj (.ref f) (.ref y))
    exact k a _ (.inl rfl) e
  | ext φ => obtain ⟨p, ⟨o, e⟩, st⟩ := x; exact ⟨st _ _ p fun o q => k _ _ (.inl rfl) q, ⟨o, k _ _ (.inl rfl) e⟩, st⟩
theorem HOk.lt (x : HOk P w H h) (e : H a = some o) : a < h.objs.size := (x a o e).lt
theorem HOk.fresh (x : HOk P w H h) (e : h.objs.size ≤ a) : H a = none := by
  cases q : H a with
  | none => rfl
  | some u => exact absurd (Nat.lt_of_lt_of_le (x.lt q) e) (Nat.lt_irrefl _)
theorem HOk.kept (x : HOk P w H h) (k : ∀ b u, h.get? b = some u → h'.get? b = some u) : HOk P w H h' := fun a o e =>
  (x a o e).stay (fun b u _ q => k b u q) (fun _ q => q) fun _ _ q => q
theorem HOk.laid (x : HOk P w H h) (k : ∀ b u, h.get? b = some u → h'.get? b = some u) (hp : h.objs.size ≤ a) (new : ObjOk P w (upd H a o) h' a o) : HOk P w (upd H a o) h' := fun b u e => by
  have hn := x.fresh hp
  by_cases hb : b = a
  · subst hb; rw [upd_same] at e; cases e; exact new
  · rw [upd_ne hb] at e
    exact (x b u e).stay (fun c v _ q => k c v q) (fun c q => by rw [upd_ne (ne_of_none q hn)]; exact q) fun c xs q => by rw [upd_ne (ne_of_none q hn)]; exact q
end

def Rd (H : Hp) (a : Addr) (u : HO) : Prop := H a = some u ∨ ∃ o, H a = some (.frz o u)
theorem Rd.ok {P : Program} {w : World} {H : Hp} {h : Heap} {a : Addr} {u : HO} (r : Rd H a u) (x : HOk P w H h) : ObjOk P w H h a u := by
  rcases r with r | ⟨o, r⟩
  · exact x a u r
  · obtain ⟨_, q⟩ := x a _ r
    exact q
def Mut : Option HO → Prop
  | some (.lst _) => True
  | some (.dK _) => True
  | some (.dT _) => True
  | some (.set _ _) => True
  | some (.ins _ _ _) => True
  | some (.ext _) => True
  | _ => False
section
variable {P : Program} {w : World} {H : Hp} {h h' : Heap} {x e : Addr} {o' : HO}
theorem HOk.write (ok : HOk P w H h) (mu : Mut (H x)) (he : e = x ∨ H e = some (.own x)) (k : ∀ b u, b ≠ e → h.get? b = some u → h'.get? b = some u) (heo : ∃ u, h'.get? e = some u)
    (new : ObjOk P w (upd H x o') h' x o') : HOk P w (upd H x o') h' := fun b u q => by
  have nown : ∀ c y, H c = some (.own y) → c ≠ x := fun c y r z => by subst z; rw [r] at mu; exact mu
  have ntup : ∀ c xs, H c = some (.tup xs) → c ≠ x := fun c xs r z => by subst z; rw [r] at mu; exact mu
  by_cases hb : b = x
  · subst hb; rw [upd_same] at q; cases q; exact new
  · rw [upd_ne hb] at q
    by_cases hbe : b = e
    · have q' : H b = some (.own x) := by
        rcases he with z | z
        · exact absurd (hbe.trans z) hb
        · rw [hbe]; exact z
      rw [q] at q'; cases q'
      obtain ⟨v, hv⟩ := heo
      exact ⟨v, by rw [hbe]; exact hv⟩
    · refine (ok b u q).stay (fun c v hc r => k c v ?_ r) (fun c r => by rw [upd_ne (nown c b r)]; exact r) fun c xs r => by rw [upd_ne (ntup c xs r)]; exact r
      rcases hc with rfl | hc
      · exact hbe
      · rintro rfl
        rcases he with z | z
        · exact nown c b hc z
        · rw [hc] at z; cases z; exact hb rfl
end

structure Un (fs ex : List Addr) (H H' : Hp) (h h' : Heap) : Prop where
  keep : ∀ b o, h.get? b = some o → H b = none → b ∉ fs → b ∉ ex → h'.get? b = some o
  slot : ∀ b o, h.get? b = some o → H b = none → b ∈ fs → b ∉ ex → ∃ sl, h'.get? b = some { o with slots := sl }
  free : ∀ b o, h.get? b = some o → H b = none → b ∉ ex → H' b = none
  there : ∀ b o, h.get? b = some o → b ∉ ex → ∃ o', h'.get? b = some o'
  tups : ∀ b xs, H b = some (.tup xs) → H' b = some (.tup xs)
  frzs : ∀ b o u, H b = some (.frz o u) → H' b = some (.frz o u)
  tbls : ∀ b ps, H b = some (.tbl ps) → ∃ more, H' b = some (.tbl (ps ++ more))
section
variable {fs fs' ex ex' : List Addr} {H H1 H2 : Hp} {h h1 h2 h' : Heap} {a x e : Addr} {o : HO}
theorem Un.any (u : Un fs ex H H1 h h1) {b : Addr} {ob : Obj} (q : h.get? b = some ob) (n : H b = none) (hx : b ∉ ex) : ∃ sl, h1.get? b = some { ob with slots := sl } := by
  by_cases hb : b ∈ fs
  · exact u.slot b ob q n hb hx
  · exact ⟨ob.slots, u.keep b ob q n hb hx⟩
theorem Un.kept (k : ∀ b u, h.get? b = some u → h'.get? b = some u) : Un fs ex H H h h' :=
  ⟨fun b ob q _ _ _ => k b ob q, fun b ob q _ _ _ => ⟨ob.slots, k b ob q⟩, fun _ _ _ n _ => n, fun b ob q _ => ⟨ob, k b ob q⟩, fun _ _ q => q, fun _ _ _ q => q, fun _ ps q => ⟨#[], by rw [q]; simp⟩⟩
theorem Un.refl : Un fs ex H H h h := Un.kept fun _ _ q => q
theorem Un.laid (k : ∀ b u, h.get? b = some u → h'.get? b = some u) (hp : h.objs.size ≤ a) (hn : H a = none) : Un fs ex H (upd H a o) h h' where
  keep := fun b u q _ _ _ => k b u q
  slot := fun b u q _ _ _ => ⟨u.slots, k b u q⟩
  free := fun b u q n _ => by rw [upd_ne (Nat.ne_of_lt (Nat.lt_of_lt_of_le (Heap.lt_size q) hp))]; exact n
  there := fun b u q _ => ⟨u, k b u q⟩
  tups := fun b xs q => by rw [upd_ne (ne_of_none q hn)]; exact q
  frzs := fun b u xs q => by rw [upd_ne (ne_of_none q hn)]; exact q
  tbls := fun b ps q => ⟨#[], by rw [upd_ne (ne_of_none q hn), q]; simp⟩
theorem Un.write (mu : Mut (H x)) (he : e = x ∨ H e = some (.own x)) (k : ∀ b u, b ≠ e → h.get? b = some u → h'.get? b = some u) (heo : ∃ u, h'.get? e = some u) : Un fs ex H (upd H x o) h h' := by
  have hx : ∀ b, H b = none → b ≠ x := fun b n z => by subst z; rw [n] at mu; exact mu
  have hb : ∀ b, H b = none → b ≠ e := fun b n z => by
    subst z
    rcases he with r | r
    · exact hx b n r
    · rw [n] at r; cases r
  have hm : ∀ b u, H b = some u → ¬ Mut (some u) → b ≠ x := fun b u q nm z => by subst z; rw [q] at mu; exact nm mu
  refine ⟨fun b u q n _ _ => k b u (hb b n) q, fun b u q n _ _ => ⟨u.slots, k b u (hb b n) q⟩, fun b u q n _ => by rw [upd_ne (hx b n)]; exact n, fun b u q _ => ?_,
    fun b xs q => by rw [upd_ne (hm b _ q fun z => z)]; exact q, fun b u xs q => by rw [upd_ne (hm b _ q fun z => z)]; exact q, fun b ps q => ⟨#[], by rw [upd_ne (hm b _ q fun z => z), q]; simp⟩⟩
  by_cases hbe : b = e
  · subst hbe; exact heo
  · exact ⟨u, k b u hbe q⟩
end

def trk (h : Heap) (H : Hp) : List Addr := (List.range h.objs.size).filter fun a => (H a).isSome
def hidT (h : Heap) (H : Hp) : Heap := PySem.W.hideAll h (trk h H)
theorem hidT_size (h : Heap) (H : Hp) : (hidT h H).objs.size = h.objs.size := PySem.W.hideAll_size _ _
theorem hidT_get {h : Heap} {H : Hp} {b : Addr} {o : Obj} (e : h.get? b = some o) (n : H b = none) : (hidT h H).get? b = some o :=
  PySem.W.hideAll_get _ e fun hm => by
    have q : (H b).isSome = true := (List.mem_filter.mp hm).2
    rw [n] at q; simp at q
theorem of_hidT {h : Heap} {H : Hp} {b : Addr} {o : Obj} (e : (hidT h H).get? b = some o) : h.get? b = some o ∧ H b = none := by
  have e' : h.get? b = some o := PySem.W.of_hideAll (trk h H) e
  refine ⟨e', ?_⟩
  cases q : H b with
  | none => rfl
  | some x =>
    have hm : b ∈ trk h H := List.mem_filter.mpr ⟨List.mem_range.mpr (Heap.lt_size e'), by simp [q]⟩
    have z : (hidT h H).get? b = none := PySem.W.hideAll_none (trk h H) hm
    rw [z] at e; cases e

end L2

namespace L2
open PySem PySem.Spec PyProof.Rows

structure Mod (K : PySem.W.Frag) (mg : Str → Option Value) (base : Heap) : Prop where
  kin : K.In base
  glob : base.Ns mainGlobals mg
  blt : ∃ mb, base.Ns builtinsNs mb ∧ ∀ x : Str, x ≠ "__name__" → mb x = bootBuiltins x
  nolimit : base.NoLimit

structure Cx where
  prog : Program
  w : World
  K : PySem.W.Frag
  mg : Str → Option Value
  base : Heap
  A : Around
  N : List Str
  s₀ : Shared
  H₀ : Hp
  env : Env
  outer : List Env
  stack : List Env
  ex : List Addr
  fn : Str → Bool
  calm : Bool
  pn : List (Addr × Obj)
  xe : Value → Shared → Prop
def frs (l : List Env) : List Addr := l.filterMap (·.frame)
abbrev Cx.fs (X : Cx) : List Addr := frs X.outer

def Vis (sc : Scope) (x : Str) : Prop := sc.names.lookup x = some .local ∨ sc.names.lookup x = some .cell ∨ sc.names.lookup x = some .free
def Loc (sc : Scope) (x : Str) : Prop := sc.names.lookup x = some .local ∨ sc.names.lookup x = some .cell
def Look (env : Env) (h : Heap) (m : Str → Option Value) (x : Str) (u : Value) : Prop :=
  (env.kindOf x = some .local ∧ m x = some u) ∨ ((env.kindOf x = some .cell ∨ env.kindOf x = some .free) ∧ ∃ c, env.cells.lookup x = some c ∧ h.IsCell c (some u))

structure Cx.Ok (X : Cx) : Prop where
  mod : Mod X.K X.mg X.base
  kind : X.env.scope.kind = .function
  glob : X.env.globals = mainGlobals
  blt : X.env.builtins = builtinsNs
  above : X.s₀.heap.objs.size ≤ X.env.locals
  inj : ∀ x y c, X.env.cells.lookup x = some c → X.env.cells.lookup y = some c → x = y
  has : ∀ x, (X.env.kindOf x = some .cell ∨ X.env.kindOf x = some .free) → ∃ c, X.env.cells.lookup x = some c
  cab : ∀ x c, X.fn x = true → X.env.cells.lookup x = some c → X.s₀.heap.objs.size ≤ c
  hd : X.calm = true → X.A.handled = none
  frames : X.A.frames = some X.stack
  stk : X.stack = X.outer ∨ (X.stack = X.env :: X.outer ∧ X.env.frame = some X.env.locals)
  exf : ∀ b ∈ X.ex, b ≠ X.env.locals ∧ ∀ x c, X.env.cells.lookup x = some c → c ≠ b
  bs : ∀ b o, X.base.get? b = some o → X.s₀.heap.get? b = some o ∧ X.H₀ b = none
  bsz : X.base.objs.size ≤ X.s₀.heap.objs.size
  noex : ∀ b o, X.base.get? b = some o → b ∉ X.ex
  exfs : ∀ b ∈ X.ex, b ∉ X.fs
  funs : X.s₀.heap.FunFrames X.base X.outer
  frf : ∀ b ∈ X.fs, X.H₀ b = none

structure Inv (X : Cx) (pins : List (Addr × Obj)) (σ : List (Option V)) (H : Hp) (s : Shared) : Prop where
  ok : X.Ok
  os : s.os = X.s₀.os
  bare : AllBare s.gens
  base : Un X.fs X.ex X.H₀ H X.s₀.heap s.heap
  loc : ∃ m, s.heap.Ns X.env.locals m ∧ ∀ (i : Nat) (x : Str) (v : V), X.N[i]? = some x → σ[i]? = some (some v) → Vis X.env.scope x → ∃ u, RelV v u ∧ Look X.env s.heap m x u
  cell : ∀ x c, X.env.cells.lookup x = some c → ∃ v, s.heap.IsCell c v
  free : H X.env.locals = none
  freeC : ∀ x c, X.env.cells.lookup x = some c → H c = none
  pin : ∀ p ∈ X.pn ++ pins, s.heap.get? p.1 = some p.2 ∧ H p.1 = none ∧ p.1 ≠ X.env.locals ∧ p.1 ∉ X.fs ∧ ∀ v, p.2.data ≠ .cell v
  hok : HOk X.prog X.w H s.heap
  len : σ.length = X.N.length

section
variable {X : Cx} {pins : List (Addr × Obj)} {σ : List (Option V)} {H H' : Hp} {s : Shared} {h' : Heap}

theorem Cx.Ok.nofr (ok : X.Ok) {b : Addr} {o : Obj} (e : X.base.get? b = some o) : b ∉ X.fs := fun hb => by
  have := (ok.funs.mem hb).1
  rw [e] at this; cases this
theorem Inv.bs (I : Inv X pins σ H s) : ∀ b o, X.base.get? b = some o → s.heap.get? b = some o ∧ H b = none := fun b o e =>
  ⟨I.base.keep b o (I.ok.bs b o e).1 (I.ok.bs b o e).2 (I.ok.nofr e) (I.ok.noex b o e), I.base.free b o (I.ok.bs b o e).1 (I.ok.bs b o e).2 (I.ok.noex b o e)⟩
theorem Inv.bk (I : Inv X pins σ H s) : ∀ b o, X.base.get? b = some o → s.heap.get? b = some o := fun b o e => (I.bs b o e).1
theorem Inv.mod (I : Inv X pins σ H s) : Mod X.K X.mg X.base := I.ok.mod
theorem Inv.kIn (I : Inv X pins σ H s) : X.K.In s.heap := I.ok.mod.kin.keeps I.bk
theorem Inv.lt (I : Inv X pins σ H s) : X.env.locals < s.heap.objs.size := let ⟨_, hn, _⟩ := I.loc; hn.lt
theorem Inv.sz (I : Inv X pins σ H s) : X.s₀.heap.objs.size ≤ s.heap.objs.size := Nat.le_trans I.ok.above (Nat.le_of_lt I.lt)
theorem Inv.nofs (I : Inv X pins σ H s) {a : Addr} (h : s.heap.objs.size ≤ a) : a ∉ X.fs := fun hb => by
  obtain ⟨_, o, ho, _⟩ := I.ok.funs.mem hb
  exact absurd (Nat.lt_of_lt_of_le (Heap.lt_size ho) (Nat.le_trans I.sz h)) (Nat.lt_irrefl _)
theorem Inv.cne (I : Inv X pins σ H s) : ∀ x c, X.env.cells.lookup x = some c → c ≠ X.env.locals := fun x c e z => by
  obtain ⟨v, o, ho, hd⟩ := I.cell x c e
  obtain ⟨m, ⟨o', es, ep, ho', hd', _⟩, _⟩ := I.loc
  rw [z, ho'] at ho; cases ho; rw [hd'] at hd; cases hd
theorem Inv.funs (I : Inv X pins σ H s) : s.heap.FunFrames X.base X.outer := by
  have all : ∀ (l : List Env), (∀ b ∈ frs l, b ∈ X.fs) → X.s₀.heap.FunFrames X.base l → s.heap.FunFrames X.base l := by
    intro l
    induction l with
    | nil => intro _ _; trivial
    | cons env r ih =>
      intro hs hl
      obtain ⟨hk, ⟨L, o, hf, hn, ho, hd⟩, hr⟩ := hl
      have hL : L ∈ X.fs := hs L (by unfold frs; rw [List.filterMap_cons, hf]; exact List.mem_cons_self)
      obtain ⟨sl, e⟩ := I.base.slot L o ho (I.ok.frf L hL) hL fun z => I.ok.exfs L z hL
      exact ⟨hk, ⟨L, _, hf, hn, e, hd⟩, ih (fun b hb => hs b (by unfold frs; rw [List.filterMap_cons, hf]; exact List.mem_cons_of_mem _ hb)) hr⟩
  exact all X.outer (fun _ hb => hb) I.ok.funs

theorem Inv.stack (I : Inv X pins σ H s) : s.heap.FunFrames X.base X.stack := by
  rcases I.ok.stk with e | ⟨e, hf⟩
  · rw [e]; exact I.funs
  · rw [e]
    obtain ⟨m, hn, _⟩ := I.loc
    refine .cons (by rw [I.ok.kind]; decide) hf hn ?_ I.funs
    exact Heap.get?_none_of_le (Nat.le_trans I.ok.bsz I.ok.above)
theorem Inv.stkSub (I : Inv X pins σ H s) : ∀ b ∈ frs X.stack, b ∈ X.env.locals :: X.fs := fun b hb => by
  rcases I.ok.stk with e | ⟨e, hf⟩
  · rw [e] at hb; exact List.mem_cons_of_mem _ hb
  · rw [e] at hb
    unfold frs at hb
    rw [List.filterMap_cons, hf] at hb
    exact hb
theorem Inv.stkFree (I : Inv X pins σ H s) : ∀ b ∈ frs X.stack, H b = none := fun b hb => by
  rcases List.mem_cons.mp (I.stkSub b hb) with e | hb
  · rw [e]; exact I.free
  · obtain ⟨_, o, ho, _⟩ := I.ok.funs.mem hb
    exact I.base.free b o ho (I.ok.frf b hb) fun z => I.ok.exfs b z hb

theorem Inv.step {g' : Array GenState} {t' : Nat} {d' : Drawn} {ch : List Addr} (I : Inv X pins σ H s)
    (hch : ∀ b ∈ ch, (b ∈ X.ex ∨ X.s₀.heap.objs.size ≤ b) ∧ b ≠ X.env.locals ∧ (∀ x c, X.env.cells.lookup x = some c → c ≠ b) ∧ ∀ p ∈ X.pn ++ pins, p.1 ≠ b)
    (keep : ∀ b o, b ≠ X.env.locals → b ∉ X.fs → b ∉ ch → s.heap.get? b = some o → H b = none → h'.get? b = some o)
    (slot : ∀ b o, b ≠ X.env.locals → b ∈ X.fs → b ∉ ch → s.heap.get? b = some o → H b = none → ∃ sl, h'.get? b = some { o with slots := sl }) (free : ∀ b o, b ∉ ch → s.heap.get? b = some o → H b = none → H' b = none)
    (there : ∀ b o, b ∉ ch → s.heap.get? b = some o → ∃ o', h'.get? b = some o')
    (tups : ∀ b xs, H b = some (.tup xs) → H' b = some (.tup xs)) (frzs : ∀ b o u, H b = some (.frz o u) → H' b = some (.frz o u)) (tbls : ∀ b ps, H b = some (.tbl ps) → ∃ more, H' b = some (.tbl (ps ++ more)))
    (ns : ∀ m, s.heap.Ns X.env.locals m → h'.Ns X.env.locals m) (hok : HOk X.prog X.w H' h') (hg : AllBare g') :
    Inv X pins σ H' { s with heap := h', gens := g', drawn := d', toks := t' } := by
  have neL : ∀ b o, X.s₀.heap.get? b = some o → b ≠ X.env.locals := fun b o e => Nat.ne_of_lt (Nat.lt_of_lt_of_le (Heap.lt_size e) I.ok.above)
  have neC : ∀ b o, X.s₀.heap.get? b = some o → b ∉ X.ex → b ∉ ch := fun b o e hx hb => by
    rcases (hch b hb).1 with z | z
    · exact hx z
    · exact absurd (Nat.lt_of_lt_of_le (Heap.lt_size e) z) (Nat.lt_irrefl _)
  have cellK : ∀ x c, X.env.cells.lookup x = some c → ∀ v, s.heap.IsCell c v → h'.IsCell c v := fun x c e v ⟨o, ho, hd⟩ => by
    have nch : c ∉ ch := fun z => (hch c z).2.2.1 x c e rfl
    by_cases hc : c ∈ X.fs
    · obtain ⟨sl, q⟩ := slot c o (I.cne x c e) hc nch ho (I.freeC x c e)
      exact ⟨_, q, hd⟩
    · exact ⟨o, keep c o (I.cne x c e) hc nch ho (I.freeC x c e), hd⟩
  refine ⟨I.ok, I.os, hg, ⟨fun b o e n hb hx => ?_, fun b o e n hb hx => ?_, fun b o e n hx => ?_, fun b o e hx => ?_, fun b xs e => tups b xs (I.base.tups b xs e), fun b o xs e => frzs b o xs (I.base.frzs b o xs e), fun b ps e => ?_⟩, ?_, fun x c e => ?_, ?_, fun x c e => ?_, fun p hp => ?_, hok, I.len⟩
  · exact keep b o (neL b o e) hb (neC b o e hx) (I.base.keep b o e n hb hx) (I.base.free b o e n hx)
  · obtain ⟨sl, e1⟩ := I.base.slot b o e n hb hx
    obtain ⟨sl', e2⟩ := slot b _ (neL b o e) hb (neC b o e hx) e1 (I.base.free b o e n hx)
    exact ⟨sl', e2⟩
  · obtain ⟨o', e1⟩ := I.base.there b o e hx
    exact free b o' (neC b o e hx) e1 (I.base.free b o e n hx)
  · obtain ⟨o', e1⟩ := I.base.there b o e hx
    exact there b o' (neC b o e hx) e1
  · obtain ⟨m1, e1⟩ := I.base.tbls b ps e
    obtain ⟨m2, e2⟩ := tbls b _ e1
    exact ⟨m1 ++ m2, by rw [e2, Array.append_assoc]⟩
  · obtain ⟨m, hn, hl⟩ := I.loc
    refine ⟨m, ns m hn, fun i x v e1 e2 e3 => ?_⟩
    obtain ⟨u, r, l⟩ := hl i x v e1 e2 e3
    refine ⟨u, r, ?_⟩
    rcases l with l | ⟨k, c, e, z⟩
    · exact .inl l
    · exact .inr ⟨k, c, e, cellK x c e _ z⟩
  · obtain ⟨v, z⟩ := I.cell x c e
    exact ⟨v, cellK x c e v z⟩
  · obtain ⟨m, ⟨o, _, _, ho, _⟩, _⟩ := I.loc
    exact free _ o (fun z => (hch _ z).2.1 rfl) ho I.free
  · obtain ⟨v, o, ho, hd⟩ := I.cell x c e
    exact free c o (fun z => (hch c z).2.2.1 x c e rfl) ho (I.freeC x c e)
  · obtain ⟨e, n, ne, nf, d⟩ := I.pin p hp
    have nch : p.1 ∉ ch := fun z => (hch p.1 z).2.2.2 p hp rfl
    exact ⟨keep p.1 p.2 ne nf nch e n, free p.1 p.2 nch e n, ne, nf, d⟩
theorem Inv.un {t' : Nat} (I : Inv X pins σ H s) (u : Un X.fs [] H H' s.heap h') (hok : HOk X.prog X.w H' h') : Inv X pins σ H' { s with heap := h', toks := t' } := by
  obtain ⟨m, ⟨o, es, ep, ho, r⟩, _⟩ := id I.loc
  obtain ⟨sl, hL⟩ := u.any ho I.free (by simp)
  exact I.step (g' := s.gens) (d' := s.drawn) (ch := []) (fun _ z => nomatch z) (fun b o _ hb _ e n => u.keep b o e n hb (by simp)) (fun b o _ hb _ e n => u.slot b o e n hb (by simp)) (fun b o _ e n => u.free b o e n (by simp)) (fun b o _ e => u.there b o e (by simp)) u.tups u.frzs u.tbls (fun m' hm => by
    obtain ⟨o', es', ep', ho', r'⟩ := hm
    rw [ho] at ho'; cases ho'
    exact ⟨_, es', ep', hL, r'⟩) hok I.bare
theorem Inv.call {g' : Array GenState} {t' : Nat} {d' : Drawn} {ch : List Addr} (I : Inv X pins σ H s) (u : Un (frs X.stack) ch H H' s.heap h') (hok : HOk X.prog X.w H' h') (hg : AllBare g')
    (hch : ∀ b ∈ ch, (b ∈ X.ex ∨ X.s₀.heap.objs.size ≤ b) ∧ b ≠ X.env.locals ∧ (∀ x c, X.env.cells.lookup x = some c → c ≠ b) ∧ ∀ p ∈ X.pn ++ pins, p.1 ≠ b) :
    Inv X pins σ H' { s with heap := h', gens := g', drawn := d', toks := t' } := by
  obtain ⟨m, ⟨o, es, ep, ho, r⟩, _⟩ := id I.loc
  obtain ⟨sl, hL⟩ := u.any ho I.free fun z => (hch _ z).2.1 rfl
  exact I.step (ch := ch) hch (fun b o hL hb hc e n => u.keep b o e n (fun z => (List.mem_cons.mp (I.stkSub b z)).elim hL hb) hc) (fun b o _ _ hc e n => u.any e n hc) (fun b o hc e n => u.free b o e n hc) (fun b o hc e => u.there b o e hc) u.tups u.frzs u.tbls (fun m' hm => by
    obtain ⟨o', es', ep', ho', r'⟩ := hm
    rw [ho] at ho'; cases ho'
    exact ⟨_, es', ep', hL, r'⟩) hok hg
theorem Inv.turned {t' : Nat} {it : Addr} (I : Inv X pins σ H s) (k : ∀ b o, b ≠ it → s.heap.get? b = some o → h'.get? b = some o) (hn : H it = none) (hL : it ≠ X.env.locals)
    (h1 : it ∈ X.ex ∨ X.s₀.heap.objs.size ≤ it) (h2 : ∀ x c, X.env.cells.lookup x = some c → c ≠ it) (h3 : ∀ p ∈ X.pn ++ pins, p.1 ≠ it) : Inv X pins σ H { s with heap := h', toks := t' } := by
  have nit : ∀ b u, H b = some u → b ≠ it := fun b u e z => by rw [z, hn] at e; cases e
  refine I.step (g' := s.gens) (d' := s.drawn) (ch := [it]) (fun b hb => ?_) (fun b o _ _ hc e _ => k b o (fun z => hc (by simp [z])) e) (fun b o _ _ hc e _ => ⟨o.slots, k b o (fun z => hc (by simp [z])) e⟩) (fun _ _ _ _ n => n)
    (fun b o hc e => ⟨o, k b o (fun z => hc (by simp [z])) e⟩) (fun _ _ e => e) (fun _ _ _ e => e) (fun b ps e => ⟨#[], by rw [e]; simp⟩) (fun m hm => ?_) (fun b u e => ?_) I.bare
  · have e : b = it := by simpa using hb
    subst e
    exact ⟨h1, hL, h2, h3⟩
  · obtain ⟨o, es, ep, ho, r⟩ := hm
    exact ⟨o, es, ep, k _ o (Ne.symm hL) ho, r⟩
  · refine (I.hok b u e).stay (fun c v hc q => k c v ?_ q) (fun _ q => q) fun _ _ q => q
    rcases hc with z | z
    · rw [z]; exact nit b u e
    · exact nit c _ z
theorem Inv.tok (I : Inv X pins σ H s) (t : Nat) : Inv X pins σ H { s with toks := t } := I.un (h' := s.heap) (t' := t) Un.refl I.hok
theorem Inv.kept {t' : Nat} (I : Inv X pins σ H s) (k : ∀ b u, s.heap.get? b = some u → h'.get? b = some u) : Inv X pins σ H { s with heap := h', toks := t' } := I.un (Un.kept k) (I.hok.kept k)
theorem Inv.laid {a : Addr} {o : HO} {t' : Nat} (I : Inv X pins σ H s) (k : ∀ b u, s.heap.get? b = some u → h'.get? b = some u) (hp : s.heap.objs.size ≤ a) (new : ObjOk X.prog X.w (upd H a o) h' a o) :
    Inv X pins σ (upd H a o) { s with heap := h', toks := t' } := I.un (Un.laid k hp (I.hok.fresh hp)) (I.hok.laid k hp new)
theorem Inv.write {x e : Addr} {o : HO} {t' : Nat} (I : Inv X pins σ H s) (mu : Mut (H x)) (he : e = x ∨ H e = some (.own x)) (k : ∀ b u, b ≠ e → s.heap.get? b = some u → h'.get? b = some u) (heo : ∃ u, h'.get? e = some u)
    (new : ObjOk X.prog X.w (upd H x o) h' x o) : Inv X pins σ (upd H x o) { s with heap := h', toks := t' } := I.un (Un.write mu he k heo) (I.hok.write mu he k heo new)
theorem Inv.weak {σ' : List (Option V)} (I : Inv X pins σ H s) (hl : σ'.length = σ.length) (w : ∀ (i : Nat) v, σ'[i]? = some (some v) → σ[i]? = some (some v)) : Inv X pins σ' H s :=
  ⟨I.ok, I.os, I.bare, I.base, let ⟨m, hn, hl'⟩ := I.loc; ⟨m, hn, fun i x v e1 e2 e3 => hl' i x v e1 (w i v e2) e3⟩, I.cell, I.free, I.freeC, I.pin, I.hok, hl.trans I.len⟩
theorem Inv.pins_of {pins' : List (Addr × Obj)} (I : Inv X pins σ H s) (h : ∀ p ∈ pins', s.heap.get? p.1 = some p.2 ∧ H p.1 = none ∧ p.1 ≠ X.env.locals ∧ p.1 ∉ X.fs ∧ ∀ v, p.2.data ≠ .cell v) : Inv X pins' σ H s :=
  ⟨I.ok, I.os, I.bare, I.base, I.loc, I.cell, I.free, I.freeC, fun p hp => (List.mem_append.mp hp).elim (fun z => I.pin p (List.mem_append_left _ z)) (h p), I.hok, I.len⟩

theorem nodup_ix {N : List Str} (hN : N.Nodup) {i j : Nat} {x : Str} (a : N[i]? = some x) (b : N[j]? = some x) : i = j := by
  obtain ⟨h1, e1⟩ := List.getElem?_eq_some_iff.mp a
  obtain ⟨h2, e2⟩ := List.getElem?_eq_some_iff.mp b
  exact (List.getElem_inj hN).mp (e1.trans e2.symm)

theorem store_ok2 {M : Model} {A : Around} {E : Value → Shared → Prop} {i : Nat} {x : Str} {v : V} {u : Value} {Q : Unit → Shared → Prop} (I : Inv X pins σ H s) (hN : X.N.Nodup) (hi : X.N[i]? = some x) (hx : Loc X.env.scope x) (r : RelV v u)
    (h : ∀ s', Inv X pins (σ.set i (some v)) H s' → (∃ a, Heap.SameBut a s.heap s'.heap ∧ (a = X.env.locals ∨ X.env.cells.lookup x = some a)) → Q () s') (hf : X.fn x = true ∨ X.env.scope.names.lookup x = some .local := by first | exact .inl rfl | exact .inr rfl | assumption) : wpAny M A (storeName X.env x u) Q E s := by
  obtain ⟨m, hn, hl⟩ := id I.loc
  have hcls : (X.env.scope.kind == .class || (X.env.scope.kind == .module && X.env.locals != X.env.globals)) = false := by rw [I.ok.kind]; rfl
  have hiσ : i < σ.length := by rw [I.len]; exact (List.getElem?_eq_some_iff.mp hi).1
  have cne := I.cne
  have tracked : ∀ {a : Addr} {h' : Heap}, (∃ o, s.heap.get? a = some o ∧ H a = none) → Heap.SameBut a s.heap h' → HOk X.prog X.w H h' := fun {a h'} ha hs b ob e => by
    obtain ⟨_, _, hfree⟩ := ha
    refine (I.hok b ob e).stay (fun c w' hc q => (hs.2 c ?_).trans q) (fun _ q => q) fun _ _ q => q
    rintro rfl
    rcases hc with rfl | hc
    · rw [hfree] at e; cases e
    · rw [hfree] at hc; cases hc
  rcases hx with hk | hk
  · refine wpAny_storeName_local hk hn (fun h' hn' hs => ?_) hcls
    obtain ⟨oL, _, _, hoL, _⟩ := id hn
    refine h _ ⟨I.ok, I.os, I.bare, ⟨fun b o e n hb hx => ?_, fun b o e n hb hx => ?_, I.base.free, fun b o e hx => ?_, I.base.tups, I.base.frzs, I.base.tbls⟩, ⟨_, hn', fun j y v' e1 e2 e3 => ?_⟩, fun y c e => ?_, I.free, I.freeC, fun p hp => ?_, tracked ⟨oL, hoL, I.free⟩ hs, by simpa using I.len⟩ ⟨_, hs, .inl rfl⟩
    · exact (hs.2 b (Nat.ne_of_lt (Nat.lt_of_lt_of_le (Heap.lt_size e) I.ok.above))).trans (I.base.keep b o e n hb hx)
    · obtain ⟨sl, e1⟩ := I.base.slot b o e n hb hx
      exact ⟨sl, (hs.2 b (Nat.ne_of_lt (Nat.lt_of_lt_of_le (Heap.lt_size e) I.ok.above))).trans e1⟩
    · obtain ⟨o', e1⟩ := I.base.there b o e hx
      exact ⟨o', (hs.2 b (Nat.ne_of_lt (Nat.lt_of_lt_of_le (Heap.lt_size e) I.ok.above))).trans e1⟩
    · by_cases hj : j = i
      · subst hj
        rw [hi] at e1; cases e1
        rw [List.getElem?_set_self hiσ] at e2
        cases e2
        exact ⟨u, r, .inl ⟨hk, by simp⟩⟩
      · rw [List.getElem?_set_ne (Ne.symm hj)] at e2
        obtain ⟨u', r', q⟩ := hl j y v' e1 e2 e3
        refine ⟨u', r', ?_⟩
        rcases q with ⟨k, e⟩ | ⟨k, c, e, z⟩
        · refine .inl ⟨k, ?_⟩
          have : y ≠ x := fun e => hj (nodup_ix hN e1 (e ▸ hi))
          simp [this, e]
        · exact .inr ⟨k, c, e, z.sameBut hs (cne y c e)⟩
    · obtain ⟨w', z⟩ := I.cell y c e
      exact ⟨w', z.sameBut hs (cne y c e)⟩
    · obtain ⟨e, n, ne, nf, d⟩ := I.pin p hp
      exact ⟨(hs.2 p.1 ne).trans e, n, ne, nf, d⟩
  · have hfn : X.fn x = true := by
      rcases hf with z | z
      · exact z
      · rw [z] at hk; cases hk
    obtain ⟨c, hc⟩ := I.ok.has x (.inl hk)
    obtain ⟨w', z⟩ := I.cell x c hc
    refine wpAny_storeName_cell I.ok.kind hk hc z (fun h' hc' hs => ?_)
    obtain ⟨oc, hoc, hocd⟩ := id z
    refine h { s with heap := h' } ⟨I.ok, I.os, I.bare, ⟨fun b o e n hb hx => ?_, fun b o e n hb hx => ?_, I.base.free, fun b o e hx => ?_, I.base.tups, I.base.frzs, I.base.tbls⟩, ⟨m, hn.sameBut hs (Ne.symm (cne x c hc)), fun j y v' e1 e2 e3 => ?_⟩, fun y c' e => ?_, I.free, I.freeC, fun p hp => ?_, tracked ⟨oc, hoc, I.freeC x c hc⟩ hs, by simpa using I.len⟩ ⟨c, hs, .inr hc⟩
    · exact (hs.2 b (Nat.ne_of_lt (Nat.lt_of_lt_of_le (Heap.lt_size e) (I.ok.cab x c hfn hc)))).trans (I.base.keep b o e n hb hx)
    · obtain ⟨sl, e1⟩ := I.base.slot b o e n hb hx
      exact ⟨sl, (hs.2 b (Nat.ne_of_lt (Nat.lt_of_lt_of_le (Heap.lt_size e) (I.ok.cab x c hfn hc)))).trans e1⟩
    · obtain ⟨o', e1⟩ := I.base.there b o e hx
      exact ⟨o', (hs.2 b (Nat.ne_of_lt (Nat.lt_of_lt_of_le (Heap.lt_size e) (I.ok.cab x c hfn hc)))).trans e1⟩
    · by_cases hj : j = i
      · subst hj
        rw [hi] at e1; cases e1
        rw [List.getElem?_set_self hiσ] at e2
        cases e2
        exact ⟨u, r, .inr ⟨.inl hk, c, hc, hc'⟩⟩
      · rw [List.getElem?_set_ne (Ne.symm hj)] at e2
        obtain ⟨u', r', q⟩ := hl j y v' e1 e2 e3
        refine ⟨u', r', ?_⟩
        rcases q with q | ⟨k, c', e, z'⟩
        · exact .inl q
        · refine .inr ⟨k, c', e, z'.sameBut hs ?_⟩
          rintro rfl
          exact hj (nodup_ix hN e1 (I.ok.inj _ _ _ e hc ▸ hi))
    · by_cases hcc : c' = c
      · subst hcc; exact ⟨_, hc'⟩
      · obtain ⟨w2, z2⟩ := I.cell y c' e
        exact ⟨w2, z2.sameBut hs hcc⟩
    · obtain ⟨e, n, ne, nf, d⟩ := I.pin p hp
      refine ⟨(hs.2 p.1 ?_).trans e, n, ne, nf, d⟩
      intro q
      rw [q, hoc] at e
      have q' : oc = p.2 := Option.some.inj e
      exact d w' (by rw [← q']; exact hocd)
theorem store_ok {M : Model} {A : Around} {E : Value → Shared → Prop} {i : Nat} {x : Str} {v : V} {u : Value} {Q : Unit → Shared → Prop} (I : Inv X pins σ H s) (hN : X.N.Nodup) (hi : X.N[i]? = some x) (hx : Loc X.env.scope x) (r : RelV v u)
    (h : ∀ s', Inv X pins (σ.set i (some v)) H s' → Q () s') (hf : X.fn x = true ∨ X.env.scope.names.lookup x = some .local := by first | exact .inl rfl | exact .inr rfl | assumption) : wpAny M A (storeName X.env x u) Q E s :=
  store_ok2 I hN hi hx r (fun s' I' _ => h s' I') hf
theorem Inv.call' {s' : Shared} {ch : List Addr} (I : Inv X pins σ H s) (ho : s'.os = s.os) (u : Un (frs X.stack) ch H H' s.heap s'.heap) (hok : HOk X.prog X.w H' s'.heap) (hg : AllBare s'.gens)
    (hch : ∀ b ∈ ch, (b ∈ X.ex ∨ X.s₀.heap.objs.size ≤ b) ∧ b ≠ X.env.locals ∧ (∀ x c, X.env.cells.lookup x = some c → c ≠ b) ∧ ∀ p ∈ X.pn ++ pins, p.1 ≠ b) : Inv X pins σ H' s' := by
  obtain ⟨h', g', d', t', o'⟩ := s'
  have e : o' = s.os := ho
  subst e
  exact I.call (g' := g') (t' := t') (d' := d') u hok hg hch
end

abbrev XK := Value → Option Addr → Hp → Prop
abbrev St := List (Option V)
abbrev VK := V → Hp → Prop
abbrev TE := St → Hp → VK → Prop
abbrev TT := St → Hp → (Bool → Hp → Prop) → Prop
abbrev TA := St → Hp → (List V → Hp → Prop) → Prop
structure Ends where
  nx : St → Hp → Prop
  rt : VK
  bk : St → Hp → Prop := fun _ _ => False
  ct : St → Hp → Prop := fun _ _ => False
abbrev TS := Ends → St → Hp → Prop

def EP (X : Cx) (pins : List (Addr × Obj)) (σ : St) (Q : VK) (u : Value) (s' : Shared) : Prop := ∃ v H', Inv X pins σ H' s' ∧ RelV v u ∧ Q v H'
def TP (X : Cx) (pins : List (Addr × Obj)) (σ : St) (Q : Bool → Hp → Prop) (b : Bool) (s' : Shared) : Prop := ∃ H', Inv X pins σ H' s' ∧ Q b H'
def AP (X : Cx) (pins : List (Addr × Obj)) (σ : St) (Q : List V → Hp → Prop) (us : List Value) (s' : Shared) : Prop := ∃ vs H', Inv X pins σ H' s' ∧ Vals vs us ∧ Q vs H'
def SP (X : Cx) (pins : List (Addr × Obj)) (D : Ends) (f : Flow) (s' : Shared) : Prop :=
  match f with
  | .next => ∃ σ' H', Inv X pins σ' H' s' ∧ D.nx σ' H'
  | .brk => ∃ σ' H', Inv X pins σ' H' s' ∧ D.bk σ' H'
  | .cont => ∃ σ' H', Inv X pins σ' H' s' ∧ D.ct σ' H'
  | .ret u => ∃ v σ' H', Inv X pins σ' H' s' ∧ RelV v u ∧ D.rt v H'

def PE (X : Cx) (e : Expr) (t : TE) : Prop :=
  ∀ (pins : List (Addr × Obj)) (s : Shared) (σ : St) (H : Hp) (Q : VK), Inv X pins σ H s → t σ H Q → wpAny (model X.prog X.w) X.A (eval e X.env) (EP X pins σ Q) X.xe s
def PT (X : Cx) (e : Expr) (t : TT) : Prop :=
  ∀ (pins : List (Addr × Obj)) (s : Shared) (σ : St) (H : Hp) (Q : Bool → Hp → Prop), Inv X pins σ H s → t σ H Q → wpAny (model X.prog X.w) X.A (isTrue e X.env (eval e X.env)) (TP X pins σ Q) X.xe s
def PW (X : Cx) (e : Expr) (t : TT) : Prop :=
  ∀ (whole : Sem Value) (pins : List (Addr × Obj)) (s : Shared) (σ : St) (H : Hp) (Q : Bool → Hp → Prop), Inv X pins σ H s → t σ H Q → wpAny (model X.prog X.w) X.A (isTrue e X.env whole) (TP X pins σ Q) X.xe s
theorem PW.pt {X : Cx} {e : Expr} {t : TT} (h : PW X e t) : PT X e t := h _
def PA (X : Cx) (es : List Expr) (t : TA) : Prop :=
  ∀ (pos : Pos) (pins : List (Addr × Obj)) (s : Shared) (σ : St) (H : Hp) (Q : List V → Hp → Prop), Inv X pins σ H s → t σ H Q → wpAny (model X.prog X.w) X.A (spliced (backTo pos (starEach es X.env))) (AP X pins σ Q) X.xe s
def PS (X : Cx) (st : Stmt) (t : TS) : Prop :=
  ∀ (pins : List (Addr × Obj)) (s : Shared) (σ : St) (H : Hp) (D : Ends), Inv X pins σ H s → t D σ H → wpAny (model X.prog X.w) X.A (exec st X.env) (SP X pins D) X.xe s
def PSs (X : Cx) (st : List Stmt) (t : TS) : Prop :=
  ∀ (pins : List (Addr × Obj)) (s : Shared) (σ : St) (H : Hp) (D : Ends), Inv X pins σ H s → t D σ H → wpAny (model X.prog X.w) X.A (execs st X.env) (SP X pins D) X.xe s
theorem thn {α : Type} {t : Sem α} {Q Q' : α → Shared → Prop} {M : Model} {A : Around} {E : Value → Shared → Prop} {s : Shared} (h : wpAny M A t Q E s) (hQ : ∀ a s, Q a s → Q' a s) : wpAny M A t Q' E s := wpAny_mono h hQ fun _ _ x => x
end L2

namespace L2
open PySem PySem.Spec PyProof.Rows
section
variable {X : Cx}

def tVar (i : Nat) : TE := fun σ H Q => ∃ v, σ[i]? = some (some v) ∧ Q v H
def tC (v : V) : TE := fun _ H Q => Q v H
theorem pe_var {i : Nat} {x : Str} {pos : Pos} (hN : X.N[i]? = some x) (hv : Vis X.env.scope x) (hd : (x == ("__debug__" : Str)) = false := by decide) (hcd : (x == ("__classdict__" : Str)) = false := by decide) : PE X (.Name x pos) (tVar i) := by
  intro pins s σ H Q I h
  obtain ⟨v, e, h⟩ := h
  obtain ⟨m, hn, hl⟩ := I.loc
  obtain ⟨u, r, l⟩ := hl i x v hN e hv
  have fin : EP X pins σ Q u s := ⟨v, H, I, r, h⟩
  rcases l with ⟨hk, hm⟩ | ⟨hk, c, hc, hcell⟩
  · exact wpAny_Name (wpAny_loadName_local I.ok.kind hk hn hm fin) hd
  · rcases hk with hk | hk
    · exact wpAny_Name (wpAny_loadName_cell I.ok.kind hk hc hcell fin) hd
    · exact wpAny_Name (wpAny_loadName_free I.ok.kind hk hc hcell fin hcd) hd
theorem pe_int {i j pos} : PE X (.Constant (.int i) j pos) (tC (.int i)) := fun _ _ _ H _ I h => wpAny_Constant_int ⟨.int i, H, I.tok _, ⟨_, rfl⟩, h⟩
theorem pe_bl {b j pos} : PE X (.Constant (.bool b) j pos) (tC (.bl b)) := fun _ _ _ H _ I h => Constant_bool ⟨.bl b, H, I, rfl, h⟩
theorem pe_non {j pos} : PE X (.Constant .none j pos) (tC .non) := fun _ _ _ H _ I h => Constant_none ⟨.non, H, I, rfl, h⟩
theorem pe_str {x j pos} : PE X (.Constant (.str x) j pos) (tC (.str x)) := fun _ _ _ H _ I h => Calls.Constant_str ⟨.str x, H, I.tok _, ⟨_, rfl⟩, h⟩

def Gl (X : Cx) (x : Str) : Prop := X.env.kindOf x = some .globalImplicit
theorem ld_glob {E : Value → Shared → Prop} {pins : List (Addr × Obj)} {s : Shared} {σ : St} {H : Hp} {x : Str} {u : Value} {pos : Pos} {Q : Value → Shared → Prop} (I : Inv X pins σ H s) (hg : Gl X x) (hm : X.mg x = some u) (h : Q u s)
    (hd : (x == ("__debug__" : Str)) = false := by decide) : wpAny (model X.prog X.w) X.A (eval (.Name x pos) X.env) Q E s :=
  Calls.Name_function_global I.ok.kind hg (Calls.loadGlobal_global (by rw [I.ok.glob]; exact I.mod.glob.keeps I.bk) hm h) hd
theorem ld_blt {E : Value → Shared → Prop} {pins : List (Addr × Obj)} {s : Shared} {σ : St} {H : Hp} {x : Str} {u : Value} {pos : Pos} {Q : Value → Shared → Prop} (I : Inv X pins σ H s) (hg : Gl X x) (hm : X.mg x = none) (hv : bootBuiltins x = some u) (h : Q u s)
    (hn : x ≠ "__name__" := by decide) (hd : (x == ("__debug__" : Str)) = false := by decide) : wpAny (model X.prog X.w) X.A (eval (.Name x pos) X.env) Q E s := by
  obtain ⟨mb, h1, h2⟩ := I.mod.blt
  exact Calls.Name_function_global I.ok.kind hg (Calls.loadGlobal_builtin (by rw [I.ok.glob]; exact I.mod.glob.keeps I.bk) hm (by rw [I.ok.blt]; exact h1.keeps I.bk) ((h2 x hn).trans hv) h) hd
theorem pe_glob {x : Str} {v : V} {u : Value} {pos : Pos} (hg : Gl X x) (hm : X.mg x = some u) (r : RelV v u) (hd : (x == ("__debug__" : Str)) = false := by decide) : PE X (.Name x pos) (tC v) :=
  fun _ _ _ H _ I h => ld_glob I hg hm ⟨v, H, I, r, h⟩ hd
theorem pe_bltn {x : Str} {v : V} {u : Value} {pos : Pos} (hg : Gl X x) (hm : X.mg x = none) (hv : bootBuiltins x = some u) (r : RelV v u) (hn : x ≠ "__name__" := by decide) (hd : (x == ("__debug__" : Str)) = false := by decide) : PE X (.Name x pos) (tC v) :=
  fun _ _ _ H _ I h => ld_blt I hg hm hv ⟨v, H, I, r, h⟩ hn hd

variable {a b : Expr} {ta tb : TE} {pos : Pos}
def tB (t : TE) : TT := fun σ H Q => t σ H fun x H1 => ∃ c, x = .bl c ∧ Q c H1
theorem pt_val {e : Expr} {t : TE} (h : PE X e t) (he : ∀ whole, isTrue e X.env whole = (do let v ← whole; standAt e.pos; holding [v] (truthy v)) := by intro _; rfl) : PT X e (tB t) := by
  intro pins s σ H Q I hw
  refine isTrue_plain (thn (h pins s σ H _ I hw) fun v s1 ⟨x, H1, I1, r1, q1⟩ => ?_) (he _)
  obtain ⟨d, rfl, q⟩ := q1
  cases r1
  exact wpAny_truthy_bool ⟨H1, I1, q⟩

variable {tA tB' : TT} {rest : List Expr}
def tAnd (t u : TT) : TT := fun σ H Q => t σ H fun c H1 => if c = true then u σ H1 Q else Q false H1
def tOr (t u : TT) : TT := fun σ H Q => t σ H fun c H1 => if c = true then Q true H1 else u σ H1 Q
def tNot (t : TT) : TT := fun σ H Q => t σ H fun c H1 => Q (!c) H1
theorem pw_and1 (ha : PT X a tA) : PW X (.BoolOp .And [a] pos) tA := by
  intro wh pins s σ H Q I h
  refine isTrue_and (thn (ha pins s σ H Q I h) fun c s1 e => ?_)
  cases c with
  | true => exact isTrue_and_nil e
  | false => exact e
theorem pw_or1 (ha : PT X a tA) : PW X (.BoolOp .Or [a] pos) tA := by
  intro wh pins s σ H Q I h
  refine isTrue_or (thn (ha pins s σ H Q I h) fun c s1 e => ?_)
  cases c with
  | false => exact isTrue_or_nil e
  | true => exact e
theorem pw_and (ha : PT X a tA) (hb : PW X (.BoolOp .And (b :: rest) pos) tB') : PW X (.BoolOp .And (a :: b :: rest) pos) (tAnd tA tB') := by
  intro wh pins s σ H Q I h
  refine isTrue_and (thn (ha pins s σ H _ I h) fun c s1 ⟨H1, I1, q1⟩ => ?_)
  cases c with
  | true => exact hb wh pins s1 σ H1 Q I1 q1
  | false => exact ⟨H1, I1, q1⟩
theorem pw_or (ha : PT X a tA) (hb : PW X (.BoolOp .Or (b :: rest) pos) tB') : PW X (.BoolOp .Or (a :: b :: rest) pos) (tOr tA tB') := by
  intro wh pins s σ H Q I h
  refine isTrue_or (thn (ha pins s σ H _ I h) fun c s1 ⟨H1, I1, q1⟩ => ?_)
  cases c with
  | true => exact ⟨H1, I1, q1⟩
  | false => exact hb wh pins s1 σ H1 Q I1 q1
theorem pt_not (ha : PT X a tA) : PT X (.UnaryOp .Not a pos) (tNot tA) := by
  intro pins s σ H Q I h
  exact isTrue_not (ha pins s σ H (fun c H1 => Q (!c) H1) I h)
def tAndV (ta tb : TE) : TE := fun σ H Q => ta σ H fun x H1 => ∃ c, x = .bl c ∧ if c = true then tb σ H1 Q else Q (.bl false) H1
def tOrV (ta tb : TE) : TE := fun σ H Q => ta σ H fun x H1 => ∃ c, x = .bl c ∧ if c = true then Q (.bl true) H1 else tb σ H1 Q
theorem pe_one {op} {t : TE} (h : PE X a t) : PE X (.BoolOp op [a] pos) t := fun pins s σ H Q I hw => BoolOp_one (h pins s σ H Q I hw)
theorem pe_and (ha : PE X a ta) (hb : PE X (.BoolOp .And (b :: rest) pos) tb) : PE X (.BoolOp .And (a :: b :: rest) pos) (tAndV ta tb) := by
  intro pins s σ H Q I h
  refine BoolOp_and (thn (ha pins s σ H _ I h) fun v s1 ⟨x, H1, I1, r1, q1⟩ => ?_)
  obtain ⟨c, rfl, q1⟩ := q1
  cases r1
  refine wpAny_truthy_bool ?_
  cases c with
  | true => exact hb pins s1 σ H1 Q I1 q1
  | false => exact ⟨.bl false, H1, I1, rfl, q1⟩
theorem pe_or (ha : PE X a ta) (hb : PE X (.BoolOp .Or (b :: rest) pos) tb) : PE X (.BoolOp .Or (a :: b :: rest) pos) (tOrV ta tb) := by
  intro pins s σ H Q I h
  refine BoolOp_or (thn (ha pins s σ H _ I h) fun v s1 ⟨x, H1, I1, r1, q1⟩ => ?_)
  obtain ⟨c, rfl, q1⟩ := q1
  cases r1
  refine wpAny_truthy_bool ?_
  cases c with
  | false => exact hb pins s1 σ H1 Q I1 q1
  | true => exact ⟨.bl true, H1, I1, rfl, q1⟩
end
end L2

namespace L2
open PySem PySem.Spec PyProof.Rows

def SqL (K : PySem.W.Frag) (H : Hp) (a : Addr) (xs : List V) : Prop :=
  Rd H a (.lst xs) ∨
    ∃ (o : Obj) (its : Array Value) (n : Nat), K.lookup a = some o ∧ o.cls = .type "list" ∧ o.dict = none ∧ o.data = .seq its n ∧ its.size ≤ sizeLine ∧ Vals xs its.toList
def SqT (K : PySem.W.Frag) (H : Hp) (a : Addr) (xs : List V) : Prop :=
  Rd H a (.tup xs) ∨
    ∃ (o : Obj) (its : Array Value) (n : Nat), K.lookup a = some o ∧ o.cls = .type "tuple" ∧ o.data = .seq its n ∧ its.size ≤ sizeLine ∧ Vals xs its.toList
def absV : Value → Option V
  | .none => some .non
  | .bool b => some (.bl b)
  | .int i _ => some (.int i)
  | .str x _ => some (.str x)
  | .bytes b _ => some (.byt b)
  | .float b _ => some (.flt b)
  | .ref a => some (.ref a)
  | .type n => some (.ty n)
  | _ => none
theorem RelV.abs {x : V} {u : Value} (r : RelV x u) : absV u = some x := by
  cases x with
  | non => cases r; rfl
  | bl _ => cases r; rfl
  | int _ => obtain ⟨t, rfl⟩ := r; rfl
  | str _ => obtain ⟨t, rfl⟩ := r; rfl
  | byt _ => obtain ⟨t, rfl⟩ := r; rfl
  | flt _ => obtain ⟨t, rfl⟩ := r; rfl
  | ref _ => cases r; rfl
  | ty _ => cases r; rfl
theorem RelV.inj {x y : V} {u : Value} (r : RelV x u) (q : RelV y u) : x = y := Option.some.inj (r.abs.symm.trans q.abs)
theorem Vals.inj : ∀ {xs ys : List V} {us : List Value}, Vals xs us → Vals ys us → xs = ys
  | _, _, _, .nil, .nil => rfl
  | _, _, _, .cons r t, .cons r' t' => by rw [r.inj r', Vals.inj t t']
section
variable {X : Cx} {pins : List (Addr × Obj)} {σ : St} {H : Hp} {s : Shared} {a : Addr} {xs ys : List V}
theorem SqL.of {K : PySem.W.Frag} (h : H a = some (.lst xs)) : SqL K H a xs := .inl (.inl h)
theorem SqT.of {K : PySem.W.Frag} (h : H a = some (.tup xs)) : SqT K H a xs := .inl (.inl h)
theorem Inv.list (I : Inv X pins σ H s) (h : SqL X.K H a xs) : ∃ its : List Value, Vals xs its ∧ PlainL s.heap a its.toArray ∧ xs.length ≤ sizeLine := by
  rcases h with h | ⟨o, its, n, hk, hc, hd, hs, hz, r⟩
  · obtain ⟨z, its, n, r, e⟩ := h.ok I.hok
    exact ⟨its, r, ⟨_, n, e, rfl, rfl, rfl⟩, z⟩
  · refine ⟨its.toList, r, ⟨o, n, I.kIn a o hk, hc, hd, by simpa using hs⟩, ?_⟩
    have e := r.length
    simp only [Array.length_toList] at e
    (first | lia | omega)
theorem Inv.tuple (I : Inv X pins σ H s) (h : SqT X.K H a xs) : ∃ its : List Value, Vals xs its ∧ IsTup s.heap a its.toArray ∧ xs.length ≤ sizeLine := by
  rcases h with h | ⟨o, its, n, hk, hc, hs, hz, r⟩
  · obtain ⟨z, its, r, p⟩ := h.ok I.hok
    exact ⟨its, r, p, z⟩
  · refine ⟨its.toList, r, ⟨o, I.kIn a o hk, hc, n, by simpa using hs⟩, ?_⟩
    have e := r.length
    simp only [Array.length_toList] at e
    (first | lia | omega)
theorem Inv.list_inj (I : Inv X pins σ H s) (h : SqL X.K H a xs) (h' : SqL X.K H a ys) : xs = ys := by
  obtain ⟨its, r, ⟨o, n, e, _, _, d⟩, _⟩ := I.list h
  obtain ⟨its', r', ⟨o', n', e', _, _, d'⟩, _⟩ := I.list h'
  rw [e] at e'; cases e'
  rw [d] at d'
  injection d' with d1 _
  have : its = its' := by simpa using congrArg Array.toList d1
  subst this
  exact r.inj r'
theorem Inv.tuple_inj (I : Inv X pins σ H s) (h : SqT X.K H a xs) (h' : SqT X.K H a ys) : xs = ys := by
  obtain ⟨its, r, ⟨o, e, _, n, d⟩, _⟩ := I.tuple h
  obtain ⟨its', r', ⟨o', e', _, n', d'⟩, _⟩ := I.tuple h'
  rw [e] at e'; cases e'
  rw [d] at d'
  injection d' with d1 _
  have : its = its' := by simpa using congrArg Array.toList d1
  subst this
  exact r.inj r'
end

abbrev Cx.wish (X : Cx) (E : Value → Shared → Prop) : Cx := { X with xe := E }
abbrev Cx.nox (X : Cx) : Cx := X.wish fun _ _ => False
theorem Cx.Ok.wish {X : Cx} (ok : X.Ok) (E : Value → Shared → Prop) : (X.wish E).Ok :=
  ⟨ok.mod, ok.kind, ok.glob, ok.blt, ok.above, ok.inj, ok.has, ok.cab, ok.hd, ok.frames, ok.stk, ok.exf, ok.bs, ok.bsz, ok.noex, ok.exfs, ok.funs, ok.frf⟩
theorem Cx.Ok.unwish {X : Cx} {E : Value → Shared → Prop} (ok : (X.wish E).Ok) : X.Ok :=
  ⟨ok.mod, ok.kind, ok.glob, ok.blt, ok.above, ok.inj, ok.has, ok.cab, ok.hd, ok.frames, ok.stk, ok.exf, ok.bs, ok.bsz, ok.noex, ok.exfs, ok.funs, ok.frf⟩
section
variable {X : Cx} {pins : List (Addr × Obj)} {σ : St} {H : Hp} {s : Shared} {E : Value → Shared → Prop}
theorem Inv.wish (I : Inv X pins σ H s) (E : Value → Shared → Prop) : Inv (X.wish E) pins σ H s := ⟨I.ok.wish E, I.os, I.bare, I.base, I.loc, I.cell, I.free, I.freeC, I.pin, I.hok, I.len⟩
theorem Inv.unwish (I : Inv (X.wish E) pins σ H s) : Inv X pins σ H s := ⟨I.ok.unwish, I.os, I.bare, I.base, I.loc, I.cell, I.free, I.freeC, I.pin, I.hok, I.len⟩
theorem SP.unwish {D : Ends} {f : Flow} {s' : Shared} (h : SP (X.wish E) pins D f s') : SP X pins D f s' := by
  cases f with
  | next => obtain ⟨σ', H', I, q⟩ := h; exact ⟨σ', H', I.unwish, q⟩
  | brk => obtain ⟨σ', H', I, q⟩ := h; exact ⟨σ', H', I.unwish, q⟩
  | cont => obtain ⟨σ', H', I, q⟩ := h; exact ⟨σ', H', I.unwish, q⟩
  | ret u => obtain ⟨v, σ', H', I, r, q⟩ := h; exact ⟨v, σ', H', I.unwish, r, q⟩
theorem PSs.nox {st : List Stmt} {t : TS} (h : PSs X.nox st t) : PSs X st t := fun pins s σ H D I hw =>
  wpAny_mono (h pins s σ H D (I.wish _) hw) (fun _ _ q => q.unwish) fun _ _ z => False.elim z
end

section
variable {X : Cx} {st : Stmt} {rest : List Stmt} {t u : TS} {e : Expr} {te : TE} {pos : Pos}
def tNext : TS := fun D σ H => D.nx σ H
def Ends.on (D : Ends) (u : TS) : Ends := { D with nx := u D }
def tSeq (t u : TS) : TS := fun D σ H => t (D.on u) σ H
theorem pss_nil : PSs X [] tNext := fun _ _ σ H _ I h => wpAny_execs_nil ⟨σ, H, I, h⟩
theorem pss_cons (h1 : PS X st t) (h2 : PSs X rest u) : PSs X (st :: rest) (tSeq t u) := by
  intro pins s σ H D I h
  refine wpAny_execs_cons (thn (h1 pins s σ H { D with nx := u D } I h) fun f s1 q => ?_)
  cases f with
  | next =>
    obtain ⟨σ', H', I', q⟩ := q
    exact h2 pins s1 σ' H' D I' q
  | ret v => exact q
  | brk => exact q
  | cont => exact q
theorem pss_one (h1 : PS X st t) : PSs X [st] t := by
  intro pins s σ H D I h
  refine wpAny_execs_cons (thn (h1 pins s σ H D I h) fun f s1 q => ?_)
  cases f with
  | next => exact wpAny_execs_nil q
  | ret v => exact q
  | brk => exact q
  | cont => exact q
theorem Inv.quiet {pins : List (Addr × Obj)} {σ : St} {H : Hp} {s : Shared} (I : Inv X pins σ H s) : interactive X.env = false := by simp [interactive, I.ok.kind]
def tDrop (te : TE) : TS := fun D σ H => te σ H fun _ H1 => D.nx σ H1
theorem ps_expr (he : PE X e te) (hs : swapsWith e none pos.line X.env = pure false := by rfl) : PS X (.Expr e pos) (tDrop te) := by
  intro pins s σ H D I h
  exact wpAny_Expr_any (thn (he pins s σ H _ I h) fun v s1 ⟨x, H1, I1, r1, q1⟩ => ⟨σ, H1, I1, q1⟩) I.quiet hs
def tRet (te : TE) : TS := fun D σ H => te σ H D.rt
theorem ps_ret (he : PE X e te) : PS X (.Return (some e) pos) (tRet te) := by
  intro pins s σ H D I h
  exact wpAny_Return_some (thn (he pins s σ H _ I h) fun v s1 ⟨x, H1, I1, r1, q1⟩ => ⟨x, σ, H1, I1, r1, q1⟩)
def tIfS (c : TT) (t u : TS) : TS := fun D σ H => c σ H fun b H1 => if b = true then t D σ H1 else u D σ H1
theorem ps_if {c : Expr} {a b : List Stmt} {tc : TT} (hc : PT X c tc) (ha : PSs X a t) (hb : PSs X b u) : PS X (.If c a b pos) (tIfS tc t u) := by
  intro pins s σ H D I h
  refine wpAny_If (thn (hc pins s σ H _ I h) fun d s1 ⟨H1, I1, q1⟩ => ?_)
  cases d with
  | true => exact ha pins s1 σ H1 D I1 q1
  | false => exact hb pins s1 σ H1 D I1 q1
end

abbrev TG := V → St → Hp → (St → Hp → Prop) → Prop
abbrev TGs := List V → St → Hp → (St → Hp → Prop) → Prop
def PG (X : Cx) (target : Expr) (t : TG) : Prop :=
  ∀ (pins : List (Addr × Obj)) (s : Shared) (σ : St) (H : Hp) (v : V) (u : Value) (Q : St → Hp → Prop), Inv X pins σ H s → RelV v u → t v σ H Q →
    wpAny (model X.prog X.w) X.A (assign target X.env u) (fun _ s' => ∃ σ' H', Inv X pins σ' H' s' ∧ Q σ' H') X.xe s
def PGs (X : Cx) (ts : List Expr) (t : TGs) : Prop :=
  ∀ (pins : List (Addr × Obj)) (s : Shared) (σ : St) (H : Hp) (vs : List V) (us : List Value) (Q : St → Hp → Prop), Inv X pins σ H s → Vals vs us → t vs σ H Q →
    wpAny (model X.prog X.w) X.A (assignInOrder ((assignEach ts X.env).map (·.2)) us) (fun _ s' => ∃ σ' H', Inv X pins σ' H' s' ∧ Q σ' H') X.xe s
section
variable {X : Cx} {pos : Pos}
def gName (i : Nat) : TG := fun v σ H Q => Q (σ.set i (some v)) H
theorem pg_name {i : Nat} {x : Str} (hN : X.N.Nodup) (hi : X.N[i]? = some x) (hx : Loc X.env.scope x) (hf : X.fn x = true ∨ X.env.scope.names.lookup x = some .local := by first | exact .inl rfl | exact .inr rfl | assumption) : PG X (.Name x pos) (gName i) := by
  intro pins s σ H v u Q I r h
  exact wpAny_assign_Name (store_ok I hN hi hx r (fun s' I' => ⟨_, H, I', h⟩) hf)
def gNil : TGs := fun vs σ H Q => vs = [] ∧ Q σ H
def gCons (t : TG) (u : TGs) : TGs := fun vs σ H Q => ∃ v r, vs = v :: r ∧ t v σ H fun σ' H' => u r σ' H' Q
theorem pgs_nil : PGs X [] gNil := by
  intro pins s σ H vs us Q I r h
  obtain ⟨e, h⟩ := h
  subst e
  cases r
  exact assignInOrder_nil ⟨σ, H, I, h⟩
theorem pgs_cons {e : Expr} {es : List Expr} {t : TG} {u : TGs} (h1 : PG X e t) (h2 : PGs X es u)
    (hs : (assignEach (e :: es) X.env).map (·.2) = assign e X.env :: (assignEach es X.env).map (·.2) := by rfl) : PGs X (e :: es) (gCons t u) := by
  intro pins s σ H vs us Q I r h
  obtain ⟨v, vr, e1, h⟩ := h
  subst e1
  cases r with
  | cons r rr =>
    rw [hs]
    refine assignInOrder_cons (thn (h1 pins s σ H _ _ _ I r h) fun _ s1 ⟨σ1, H1, I1, q1⟩ => ?_)
    exact h2 pins s1 σ1 H1 _ _ Q I1 rr q1
def gTup (K : PySem.W.Frag) (n : Nat) (t : TGs) : TG := fun v σ H Q => ∃ a xs, v = .ref a ∧ SqT K H a xs ∧ xs.length = n ∧ t xs σ H Q
theorem pg_tup {es : List Expr} {k : Nat} {t : TGs} {n : Nat} (hc : X.calm = true) (h : PGs X es t)
    (hn : (assignEach es X.env).length = n := by rfl) (hst : (assignEach es X.env).findIdx? (·.1) = none := by rfl) : PG X (.Tuple es k pos) (gTup X.K n t) := by
  intro pins s σ H v u Q I r hw
  obtain ⟨a, xs, e1, hq, hl, hw⟩ := hw
  subst e1
  cases r
  obtain ⟨its, rv, ht, hz⟩ := I.tuple hq
  refine assign_Tuple_tuple (I.ok.hd hc) ht (by simp [hn, ← hl, rv.length]) hst fun h' hx => ?_
  have I1 : Inv X pins σ H { s with heap := h' } := I.kept (t' := s.toks) fun b o e => hx b o (Nat.ne_of_lt (Heap.lt_size e)) e
  exact h pins _ σ H xs _ Q I1 (by simpa using rv) hw
def tAsg (te : TE) (g : TG) : TS := fun D σ H => te σ H fun x H1 => g x σ H1 D.nx
theorem ps_asg {tg e : Expr} {te : TE} {g : TG} (he : PE X e te) (hg : PG X tg g) (hs : swapsWithSole [tg] e pos.line X.env = pure false := by rfl) (hw : swappedStores [tg] e X.env = pure none := by rfl)
    (h1 : (assignEach [tg] X.env).map (·.2) = [assign tg X.env] := by rfl) : PS X (.Assign [tg] e pos) (tAsg te g) := by
  intro pins s σ H D I h
  refine wpAny_Assign_stores (thn (he pins s σ H _ I h) fun v s1 ⟨x, H1, I1, r1, q1⟩ => ?_) hs hw
  rw [h1]
  exact thn (hg pins s1 σ H1 x v _ I1 r1 q1) fun _ s2 q => q
theorem ps_set {i : Nat} {x : Str} {e : Expr} {te : TE} {pos' : Pos} (hN : X.N.Nodup) (hi : X.N[i]? = some x) (hx : Loc X.env.scope x) (he : PE X e te) (hs : swapsWith e (some (.Name x pos')) pos.line X.env = pure false := by rfl) (hf : X.fn x = true ∨ X.env.scope.names.lookup x = some .local := by first | exact .inl rfl | exact .inr rfl | assumption) :
    PS X (.Assign [.Name x pos'] e pos) (tAsg te (gName i)) := by
  intro pins s σ H D I h
  refine wpAny_Assign_Name (thn (he pins s σ H _ I h) fun v s1 ⟨y, H1, I1, r1, q1⟩ => ?_) hs
  exact store_ok I1 hN hi hx r1 (fun s2 I2 => ⟨_, H1, I2, q1⟩) hf
end

section
variable {X : Cx} {pos : Pos}
end

structure It where
  go : Nat → Hp → Prop
  yld : Nat → Hp → V → Hp → Prop
  stop : Nat → Hp → Prop
def FpOk (X : Cx) (pins : List (Addr × Obj)) (H : Hp) (b : Addr) : Prop :=
  H b = none ∧ b ≠ X.env.locals ∧ b ∉ X.fs ∧ (b ∈ X.ex ∨ X.s₀.heap.objs.size ≤ b) ∧ (∀ x c, X.env.cells.lookup x = some c → c ≠ b) ∧ ∀ p ∈ X.pn ++ pins, p.1 ≠ b
theorem Inv.fpOk {X : Cx} {pins : List (Addr × Obj)} {σ : St} {H H' : Hp} {s : Shared} {b : Addr} (I : Inv X pins σ H s) (hb : s.heap.objs.size ≤ b) (hn : H' b = none) : FpOk X pins H' b := by
  refine ⟨hn, Nat.ne_of_gt (Nat.lt_of_lt_of_le I.lt hb), I.nofs hb, .inr (Nat.le_trans I.sz hb), fun x c e z => ?_, fun p hp z => ?_⟩
  · obtain ⟨v, q⟩ := I.cell x c e
    exact absurd (Nat.lt_of_lt_of_le q.lt (by rw [z]; exact hb)) (Nat.lt_irrefl _)
  · exact absurd (Nat.lt_of_lt_of_le (Heap.lt_size (I.pin p hp).1) (by rw [z]; exact hb)) (Nat.lt_irrefl _)
structure Turn (P : Program) (w : World) (K : PySem.W.Frag) (tg : Expr) (J : It) (fp : List Addr) (it : Addr) (tn : Nat → Heap → Prop) : Prop where
  mem : it ∈ fp
  obj : ∀ i h, tn i h → ∀ b ∈ fp, ∃ o, h.get? b = some o ∧ ∀ v, o.data ≠ .cell v
  keep : ∀ i h h', tn i h → (∀ b ∈ fp, ∀ o, h.get? b = some o → h'.get? b = some o) → tn i h'
  item : ∀ (X : Cx), X.prog = P → X.w = w → X.K = K → X.calm = true → ∀ (i : Nat) (pins : List (Addr × Obj)) (s : Shared) (σ : St) (H : Hp) (E : Value → Shared → Prop), Inv X pins σ H s → (∀ b ∈ fp, FpOk X pins H b) → tn i s.heap → J.go i H →
    wpAny (model P w) X.A (pyNext (.ref it)) (fun r s1 => ∃ u, r = some u ∧
      wpAny (model P w) X.A (letOwnedTupleGo tg (.ref it) u) (fun _ s2 => ∃ x H', Inv X pins σ H' s2 ∧ RelV x u ∧ J.yld i H x H' ∧ tn (i + 1) s2.heap ∧ ∀ b ∈ fp, H' b = none) E s1) E s
  done : ∀ (X : Cx), X.prog = P → X.w = w → X.K = K → X.calm = true → ∀ (i : Nat) (pins : List (Addr × Obj)) (s : Shared) (σ : St) (H : Hp) (E : Value → Shared → Prop), Inv X pins σ H s → (∀ b ∈ fp, FpOk X pins H b) → tn i s.heap → J.stop i H →
    wpAny (model P w) X.A (pyNext (.ref it)) (fun r s1 => r = none ∧ Inv X pins σ H s1) E s
  self : ∀ (A : Around) (i : Nat) (s : Shared) (Q : Value → Shared → Prop) (E : Value → Shared → Prop), tn i s.heap → Q (.ref it) s → wpAny (model P w) A (pyIter (.ref it)) Q E s
abbrev TI := St → Hp → (It → Hp → Prop) → Prop
def PIE (X : Cx) (pins : List (Addr × Obj)) (σ : St) (tg : Expr) (R : It → Hp → Prop) (itv : Value) (s2 : Shared) : Prop :=
  ∃ (it : Addr) (fp : List Addr) (tn : Nat → Heap → Prop) (J : It) (H' : Hp), itv = .ref it ∧ Inv X pins σ H' s2 ∧ Turn X.prog X.w X.K tg J fp it tn ∧ tn 0 s2.heap ∧ (∀ b ∈ fp, FpOk X pins H' b) ∧ R J H'
def PI (X : Cx) (tg iter : Expr) (wi : TI) : Prop :=
  ∀ (pins : List (Addr × Obj)) (s : Shared) (σ : St) (H : Hp) (R : It → Hp → Prop), Inv X pins σ H s → wi σ H R →
    wpAny (model X.prog X.w) X.A (eval iter X.env) (fun v s1 => wpAny (model X.prog X.w) X.A (pyIter v) (PIE X pins σ tg R) X.xe s1) X.xe s

theorem go_of {M : Model} {A : Around} {E : Value → Shared → Prop} {s : Shared} {tg : Expr} {it : Addr} {u : Value} {o : Obj} {n : String} {vs : Array Value} {Q : Unit → Shared → Prop} (ho : s.heap.get? it = some o) (hc : o.cls = .type n) (hd : o.data = .fields vs)
    (hn : ["enumerate", "zip", "dict_itemiterator", "dict_reverseitemiterator", "odict_iterator", "itertools.zip_longest", "itertools.pairwise"].contains n = false) (hQ : Q () s) : wpAny M A (letOwnedTupleGo tg (.ref it) u) Q E s := by
  unfold letOwnedTupleGo
  cases tg <;> first
    | exact wpAny_pure hQ
    | (cases u <;> first
        | exact wpAny_pure hQ
        | (refine wpAny_bind (wpAny_load ho ?_)
           rw [hc, hd]
           show wpAny M A (if (["enumerate", "zip", "dict_itemiterator", "dict_reverseitemiterator", "odict_iterator", "itertools.zip_longest", "itertools.pairwise"].contains n && vs[0]? == some (rawInt _)) = true then _ else _) Q E s
           rw [if_neg (by intro h; rw [hn, Bool.false_and] at h; cases h)]
           exact wpAny_pure hQ))

def Itl (K : PySem.W.Frag) (a : Addr) : It :=
  ⟨fun i H => ∃ xs x, SqL K H a xs ∧ xs[i]? = some x, fun i H x H' => H' = H ∧ ∀ xs, SqL K H a xs → xs[i]? = some x, fun i H => ∃ xs, SqL K H a xs ∧ xs.length ≤ i⟩
def Itt (K : PySem.W.Frag) (a : Addr) : It :=
  ⟨fun i H => ∃ xs x, SqT K H a xs ∧ xs[i]? = some x, fun i H x H' => H' = H ∧ ∀ xs, SqT K H a xs → xs[i]? = some x, fun i H => ∃ xs, SqT K H a xs ∧ xs.length ≤ i⟩
def Itr (lo : Int) (n : Nat) : It := ⟨fun i _ => i < n, fun i H x H' => H' = H ∧ x = .int (lo + i), fun i _ => n ≤ i⟩
theorem turn_list {P : Program} {w : World} {K : PySem.W.Frag} {tg : Expr} (a it : Addr) : Turn P w K tg (Itl K a) [it] it (fun i h => h.IsListIter it a i) where
  mem := by simp
  obj := fun i h st b hb => by
    have e : b = it := by simpa using hb
    subst e
    obtain ⟨o, e, c, d⟩ := st
    exact ⟨o, e, fun v z => by rw [d] at z; cases z⟩
  keep := fun i h h' st k => st.at fun o e => k it (by simp) o e
  item := by
    intro X hP hw hK hc i pins s σ H E I hf st hg
    subst hP hw hK
    obtain ⟨xs, x, hq, hx⟩ := hg
    obtain ⟨its, rv, p, hz⟩ := I.list hq
    obtain ⟨u, hu, ru⟩ := rv.get hx
    obtain ⟨f0, f1, f2, f3, f4, f5⟩ := hf it (by simp)
    refine wpAny_pyNext_list_item st p.isList (x := u) (by simpa using hu) fun h' st' sb => ?_
    have I1 : Inv X pins σ H { s with heap := h' } := I.turned (t' := s.toks) (fun b o hb e => (sb.2 b hb).trans e) f0 f1 f3 f4 f5
    obtain ⟨o, e, c, d⟩ := id st'
    exact ⟨u, rfl, go_of (s := { s with heap := h' }) e c d (by decide) ⟨x, H, I1, ru, ⟨rfl, fun ys hy => by rw [I.list_inj hy hq]; exact hx⟩, st', fun b hb => (hf b hb).1⟩⟩
  done := by
    intro X hP hw hK hc i pins s σ H E I hf st hg
    subst hP hw hK
    obtain ⟨xs, hq, hx⟩ := hg
    obtain ⟨its, rv, p, hz⟩ := I.list hq
    obtain ⟨f0, f1, f2, f3, f4, f5⟩ := hf it (by simp)
    have hl := rv.length
    exact wpAny_pyNext_list_end (I.ok.hd hc) st p.isList (by simp; (first | lia | omega)) fun h' eb => ⟨rfl, I.turned (t' := s.toks) (fun b o hb e => eb b o hb e) f0 f1 f3 f4 f5⟩
  self := fun _ _ _ _ _ st h => wpAny_pyIter_listiter st h
theorem turn_tuple {P : Program} {w : World} {K : PySem.W.Frag} {tg : Expr} (a it : Addr) : Turn P w K tg (Itt K a) [it] it (fun i h => h.IsTupleIter it a i) where
  mem := by simp
  obj := fun i h st b hb => by
    have e : b = it := by simpa using hb
    subst e
    obtain ⟨o, e, c, d⟩ := st
    exact ⟨o, e, fun v z => by rw [d] at z; cases z⟩
  keep := fun i h h' st k => st.at fun o e => k it (by simp) o e
  item := by
    intro X hP hw hK hc i pins s σ H E I hf st hg
    subst hP hw hK
    obtain ⟨xs, x, hq, hx⟩ := hg
    obtain ⟨its, rv, p, hz⟩ := I.tuple hq
    obtain ⟨u, hu, ru⟩ := rv.get hx
    obtain ⟨f0, f1, f2, f3, f4, f5⟩ := hf it (by simp)
    refine wpAny_pyNext_tuple_item st (show s.heap.IsTuple a its.toArray from p) (x := u) (by simpa using hu) fun h' st' sb => ?_
    have I1 : Inv X pins σ H { s with heap := h' } := I.turned (t' := s.toks) (fun b o hb e => (sb.2 b hb).trans e) f0 f1 f3 f4 f5
    obtain ⟨o, e, c, d⟩ := id st'
    exact ⟨u, rfl, go_of (s := { s with heap := h' }) e c d (by decide) ⟨x, H, I1, ru, ⟨rfl, fun ys hy => by rw [I.tuple_inj hy hq]; exact hx⟩, st', fun b hb => (hf b hb).1⟩⟩
  done := by
    intro X hP hw hK hc i pins s σ H E I hf st hg
    subst hP hw hK
    obtain ⟨xs, hq, hx⟩ := hg
    obtain ⟨its, rv, p, hz⟩ := I.tuple hq
    obtain ⟨f0, f1, f2, f3, f4, f5⟩ := hf it (by simp)
    have hl := rv.length
    exact wpAny_pyNext_tuple_end (I.ok.hd hc) st (show s.heap.IsTuple a its.toArray from p) (by simp; (first | lia | omega)) fun h' eb => ⟨rfl, I.turned (t' := s.toks) (fun b o hb e => eb b o hb e) f0 f1 f3 f4 f5⟩
  self := fun _ _ _ _ _ st h => wpAny_pyIter_tupleiter st h
theorem turn_range {P : Program} {w : World} {K : PySem.W.Frag} {tg : Expr} (it : Addr) (lo : Int) (n : Nat) : Turn P w K tg (Itr lo n) [it] it (fun i h => IsRangeIter h it (lo + (i : Nat) * 1) ((n : Int) - (i : Nat)) 1) where
  mem := by simp
  obj := fun i h st b hb => by
    have e : b = it := by simpa using hb
    subst e
    exact ⟨_, st, fun v z => by
      have z' : Data.fields _ = Data.cell v := z
      cases z'⟩
  keep := fun i h h' st k => k it (by simp) _ st
  item := by
    intro X hP hw hK hc i pins s σ H E I hf st hg
    subst hP hw hK
    obtain ⟨f0, f1, f2, f3, f4, f5⟩ := hf it (by simp)
    have W := Walks.range (prog := X.prog) (w := X.w) (I.ok.hd hc) it lo 1 n
    refine W.item i s _ _ hg st fun v h' tk hv st' kk => ?_
    obtain ⟨t, rfl⟩ := hv
    have I1 : Inv X pins σ H { s with heap := h', toks := tk } := I.turned (fun b o hb e => kk b o (by simpa using hb) e) f0 f1 f3 f4 f5
    refine ⟨_, rfl, go_of (s := { s with heap := h', toks := tk }) (n := "range_iterator") st' rfl rfl (by decide) ⟨.int (lo + i), H, I1, ⟨t, ?_⟩, ⟨rfl, rfl⟩, st', fun b hb => (hf b hb).1⟩⟩
    rw [Int.mul_one]
  done := by
    intro X hP hw hK hc i pins s σ H E I hf st hg
    subst hP hw hK
    obtain ⟨f0, f1, f2, f3, f4, f5⟩ := hf it (by simp)
    exact wpAny_pyNext_range_end (I.ok.hd hc) st (by have : n ≤ i := hg; (first | lia | omega)) fun h' eb => ⟨rfl, I.turned (t' := s.toks) (fun b o hb e => eb b o hb e) f0 f1 f3 f4 f5⟩
  self := fun _ _ _ _ _ st h => wpAny_pyIter_rangeiter st h
end L2

namespace L2
open PySem PySem.Spec PyProof.Rows
section
variable {X : Cx} {tg : Expr}
def iList (K : PySem.W.Frag) (tl : TE) : TI := fun σ H R => tl σ H fun x H1 => ∃ a, x = .ref a ∧ (∃ xs, SqL K H1 a xs) ∧ R (Itl K a) H1
def iTup (K : PySem.W.Frag) (tl : TE) : TI := fun σ H R => tl σ H fun x H1 => ∃ a, x = .ref a ∧ (∃ xs, SqT K H1 a xs) ∧ R (Itt K a) H1
theorem pi_list {l : Expr} {tl : TE} (hl : PE X l tl) : PI X tg l (iList X.K tl) := by
  intro pins s σ H R I h
  refine thn (hl pins s σ H _ I h) fun v s1 ⟨x, H1, I1, r1, q1⟩ => ?_
  obtain ⟨a, e, ⟨xs, hq⟩, q⟩ := q1
  subst e
  cases r1
  obtain ⟨its, rv, p, hz⟩ := I1.list hq
  refine wpAny_pyIter_list p.isList ?_
  refine ⟨s1.heap.objs.size, [s1.heap.objs.size], _, _, H1, rfl, I1.kept (t' := s1.toks) fun b o e => Heap.get?_push_of_some _ e, turn_list a _, ⟨_, Heap.get?_push_size _ rfl, rfl, rfl⟩, fun b hb => ?_, q⟩
  have e : b = s1.heap.objs.size := by simpa using hb
  subst e
  exact I1.fpOk (Nat.le_refl _) (I1.hok.fresh (Nat.le_refl _))
theorem pi_tup {l : Expr} {tl : TE} (hl : PE X l tl) : PI X tg l (iTup X.K tl) := by
  intro pins s σ H R I h
  refine thn (hl pins s σ H _ I h) fun v s1 ⟨x, H1, I1, r1, q1⟩ => ?_
  obtain ⟨a, e, ⟨xs, hq⟩, q⟩ := q1
  subst e
  cases r1
  obtain ⟨its, rv, p, hz⟩ := I1.tuple hq
  refine wpAny_pyIter_tuple (show s1.heap.IsTuple a its.toArray from p) ?_
  refine ⟨s1.heap.objs.size, [s1.heap.objs.size], _, _, H1, rfl, I1.kept (t' := s1.toks) fun b o e => Heap.get?_push_of_some _ e, turn_tuple a _, ⟨_, Heap.get?_push_size _ rfl, rfl, rfl⟩, fun b hb => ?_, q⟩
  have e : b = s1.heap.objs.size := by simpa using hb
  subst e
  exact I1.fpOk (Nat.le_refl _) (I1.hok.fresh (Nat.le_refl _))
theorem range_it {pins : List (Addr × Obj)} {σ : St} {H : Hp} {s : Shared} {R : It → Hp → Prop} {E : Value → Shared → Prop} {lo hi : Int} {t u v : Tok} {tk : Nat} (I : Inv X pins σ H s) (h1 : -(2 ^ 62) ≤ lo) (h2 : lo < 2 ^ 62) (h3 : -(2 ^ 62) ≤ hi) (h4 : hi < 2 ^ 62)
    (q : R (Itr lo (hi - lo).toNat) H) : wpAny (model X.prog X.w) X.A (pyIter (.ref s.heap.objs.size)) (PIE X pins σ tg R) E { s with heap := s.heap.push { cls := .type "range", data := .fields #[.int lo t, .int hi u, .int 1 v] }, toks := tk } := by
  refine wpAny_pyIter_range (IsRange.new ..) (small_one h1 h2 h3 h4) ?_
  have I1 : Inv X pins σ H { s with heap := s.heap.push { cls := .type "range", data := .fields #[.int lo t, .int hi u, .int 1 v] }, toks := tk } := I.kept fun b o e => Heap.get?_push_of_some _ e
  refine ⟨(s.heap.push { cls := .type "range", data := .fields #[.int lo t, .int hi u, .int 1 v] }).objs.size, [(s.heap.push { cls := .type "range", data := .fields #[.int lo t, .int hi u, .int 1 v] }).objs.size], _, _, H, rfl,
    I1.kept (t' := tk) fun b o e => Heap.get?_push_of_some _ e, turn_range _ lo (hi - lo).toNat, ?_, fun b hb => ?_, q⟩
  · have e1 : lo + ((0 : Nat) : Int) * 1 = lo := by simp
    have e2 : (((hi - lo).toNat : Nat) : Int) - ((0 : Nat) : Int) = Builtin.Range.rangeSize lo hi 1 := by rw [rangeSize_one]; split <;> (first | lia | omega)
    show IsRangeIter _ _ (lo + ((0 : Nat) : Int) * 1) ((((hi - lo).toNat : Nat) : Int) - ((0 : Nat) : Int)) 1
    rw [e1, e2]
    exact Heap.get?_push_size _ rfl
  · have e : b = (s.heap.push { cls := .type "range", data := .fields #[.int lo t, .int hi u, .int 1 v] }).objs.size := by simpa using hb
    subst e
    exact I1.fpOk (Nat.le_refl _) (I1.hok.fresh (Nat.le_refl _))
def iRng1 (ta : TA) : TI := fun σ H R => ta σ H fun vs H1 => ∃ j : Int, vs = [.int j] ∧ -(2 ^ 62) ≤ j ∧ j < 2 ^ 62 ∧ R (Itr 0 j.toNat) H1
def iRng2 (ta : TA) : TI := fun σ H R => ta σ H fun vs H1 => ∃ i j : Int, vs = [.int i, .int j] ∧ (-(2 ^ 62) ≤ i ∧ i < 2 ^ 62 ∧ -(2 ^ 62) ≤ j ∧ j < 2 ^ 62) ∧ R (Itr i (j - i).toNat) H1
theorem pi_range1 {a : Expr} {ta : TA} {p pos : Pos} (hg : Gl X "range") (hm : X.mg "range" = none) (ha : PA X [a] ta) (hs : starEach [a] X.env = [(false, eval a X.env)] := by rfl) : PI X tg (.Call (.Name "range" p) [a] [] pos) (iRng1 ta) := by
  intro pins s σ H R I h
  refine Call_ (ld_blt I hg hm boot_range (PyProof.Rows.callWith_type1 (thn (ha pos pins s σ H _ I h) fun us s1 ⟨vs, H1, I1, r1, q1⟩ => ?_) hs rfl))
  obtain ⟨j, e, q1, q2, q⟩ := q1
  subst e
  cases r1 with
  | cons r rr =>
    cases rr
    obtain ⟨t, rfl⟩ := r
    exact call_range_1 (range_it I1 (by (first | lia | omega)) (by (first | lia | omega)) q1 q2 (by simpa using q))
theorem pi_range2 {a b : Expr} {ta : TA} {p pos : Pos} (hg : Gl X "range") (hm : X.mg "range" = none) (ha : PA X [a, b] ta) (hs : starEach [a, b] X.env = [(false, eval a X.env), (false, eval b X.env)] := by rfl) (hs2 : starEach [b] X.env = [(false, eval b X.env)] := by rfl) :
    PI X tg (.Call (.Name "range" p) [a, b] [] pos) (iRng2 ta) := by
  intro pins s σ H R I h
  refine Call_ (ld_blt I hg hm boot_range (PyProof.Rows.callWith_type1 (thn (ha pos pins s σ H _ I h) fun us s1 ⟨vs, H1, I1, r1, q1⟩ => ?_) (by rw [hs, hs2]) (by rw [hs2]; rfl)))
  obtain ⟨i, j, e, ⟨q1, q2, q3, q4⟩, q⟩ := q1
  subst e
  cases r1 with
  | cons r rr =>
    cases rr with
    | cons r' rr =>
      cases rr
      obtain ⟨t, rfl⟩ := r
      obtain ⟨t', rfl⟩ := r'
      exact call_range_2 (range_it I1 q1 q2 q3 q4 q)

def tFor (wi : TI) (g : TG) (tb : TS) : TS := fun D σ H => wi σ H fun J H1 => ∃ W : Nat → Nat → St → Hp → Prop, (∃ m, W 0 m σ H1) ∧ ∀ i m σ H, W i m σ H →
  (J.stop i H ∧ D.nx σ H) ∨ (J.go i H ∧ ∃ N : St → Hp → Prop, (∀ σ' H', N σ' H' → ∃ m', m' < m ∧ W (i + 1) m' σ' H') ∧ ∀ x H', J.yld i H x H' → g x σ H' fun σ2 H2 => tb { D with nx := N, ct := N, bk := D.nx } σ2 H2)
def pinsAt (fp : List Addr) (h : Heap) : List (Addr × Obj) := fp.filterMap fun b => (h.get? b).map fun o => (b, o)
theorem mem_pinsAt {fp : List Addr} {h : Heap} {b : Addr} {o : Obj} (hb : b ∈ fp) (e : h.get? b = some o) : (b, o) ∈ pinsAt fp h := List.mem_filterMap.mpr ⟨b, hb, by rw [e]; rfl⟩
theorem of_pinsAt {fp : List Addr} {h : Heap} {p : Addr × Obj} (hp : p ∈ pinsAt fp h) : p.1 ∈ fp ∧ h.get? p.1 = some p.2 := by
  obtain ⟨b, hb, e⟩ := List.mem_filterMap.mp hp
  cases q : h.get? b with
  | none => rw [q] at e; cases e
  | some o =>
    rw [q] at e
    have e' : (b, o) = p := Option.some.inj e
    subst e'
    exact ⟨hb, q⟩
theorem Inv.pinned {pins : List (Addr × Obj)} {σ : St} {H : Hp} {s : Shared} {fp : List Addr} (I : Inv X pins σ H s) (hf : ∀ b ∈ fp, FpOk X pins H b) (ho : ∀ b ∈ fp, ∃ o, s.heap.get? b = some o ∧ ∀ v, o.data ≠ .cell v) : Inv X (pins ++ pinsAt fp s.heap) σ H s :=
  I.pins_of fun p hp => (List.mem_append.mp hp).elim (fun z => I.pin p (List.mem_append_right _ z)) fun z => by
    obtain ⟨hb, e⟩ := of_pinsAt z
    obtain ⟨f0, f1, f2, _⟩ := hf p.1 hb
    obtain ⟨o, e', d⟩ := ho p.1 hb
    rw [e] at e'; cases e'
    exact ⟨e, f0, f1, f2, d⟩
theorem Inv.unpinned {pins pl : List (Addr × Obj)} {σ : St} {H : Hp} {s : Shared} (I : Inv X (pins ++ pl) σ H s) : Inv X pins σ H s := I.pins_of fun p hp => I.pin p (List.mem_append_right _ (List.mem_append_left _ hp))
theorem ps_for {iter : Expr} {body : List Stmt} {wi : TI} {g : TG} {tb : TS} {pos : Pos} (hp : PassesOwn (model X.prog X.w) X.A X.env X.xe) (hc : X.calm = true) (hi : PI X tg iter wi) (hg : PG X tg g) (hb : PSs X body tb)
    (hs : ∀ x, foldedSetIterable iter X.env x = pure x := by intro _; rfl) : PS X (.For tg iter body [] pos) (tFor wi g tb) := by
  intro pins s σ H D I h
  refine wpAny_For (thn (hi pins s σ H _ I h) fun v s1 h1 => thn h1 fun itv s2 h2 => ?_) hs
  obtain ⟨it, fp, tn, J, H2, e, I2, T, st2, f2, W, ⟨m0, w0⟩, turn⟩ := h2
  subst e
  -- what stays true of the iterator's objects through the loop
  have stat : ∀ {H' : Hp}, (∀ b ∈ fp, H' b = none) → ∀ b ∈ fp, FpOk X pins H' b := fun hn b hb => ⟨hn b hb, (f2 b hb).2⟩
  refine codeAny_forLoop_any (fun n s' => ∃ i σ' H', Inv X pins σ' H' s' ∧ tn i s'.heap ∧ (∀ b ∈ fp, H' b = none) ∧ W i n σ' H') ?_ m0 ⟨0, σ, H2, I2, st2, fun b hb => (f2 b hb).1, w0⟩
  rintro n s3 ⟨i, σ3, H3, I3, st3, fr3, w3⟩
  rcases turn i n σ3 H3 w3 with ⟨stop, qn⟩ | ⟨go, N, hN, step⟩
  · refine wpAny_passesOwn hp (thn (T.done X rfl rfl rfl hc i pins s3 σ3 H3 X.xe I3 (stat fr3) st3 stop) fun r s4 ⟨hr, I4⟩ => ?_)
    subst hr
    exact wpAny_execs_nil ⟨σ3, H3, I4, qn⟩
  · refine wpAny_passesOwn hp (thn (T.item X rfl rfl rfl hc i pins s3 σ3 H3 X.xe I3 (stat fr3) st3 go) fun r s4 ⟨u, hr, h4⟩ => ?_)
    subst hr
    refine wpAny_passesOwn hp (thn h4 fun _ s5 ⟨x, H5, I5, r5, y5, st5, fr5⟩ => ?_)
    have I5' := I5.pinned (stat fr5) (T.obj _ _ st5)
    refine wpAny_passesOwn hp (thn (hg _ s5 σ3 H5 x u _ I5' r5 (step x H5 y5)) fun _ s6 ⟨σ6, H6, I6, q6⟩ => ?_)
    refine wpAny_passesOwn hp (thn (hb _ s6 σ6 H6 _ I6 q6) fun f s7 q7 => ?_)
    have again : ∀ {σ7 : St} {H7 : Hp}, Inv X (pins ++ pinsAt fp s5.heap) σ7 H7 s7 → N σ7 H7 → ∃ m, m < n ∧ ∃ i σ' H', Inv X pins σ' H' s7 ∧ tn i s7.heap ∧ (∀ b ∈ fp, H' b = none) ∧ W i m σ' H' := fun {σ7 H7} I7 n7 => by
      obtain ⟨m', hm, w7⟩ := hN σ7 H7 n7
      refine ⟨m', hm, i + 1, σ7, H7, I7.unpinned, T.keep _ _ _ st5 fun b hb o e => (I7.pin (b, o) (List.mem_append_right _ (List.mem_append_right _ (mem_pinsAt hb e)))).1, fun b hb => ?_, w7⟩
      obtain ⟨o, e, d⟩ := T.obj _ _ st5 b hb
      exact (I7.pin (b, o) (List.mem_append_right _ (List.mem_append_right _ (mem_pinsAt hb e)))).2.1
    cases f with
    | next => obtain ⟨σ7, H7, I7, n7⟩ := q7; exact again I7 n7
    | cont => obtain ⟨σ7, H7, I7, n7⟩ := q7; exact again I7 n7
    | brk => obtain ⟨σ7, H7, I7, q7⟩ := q7; exact ⟨σ7, H7, I7.unpinned, q7⟩
    | ret v => obtain ⟨x7, σ7, H7, I7, r7, q7⟩ := q7; exact ⟨x7, σ7, H7, I7.unpinned, r7, q7⟩
end

theorem for_tup {K : PySem.W.Frag} {a : Addr} {xs : List V} {g : TG} {tb : TS} {D : Ends} {σ : St} {H : Hp} (Pv : Nat → St → Hp → Prop) (h0 : Pv 0 σ H) (hl : ∀ i σ H, i ≤ xs.length → Pv i σ H → SqT K H a xs)
    (hs : ∀ i x σ H, xs[i]? = some x → Pv i σ H → g x σ H fun σ2 H2 => tb { D with nx := Pv (i + 1), ct := Pv (i + 1), bk := D.nx } σ2 H2) (hd : ∀ σ H, Pv xs.length σ H → D.nx σ H) :
    ∃ W : Nat → Nat → St → Hp → Prop, (∃ m, W 0 m σ H) ∧ ∀ i m σ H, W i m σ H →
      ((Itt K a).stop i H ∧ D.nx σ H) ∨ ((Itt K a).go i H ∧ ∃ N : St → Hp → Prop, (∀ σ' H', N σ' H' → ∃ m', m' < m ∧ W (i + 1) m' σ' H') ∧ ∀ x H', (Itt K a).yld i H x H' → g x σ H' fun σ2 H2 => tb { D with nx := N, ct := N, bk := D.nx } σ2 H2) := by
  refine ⟨fun i m σ H => m = xs.length - i ∧ i ≤ xs.length ∧ Pv i σ H, ⟨xs.length, by simp, Nat.zero_le _, h0⟩, ?_⟩
  rintro i m σ H ⟨rfl, hi, p⟩
  have q := hl i σ H hi p
  by_cases hlt : i < xs.length
  · refine .inr ⟨⟨xs, xs[i], q, by simp [hlt]⟩, Pv (i + 1), fun σ' H' p' => ⟨xs.length - (i + 1), by (first | lia | omega), rfl, hlt, p'⟩, fun x H' y => ?_⟩
    obtain ⟨e, y⟩ := y
    subst e
    exact hs i x σ _ (y xs q) p
  · have e : i = xs.length := by (first | lia | omega)
    subst e
    exact .inl ⟨⟨xs, q, Nat.le_refl _⟩, hd σ H p⟩
theorem for_range {lo : Int} {n : Nat} {g : TG} {tb : TS} {D : Ends} {σ : St} {H : Hp} (Pv : Nat → St → Hp → Prop) (h0 : Pv 0 σ H)
    (hs : ∀ i σ H, i < n → Pv i σ H → g (.int (lo + i)) σ H fun σ2 H2 => tb { D with nx := Pv (i + 1), ct := Pv (i + 1), bk := D.nx } σ2 H2) (hd : ∀ σ H, Pv n σ H → D.nx σ H) :
    ∃ W : Nat → Nat → St → Hp → Prop, (∃ m, W 0 m σ H) ∧ ∀ i m σ H, W i m σ H →
      ((Itr lo n).stop i H ∧ D.nx σ H) ∨ ((Itr lo n).go i H ∧ ∃ N : St → Hp → Prop, (∀ σ' H', N σ' H' → ∃ m', m' < m ∧ W (i + 1) m' σ' H') ∧ ∀ x H', (Itr lo n).yld i H x H' → g x σ H' fun σ2 H2 => tb { D with nx := N, ct := N, bk := D.nx } σ2 H2) := by
  refine ⟨fun i m σ H => m = n - i ∧ i ≤ n ∧ Pv i σ H, ⟨n, by simp, Nat.zero_le _, h0⟩, ?_⟩
  rintro i m σ H ⟨rfl, hi, p⟩
  by_cases hlt : i < n
  · refine .inr ⟨hlt, Pv (i + 1), fun σ' H' p' => ⟨n - (i + 1), by (first | lia | omega), rfl, hlt, p'⟩, fun x H' y => ?_⟩
    obtain ⟨e, y⟩ := y
    subst e y
    exact hs i σ _ hlt p
  · have e : i = n := by (first | lia | omega)
    subst e
    exact .inl ⟨Nat.le_refl _, hd σ H p⟩
end L2

namespace L2
open PySem PySem.Spec PyProof.Rows

abbrev R2 := V → V → Hp → VK → Prop
def OpR (X : Cx) (f : Value → Value → Sem Value) (r : R2) : Prop :=
  ∀ (pins : List (Addr × Obj)) (s : Shared) (σ : St) (H : Hp) (x y : V) (v u : Value) (Q : VK), Inv X pins σ H s → RelV x v → RelV y u → r x y H Q →
    wpAny (model X.prog X.w) X.A (f v u) (EP X pins σ Q) X.xe s
def UnR (X : Cx) (f : Value → Sem Value) (r : V → Hp → VK → Prop) : Prop :=
  ∀ (pins : List (Addr × Obj)) (s : Shared) (σ : St) (H : Hp) (x : V) (v : Value) (Q : VK), Inv X pins σ H s → RelV x v → r x H Q →
    wpAny (model X.prog X.w) X.A (f v) (EP X pins σ Q) X.xe s
def CallR (X : Cx) (f : Value) (r : List V → Hp → VK → Prop) : Prop :=
  ∀ (pins : List (Addr × Obj)) (s : Shared) (σ : St) (H : Hp) (xs : List V) (us : List Value) (Q : VK), Inv X pins σ H s → Vals xs us → r xs H Q →
    wpAny (model X.prog X.w) X.A (call f us) (EP X pins σ Q) X.xe s
def tOp (r : R2) (ta tb : TE) : TE := fun σ H Q => ta σ H fun x H1 => tb σ H1 fun y H2 => r x y H2 Q
def tUn (r : V → Hp → VK → Prop) (ta : TE) : TE := fun σ H Q => ta σ H fun x H1 => r x H1 Q
def rI (C : Int → Int → Prop) (g : Int → Int → V) : R2 := fun x y H Q => ∃ i j, x = .int i ∧ y = .int j ∧ C i j ∧ Q (g i j) H
def rI0 (g : Int → Int → V) : R2 := fun x y H Q => ∃ i j, x = .int i ∧ y = .int j ∧ Q (g i j) H
def rU (g : Int → V) : V → Hp → VK → Prop := fun x H Q => ∃ i, x = .int i ∧ Q (g i) H

section
variable {X : Cx} {a b c : Expr} {ta tb tc : TE} {pos : Pos}

theorem binT (ha : PE X a ta) (hb : PE X b tb) {pins : List (Addr × Obj)} {s : Shared} {σ : St} {H : Hp} {R : V → V → Hp → Prop} (I : Inv X pins σ H s)
    (h : ta σ H fun x H1 => tb σ H1 fun y H2 => R x y H2) {Q : Value → Shared → Prop} {f : Value → Value → Sem Value}
    (hf : ∀ v u s2 x y H2, Inv X pins σ H2 s2 → RelV x v → RelV y u → R x y H2 → wpAny (model X.prog X.w) X.A (f v u) Q X.xe s2) :
    wpAny (model X.prog X.w) X.A (eval a X.env) (fun v s₁ => wpAny (model X.prog X.w) X.A (eval b X.env) (fun u s₂ => wpAny (model X.prog X.w) X.A (f v u) Q X.xe s₂) X.xe s₁) X.xe s := by
  refine thn (ha pins s σ H _ I h) fun v s1 ⟨x, H1, I1, r1, q1⟩ => ?_
  refine thn (hb pins s1 σ H1 _ I1 q1) fun u s2 ⟨y, H2, I2, r2, q2⟩ => ?_
  exact hf v u s2 x y H2 I2 r1 r2 q2

theorem pe_op {op : Operator} {r : R2} (ho : OpR X (binaryOp op) r) (ha : PE X a ta) (hb : PE X b tb) : PE X (.BinOp a op b pos) (tOp r ta tb) := by
  intro pins s σ H Q I h
  exact wpAny_BinOp (binT ha hb I h fun v u s2 x y H2 I2 rx ry q => ho pins s2 σ H2 x y v u Q I2 rx ry q)
theorem pe_un {op : UnaryOp} {r : V → Hp → VK → Prop} (ho : UnR X (unaryOp op) r) (ha : PE X a ta) : PE X (.UnaryOp op a pos) (tUn r ta) := by
  intro pins s σ H Q I h
  exact UnaryOp_ (thn (ha pins s σ H _ I h) fun v s1 ⟨x, H1, I1, r1, q1⟩ => ho pins s1 σ H1 x v Q I1 r1 q1)
theorem opI {f : Value → Value → Sem Value} {C : Int → Int → Prop} {g : Int → Int → Int}
    (rule : ∀ (i j : Int) (t u : Tok) (s : Shared) (Q : Value → Shared → Prop) (E : Value → Shared → Prop), C i j → Q (.int (g i j) s.toks) { s with toks := s.toks + 1 } → wpAny (model X.prog X.w) X.A (f (.int i t) (.int j u)) Q E s) :
    OpR X f (rI C fun i j => .int (g i j)) := by
  intro pins s σ H x y v u Q I rx ry h
  obtain ⟨i, j, rfl, rfl, hc, q⟩ := h
  obtain ⟨t, rfl⟩ := rx
  obtain ⟨t', rfl⟩ := ry
  exact rule i j t t' s _ _ hc ⟨.int (g i j), H, I.tok _, ⟨_, rfl⟩, q⟩
theorem opI0 {f : Value → Value → Sem Value} {g : Int → Int → Int}
    (rule : ∀ (i j : Int) (t u : Tok) (s : Shared) (Q : Value → Shared → Prop) (E : Value → Shared → Prop), Q (.int (g i j) s.toks) { s with toks := s.toks + 1 } → wpAny (model X.prog X.w) X.A (f (.int i t) (.int j u)) Q E s) :
    OpR X f (rI0 fun i j => .int (g i j)) := by
  intro pins s σ H x y v u Q I rx ry h
  obtain ⟨i, j, rfl, rfl, q⟩ := h
  obtain ⟨t, rfl⟩ := rx
  obtain ⟨t', rfl⟩ := ry
  exact rule i j t t' s _ _ ⟨.int (g i j), H, I.tok _, ⟨_, rfl⟩, q⟩
theorem opB0 {f : Value → Value → Sem Value} {g : Int → Int → Bool}
    (rule : ∀ (i j : Int) (t u : Tok) (s : Shared) (Q : Value → Shared → Prop) (E : Value → Shared → Prop), Q (.bool (g i j)) s → wpAny (model X.prog X.w) X.A (f (.int i t) (.int j u)) Q E s) :
    OpR X f (rI0 fun i j => .bl (g i j)) := by
  intro pins s σ H x y v u Q I rx ry h
  obtain ⟨i, j, rfl, rfl, q⟩ := h
  obtain ⟨t, rfl⟩ := rx
  obtain ⟨t', rfl⟩ := ry
  exact rule i j t t' s _ _ ⟨.bl (g i j), H, I, rfl, q⟩

def CDiv (i j : Int) : Prop := 0 < j ∧ j < 1073741824
def CPow (i j : Int) : Prop := 0 ≤ j ∧ j ≤ 1000000 ∧ i.natAbs < 2 ^ 64
def CMul (i j : Int) : Prop := (-(2 ^ 64) < i ∧ i < 2 ^ 64) ∨ (-(2 ^ 64) < j ∧ j < 2 ^ 64)
theorem CMul.ok {i j : Int} (h : CMul i j) : IntMulOk i j := by
  rcases h with ⟨h1, h2⟩ | ⟨h1, h2⟩
  · exact .of_left (intBits_le_64 h1 h2)
  · exact .of_right (intBits_le_64 h1 h2)
theorem two_pow_nn (k : Nat) : (0 : Int) ≤ 2 ^ k := by
  rw [two_pow_cast]
  exact Int.natCast_nonneg _

theorem op_add : OpR X (binaryOp .Add) (rI0 fun i j => .int (i + j)) := opI0 fun _ _ _ _ _ _ _ q => add_int q
theorem op_sub : OpR X (binaryOp .Sub) (rI0 fun i j => .int (i - j)) := opI0 fun _ _ _ _ _ _ _ q => sub_int q
theorem op_mul : OpR X (binaryOp .Mult) (rI CMul fun i j => .int (i * j)) := opI fun _ _ _ _ _ _ _ hc q => mul_int q hc.ok
theorem op_fdiv : OpR X (binaryOp .FloorDiv) (rI CDiv fun i j => .int (i / j)) := opI fun i j _ _ _ _ _ hc q => by
  have h1 : (0 : Int) < j := hc.1
  have h2 : j < 1073741824 := hc.2
  exact floordiv_int (by (first | lia | omega)) (by rw [Int.fdiv_eq_ediv_of_nonneg i (by (first | lia | omega))]; exact q) (.inl (PyProof.noPylong_small (by (first | lia | omega))))
theorem op_mod : OpR X (binaryOp .Mod) (rI (fun _ j => 0 < j) fun i j => .int (i % j)) := opI fun i j _ _ _ _ _ hc q => by
  have h1 : (0 : Int) < j := hc
  exact mod_int' (by (first | lia | omega)) (by rw [Int.fmod_eq_emod_of_nonneg i (by (first | lia | omega))]; exact q)
theorem op_pow : OpR X (binaryOp .Pow) (rI CPow fun i j => .int (i ^ j.toNat)) := opI fun _ _ _ _ _ _ _ hc q => pow_int_small hc.1 hc.2.1 hc.2.2 q
theorem op_shr : OpR X (binaryOp .RShift) (rI (fun _ j => 0 ≤ j) fun i j => .int (i / 2 ^ j.toNat)) := opI fun i j _ _ _ _ _ hc q =>
  rshift_int hc (by rw [Int.fdiv_eq_ediv_of_nonneg i (two_pow_nn _)]; exact q)
theorem unI {f : Value → Sem Value} {g : Int → Int}
    (rule : ∀ (i : Int) (t : Tok) (s : Shared) (Q : Value → Shared → Prop) (E : Value → Shared → Prop), Q (.int (g i) s.toks) { s with toks := s.toks + 1 } → wpAny (model X.prog X.w) X.A (f (.int i t)) Q E s) :
    UnR X f (rU fun i => .int (g i)) := by
  intro pins s σ H x v Q I rx h
  obtain ⟨i, rfl, q⟩ := h
  obtain ⟨t, rfl⟩ := rx
  exact rule i t s _ _ ⟨.int (g i), H, I.tok _, ⟨_, rfl⟩, q⟩
theorem un_neg : UnR X (unaryOp .USub) (rU fun i => .int (-i)) := unI fun _ _ _ _ _ q => neg_int q
end

def scal : V → V → Bool
  | .non, .non => true | .non, .int _ => true | .int _, .non => true | .non, .bl _ => true | .bl _, .non => true | .non, .str _ => true | .str _, .non => true
  | .int _, .int _ => true | .bl _, .bl _ => true | .str _, .str _ => true | .byt _, .byt _ => true
  | .int _, .str _ => true | .str _, .int _ => true | .bl _, .str _ => true | .str _, .bl _ => true
  | _, _ => false
def rEq : R2 := fun x y H Q => scal x y = true ∧ Q (.bl (decide (x = y))) H
def rNe : R2 := fun x y H Q => scal x y = true ∧ Q (.bl (!decide (x = y))) H

theorem dec_int {i j : Int} : decide (V.int i = V.int j) = (i == j) := by
  rw [Bool.eq_iff_iff]
  simp
theorem dec_bl {i j : Bool} : decide (V.bl i = V.bl j) = (i == j) := by
  rw [Bool.eq_iff_iff]
  simp
theorem dec_str {i j : Str} : decide (V.str i = V.str j) = (i == j) := by
  rw [Bool.eq_iff_iff]
  simp
theorem dec_byt {i j : Array UInt8} : decide (V.byt i = V.byt j) = (i.toList == j.toList) := by
  rw [Bool.eq_iff_iff]
  cases i
  cases j
  simp

section
variable {X : Cx} {a b c : Expr} {ta tb tc : TE} {pos : Pos}
theorem fin_bl {pins : List (Addr × Obj)} {σ : St} {H : Hp} {s : Shared} {Q : VK} {k k' : Bool} (I : Inv X pins σ H s) (q : Q (.bl k) H) (e : k = k') : EP X pins σ Q (.bool k') s := by
  subst e
  exact ⟨.bl k, H, I, rfl, q⟩
theorem op_eq : OpR X (compareOp .Eq) rEq := by
  intro pins s σ H x y v u Q I rx ry h
  obtain ⟨hs, q⟩ := h
  cases x with
  | non =>
    cases rx
    cases y with
    | non => cases ry; exact PySem.EqNone.eq_none_none (fin_bl I q (by simp))
    | bl j => cases ry; exact PySem.EqNone.eq_none_bool (fin_bl I q (by simp))
    | int j => obtain ⟨t', rfl⟩ := ry; exact PySem.EqNone.eq_none_int (fin_bl I q (by simp))
    | str j => obtain ⟨t', rfl⟩ := ry; exact PySem.EqNone.eq_none_str (fin_bl I q (by simp))
    | _ => exact absurd (show false = true from hs) Bool.false_ne_true
  | bl i =>
    cases rx
    cases y with
    | non => cases ry; exact PySem.EqNone.eq_bool_none (fin_bl I q (by simp))
    | bl j => cases ry; exact eq_bool (fin_bl I q dec_bl)
    | str j => obtain ⟨t', rfl⟩ := ry; exact PySem.EqMixed.eq_bool_str (fin_bl I q (by simp))
    | _ => exact absurd (show false = true from hs) Bool.false_ne_true
  | int i =>
    obtain ⟨t, rfl⟩ := rx
    cases y with
    | non => cases ry; exact PySem.EqNone.eq_int_none (fin_bl I q (by simp))
    | int j => obtain ⟨t', rfl⟩ := ry; exact eq_int (fin_bl I q dec_int)
    | str j => obtain ⟨t', rfl⟩ := ry; exact PySem.EqMixed.eq_int_str (fin_bl I q (by simp))
    | _ => exact absurd (show false = true from hs) Bool.false_ne_true
  | str i =>
    obtain ⟨t, rfl⟩ := rx
    cases y with
    | non => cases ry; exact PySem.EqNone.eq_str_none (fin_bl I q (by simp))
    | bl j => cases ry; exact PySem.EqMixed.eq_str_bool (fin_bl I q (by simp))
    | int j => obtain ⟨t', rfl⟩ := ry; exact PySem.EqMixed.eq_str_int (fin_bl I q (by simp))
    | str j => obtain ⟨t', rfl⟩ := ry; exact eq_str (fin_bl I q dec_str)
    | _ => exact absurd (show false = true from hs) Bool.false_ne_true
  | byt i =>
    obtain ⟨t, rfl⟩ := rx
    cases y with
    | byt j => obtain ⟨t', rfl⟩ := ry; exact PySem.W.eq_bytes (fin_bl I q dec_byt)
    | _ => exact absurd (show false = true from hs) Bool.false_ne_true
  | _ => cases y <;> exact absurd (show false = true from hs) Bool.false_ne_true
theorem op_ne : OpR X (compareOp .NotEq) rNe := by
  intro pins s σ H x y v u Q I rx ry h
  obtain ⟨hs, q⟩ := h
  cases x with
  | non =>
    cases rx
    cases y with
    | non => cases ry; exact PySem.EqNone.ne_none_none (fin_bl I q (by simp))
    | bl j => cases ry; exact PySem.EqNone.ne_none_bool (fin_bl I q (by simp))
    | int j => obtain ⟨t', rfl⟩ := ry; exact PySem.EqNone.ne_none_int (fin_bl I q (by simp))
    | str j => obtain ⟨t', rfl⟩ := ry; exact PySem.EqNone.ne_none_str (fin_bl I q (by simp))
    | _ => exact absurd (show false = true from hs) Bool.false_ne_true
  | bl i =>
    cases rx
    cases y with
    | non => cases ry; exact PySem.EqNone.ne_bool_none (fin_bl I q (by simp))
    | bl j => cases ry; exact ne_bool (fin_bl I q (congrArg not dec_bl))
    | str j => obtain ⟨t', rfl⟩ := ry; exact PySem.EqMixed.ne_bool_str (fin_bl I q (by simp))
    | _ => exact absurd (show false = true from hs) Bool.false_ne_true
  | int i =>
    obtain ⟨t, rfl⟩ := rx
    cases y with
    | non => cases ry; exact PySem.EqNone.ne_int_none (fin_bl I q (by simp))
    | int j => obtain ⟨t', rfl⟩ := ry; exact ne_int (fin_bl I q (congrArg not dec_int))
    | str j => obtain ⟨t', rfl⟩ := ry; exact PySem.EqMixed.ne_int_str (fin_bl I q (by simp))
    | _ => exact absurd (show false = true from hs) Bool.false_ne_true
  | str i =>
    obtain ⟨t, rfl⟩ := rx
    cases y with
    | non => cases ry; exact PySem.EqNone.ne_str_none (fin_bl I q (by simp))
    | bl j => cases ry; exact PySem.EqMixed.ne_str_bool (fin_bl I q (by simp))
    | int j => obtain ⟨t', rfl⟩ := ry; exact PySem.EqMixed.ne_str_int (fin_bl I q (by simp))
    | str j => obtain ⟨t', rfl⟩ := ry; exact ne_str (fin_bl I q (congrArg not dec_str))
    | _ => exact absurd (show false = true from hs) Bool.false_ne_true
  | byt i =>
    obtain ⟨t, rfl⟩ := rx
    cases y with
    | byt j => obtain ⟨t', rfl⟩ := ry; exact PySem.W.ne_bytes (fin_bl I q (congrArg not dec_byt))
    | _ => exact absurd (show false = true from hs) Bool.false_ne_true
  | _ => cases y <;> exact absurd (show false = true from hs) Bool.false_ne_true

theorem op_lt : OpR X (compareOp .Lt) (rI0 fun i j => .bl (decide (i < j))) := opB0 fun _ _ _ _ _ _ _ q => lt_int q
theorem op_le : OpR X (compareOp .LtE) (rI0 fun i j => .bl (decide (i ≤ j))) := opB0 fun _ _ _ _ _ _ _ q => le_int q
theorem op_gt : OpR X (compareOp .Gt) (rI0 fun i j => .bl (decide (j < i))) := opB0 fun _ _ _ _ _ _ _ q => gt_int q
theorem op_ge : OpR X (compareOp .GtE) (rI0 fun i j => .bl (decide (j ≤ i))) := opB0 fun _ _ _ _ _ _ _ q => ge_int q
theorem op_in_str : OpR X (compareOp .In) (fun x y H Q => ∃ i j, x = .str i ∧ y = .str j ∧ Q (.bl (!(Builtin.Str.occurrences j i 0 j.length 1).isEmpty)) H) := by
  intro pins s σ H x y v u Q I rx ry h
  obtain ⟨i, j, rfl, rfl, q⟩ := h
  obtain ⟨t, rfl⟩ := rx
  obtain ⟨t', rfl⟩ := ry
  exact in_str (fin_bl I q rfl)

theorem op_isN : OpR X (compareOp .Is) (fun x y H Q => y = .non ∧ Q (.bl (decide (x = .non))) H) := by
  intro pins s σ H x y v u Q I rx ry h
  obtain ⟨rfl, q⟩ := h
  cases ry
  refine is_none_gen (fin_bl I q ?_)
  cases x <;> first
    | (cases rx; rfl)
    | (obtain ⟨t, rfl⟩ := rx; rfl)
theorem op_notN : OpR X (compareOp .IsNot) (fun x y H Q => y = .non ∧ Q (.bl (!decide (x = .non))) H) := by
  intro pins s σ H x y v u Q I rx ry h
  obtain ⟨rfl, q⟩ := h
  cases ry
  refine isnot_none_gen (fin_bl I q ?_)
  cases x <;> first
    | (cases rx; rfl)
    | (obtain ⟨t, rfl⟩ := rx; rfl)

theorem nomark (b : Expr) {op : CmpOp} (h : op ≠ .In := by decide) (h2 : op ≠ .NotIn := by decide) : behindInMarks op b = false := by
  have e1 : (op == CmpOp.In) = false := by cases op <;> first | rfl | exact absurd rfl h
  have e2 : (op == CmpOp.NotIn) = false := by cases op <;> first | rfl | exact absurd rfl h2
  cases b <;> simp [behindInMarks, e1, e2]
theorem pe_cmpR {op : CmpOp} {r : R2} (ho : OpR X (compareOp op) r) (ha : PE X a ta) (hb : PE X b tb) (hm : behindInMarks op b = false) : PE X (.Compare a [op] [b] pos) (tOp r ta tb) := by
  intro pins s σ H Q I h
  exact wpAny_Compare1 (binT ha hb I h fun v u s2 x y H2 I2 rx ry q => ho pins s2 σ H2 x y v u Q I2 rx ry q) hm
def tTest (t : TE) : TT := fun σ H Q => t σ H fun x H' => ∃ k, x = .bl k ∧ Q k H'
theorem pt_cmpR {op : CmpOp} {r : R2} (ho : OpR X (compareOp op) r) (ha : PE X a ta) (hb : PE X b tb) (hm : behindInMarks op b = false) : PT X (.Compare a [op] [b] pos) (tTest (tOp r ta tb)) := by
  intro pins s σ H Q I h
  refine wpAny_isTrue_Compare1 (thn (ha pins s σ H _ I h) fun v s1 ⟨x, H1, I1, r1, q1⟩ => thn (hb pins s1 σ H1 _ I1 q1) fun u s2 ⟨y, H2, I2, r2, q2⟩ =>
    thn (ho pins s2 σ H2 x y v u _ I2 r1 r2 q2) fun c s3 ⟨z, H3, I3, r3, k, e, q3⟩ => ?_) hm
  subst e
  cases r3
  exact wpAny_truthy_bool ⟨H3, I3, q3⟩
theorem line63 : (sizeLine : Nat) < 2 ^ 63 := by rw [sizeLine_eq]; decide
theorem op_add_str : OpR X (binaryOp .Add) (fun x y H Q => ∃ i j, x = .str i ∧ y = .str j ∧ i.length + j.length ≤ sizeLine ∧ Q (.str (i ++ j)) H) := by
  intro pins s σ H x y v u Q I rx ry h
  obtain ⟨i, j, rfl, rfl, hz, q⟩ := h
  obtain ⟨t, rfl⟩ := rx
  obtain ⟨t', rfl⟩ := ry
  exact add_str (fun t' tk => ⟨.str (i ++ j), H, I.tok _, ⟨_, rfl⟩, q⟩) hz
theorem vals1 {x : V} {us : List Value} (r : Vals [x] us) : ∃ u, us = [u] ∧ RelV x u := by
  cases r with
  | cons r1 r2 => cases r2; exact ⟨_, rfl, r1⟩
theorem vals2 {x y : V} {us : List Value} (r : Vals [x, y] us) : ∃ u w', us = [u, w'] ∧ RelV x u ∧ RelV y w' := by
  cases r with
  | cons r1 r2 =>
    cases r2 with
    | cons r3 r4 => cases r4; exact ⟨_, _, rfl, r1, r3⟩
theorem call_max2 (hc : X.calm = true) : CallR X (.builtin "max") (fun xs H Q => ∃ i j, xs = [.int i, .int j] ∧ Q (.int (if j > i then j else i)) H) := by
  intro pins s σ H xs us Q I r h
  obtain ⟨i, j, rfl, q⟩ := h
  obtain ⟨u, w', rfl, ⟨t, rfl⟩, ⟨t', rfl⟩⟩ := vals2 r
  refine max_two_ints (I.ok.hd hc) fun h' tk k => ⟨_, H, I.kept k, ?_, q⟩
  by_cases hj : j > i
  · rw [if_pos hj, if_pos hj]; exact ⟨_, rfl⟩
  · rw [if_neg hj, if_neg hj]; exact ⟨_, rfl⟩
theorem call_min2 (hc : X.calm = true) : CallR X (.builtin "min") (fun xs H Q => ∃ i j, xs = [.int i, .int j] ∧ Q (.int (if j < i then j else i)) H) := by
  intro pins s σ H xs us Q I r h
  obtain ⟨i, j, rfl, q⟩ := h
  obtain ⟨u, w', rfl, ⟨t, rfl⟩, ⟨t', rfl⟩⟩ := vals2 r
  refine min_two_ints (I.ok.hd hc) fun h' tk k => ⟨_, H, I.kept k, ?_, q⟩
  by_cases hj : j < i
  · rw [if_pos hj, if_pos hj]; exact ⟨_, rfl⟩
  · rw [if_neg hj, if_neg hj]; exact ⟨_, rfl⟩
theorem call_int1 : CallR X (.type "int") (fun xs H Q => (∃ i, xs = [.int i] ∧ Q (.int i) H) ∨ ∃ k, xs = [.bl k] ∧ Q (.int (if k then 1 else 0)) H) := by
  intro pins s σ H xs us Q I r h
  rcases h with ⟨i, rfl, q⟩ | ⟨k, rfl, q⟩
  · obtain ⟨u, rfl, t, rfl⟩ := vals1 r
    exact call_int_int ⟨.int i, H, I, ⟨_, rfl⟩, q⟩
  · obtain ⟨u, rfl, r1⟩ := vals1 r
    cases r1
    exact call_int_bool ⟨.int (if k then 1 else 0), H, I.tok _, ⟨_, rfl⟩, q⟩
theorem call_str_int : CallR X (.type "str") (fun xs H Q => ∃ i, xs = [.int i] ∧ i.natAbs.log2 < 1920 ∧ Q (.str (toString i)) H) := by
  intro pins s σ H xs us Q I r h
  obtain ⟨i, rfl, hz, q⟩ := h
  obtain ⟨u, rfl, t, rfl⟩ := vals1 r
  exact PySem.P.str_of_int hz ⟨.str _, H, I.tok _, ⟨_, rfl⟩, q⟩
end
end L2

namespace L2
open PySem PySem.Spec PyProof.Rows

structure ObjM (h : Heap) (x dx C : Addr) (mA : Str → Option Value) : Prop where
  obj : h.get? x = some (PySem.W.instObj C dx)
  ns : h.Ns1 dx mA
  ne : dx ≠ x

theorem lookIn_ns {h : Heap} {dx : Addr} {mA : Str → Option Value} (n : h.Ns1 dx mA) : ∃ od, h.get? dx = some od ∧ ∀ name, PySem.W.lookIn name od = some (mA name) := by
  obtain ⟨o, es, ep, ho, hd, hk, _, hm⟩ := n
  refine ⟨o, ho, fun name => ?_⟩
  have e := hm name
  unfold nsFind findBy at e
  rw [← Array.find?_toList] at e
  unfold PySem.W.lookIn
  rw [hd]
  dsimp only
  split
  · rename_i y q
    rw [q] at e
    exact congrArg some e
  · rename_i q
    rw [q] at e
    have a : es.toList.any (·.refKey) = false := by
      rw [List.any_eq_false]
      intro y hy
      obtain ⟨z, t, hkey⟩ := hk y (Array.mem_toList_iff.mp hy)
      simp [DictEntry.refKey, hkey]
    have a' : ¬ es.toList.any (·.refKey) = true := by rw [a]; exact Bool.false_ne_true
    rw [if_neg a']
    exact congrArg some e

theorem ObjM.look {h : Heap} {x dx C : Addr} {mA : Str → Option Value} (I : ObjM h x dx C mA) : ∃ od, PySem.W.InstAt h x (PySem.W.instObj C dx) C (some od) ∧ ∀ name, PySem.W.lookIn name od = some (mA name) :=
  let ⟨od, ho, hl⟩ := lookIn_ns I.ns
  ⟨od, ⟨I.obj, rfl, rfl, ho⟩, hl⟩

section
variable {prog : Program} {w : World} {A : Around} {E : Value → Shared → Prop} {s : Shared} {K : PySem.W.Frag} {x dx C f : Addr} {mA : Str → Option Value} {name : Str} {v : Value}

end

theorem RelO.some_of {v : V} {o : Option Value} (r : RelO (some v) o) : ∃ u, o = some u ∧ RelV v u := by
  cases o with
  | none => exact (show False from r).elim
  | some u => exact ⟨u, rfl, r⟩
theorem handed_of {v : V} {u : Value} (r : RelV v u) : PySem.W.handedIn u = true := by
  cases v with
  | non => cases (show u = Value.none from r); rfl
  | bl b => cases (show u = Value.bool b from r); rfl
  | int i => obtain ⟨t, e⟩ := (show ∃ t, u = Value.int i t from r); cases e; rfl
  | str x => obtain ⟨t, e⟩ := (show ∃ t, u = Value.str x t from r); cases e; rfl
  | byt b => obtain ⟨t, e⟩ := (show ∃ t, u = Value.bytes b t from r); cases e; rfl
  | flt b => obtain ⟨t, e⟩ := (show ∃ t, u = Value.float b t from r); cases e; rfl
  | ref a => cases (show u = Value.ref a from r); rfl
  | ty n => cases (show u = Value.type n from r); rfl

section
variable {P : Program} {w : World} {H H' : Hp} {h h' : Heap} {a C dx : Addr} {fs fs' : List (Str × V)}
theorem ins_get (hok : HOk P w H h) (e : H a = some (.ins C dx fs)) : ∃ mA, ObjM h a dx C mA ∧ (∀ f, RelO (fs.lookup f) (mA f)) ∧ PySem.Within mA (fs.map (·.1)) ∧ fs.length ≤ 1000 ∧ H dx = some (.own a) := by
  obtain ⟨d, z, ne, ob, mA, n, r, q⟩ := (show ObjOk P w H h a (.ins C dx fs) from hok a _ e)
  exact ⟨mA, ⟨ob, n, ne⟩, r, q, z, d⟩
end

structure Cls (K : PySem.W.Frag) (C : Addr) : Prop where
  pg : PySem.W.plainGet K C Str.empty = true
  hd : PySem.W.hasDictIn K C = true
  po : PySem.W.plainOver K C = true
  sa : PySem.W.findIn K (.ref C) "__setattr__" = some (some (.builtin "object.__setattr__"))
theorem Cls.get {K : PySem.W.Frag} {C : Addr} (c : Cls K C) (f : Str) : PySem.W.plainGet K C f = true := c.pg
section
variable {X : Cx} {pins : List (Addr × Obj)} {σ : St} {H : Hp} {s : Shared} {a C dx : Addr} {fs : List (Str × V)} {f : Str} {v : V} {A : Around} {E : Value → Shared → Prop}

theorem attr_of {prog : Program} {w : World} {env : Env} {e : Expr} {f : Str} {pos : Pos} {s : Shared} {Q : Value → Shared → Prop} (hb : attributeBase e f env (eval e env) = eval e env)
    (h : wpAny (model prog w) A (eval e env) (fun o s₁ => wpAny (model prog w) A (getAttr o f true) Q E s₁) E s) : wpAny (model prog w) A (eval (.Attribute e f pos) env) Q E s :=
  Attribute_any_ h (by rw [arm_eval_Attribute, hb])
end

section
variable {X : Cx} {o e value : Expr} {f : Str} {pos pos' tpos : Pos} {ta tv : TE}
end

section
variable {X : Cx} {pins : List (Addr × Obj)} {σ : St} {H : Hp} {s : Shared} {A : Around} {E : Value → Shared → Prop} {Q : Value → Shared → Prop} {c : Value} {b : Bool}
inductive TyOf (K : PySem.W.Frag) (H : Hp) : V → Value → Prop where
  | non : TyOf K H .non (.type "NoneType")
  | bl (x : Bool) : TyOf K H (.bl x) (.type "bool")
  | int (i : Int) : TyOf K H (.int i) (.type "int")
  | str (x : Str) : TyOf K H (.str x) (.type "str")
  | flt (x : UInt64) : TyOf K H (.flt x) (.type "float")
  | lst {a : Addr} {xs : List V} (e : H a = some (.lst xs)) : TyOf K H (.ref a) (.type "list")
  | frz {a : Addr} {o : Obj} {xs : List V} (e : H a = some (.frz o (.lst xs))) : TyOf K H (.ref a) (.type "list")
  | tup {a : Addr} {xs : List V} (e : H a = some (.tup xs)) : TyOf K H (.ref a) (.type "tuple")
  | dK {a : Addr} {kvs : List (Key × V)} (e : H a = some (.dK kvs)) : TyOf K H (.ref a) (.type "dict")
  | dT {a : Addr} {kvs : List (List Key × V)} (e : H a = some (.dT kvs)) : TyOf K H (.ref a) (.type "dict")
  | ins {a C dx : Addr} {fs : List (Str × V)} (e : H a = some (.ins C dx fs)) (cl : Cls K C) (ha : PySem.W.findIn K (.ref C) "__class__" = some (some (.builtin "object.__class__")))
      (hn : PySem.W.specialIn K (.builtin "object.__class__") "__get__" = some (some (.builtin "getset_descriptor.__get__"))) (htk : PySem.W.takesIn K (.builtin "object.__class__") = some true)
      (hm : PySem.W.mroIn K C (.type "object") = some true) : TyOf K H (.ref a) (.ref C)
theorem isinst_ok {x : V} {u t : Value} (I : Inv X pins σ H s) (rx : RelV x u) (ty : TyOf X.K H x t) (e : PySem.W.kitOne X.K t c = some b) (h : ∀ tk, Q (.bool b) { s with toks := tk }) :
    wpAny (model X.prog X.w) A (call (.builtin "isinstance") [u, c]) Q E s := by
  cases ty with
  | non => cases (show u = Value.none from rx); exact PySem.W.kia_one PySem.W.kitx_none I.kIn True.intro e (fun z => nomatch z) h
  | bl y => cases (show u = Value.bool y from rx); exact PySem.W.kia_one PySem.W.kitx_bool I.kIn True.intro e (fun z => nomatch z) h
  | int i => obtain ⟨t, q⟩ := (show ∃ t, u = Value.int i t from rx); cases q; exact PySem.W.kia_one PySem.W.kitx_int I.kIn True.intro e (fun z => nomatch z) h
  | str y => obtain ⟨t, q⟩ := (show ∃ t, u = Value.str y t from rx); cases q; exact PySem.W.kia_one PySem.W.kitx_str I.kIn True.intro e (fun z => nomatch z) h
  | flt y => obtain ⟨t, q⟩ := (show ∃ t, u = Value.float y t from rx); cases q; exact PySem.W.kia_one PySem.W.kitx_float I.kIn True.intro e (fun z => nomatch z) h
  | @lst a xs ea =>
    cases (show u = Value.ref a from rx)
    obtain ⟨_, _, n, _, h1⟩ := (show ObjOk X.prog X.w H s.heap a (.lst xs) from I.hok a _ ea)
    exact PySem.W.kia_one PySem.W.kitx_list I.kIn ⟨_, h1, rfl⟩ e (fun z => nomatch z) h
  | @frz a ob xs ea =>
    cases (show u = Value.ref a from rx)
    obtain ⟨_, _, _, n, _, h1⟩ := (show ObjOk X.prog X.w H s.heap a (.frz ob (.lst xs)) from I.hok a _ ea)
    exact PySem.W.kia_one PySem.W.kitx_list I.kIn ⟨_, h1, rfl⟩ e (fun z => nomatch z) h
  | @tup a xs ea =>
    cases (show u = Value.ref a from rx)
    obtain ⟨_, _, _, p⟩ := (show ObjOk X.prog X.w H s.heap a (.tup xs) from I.hok a _ ea)
    obtain ⟨o, h1, h2, _⟩ := p
    exact PySem.W.kia_one PySem.W.kitx_tuple I.kIn ⟨o, h1, h2⟩ e (fun z => nomatch z) h
  | @dK a kvs ea =>
    cases (show u = Value.ref a from rx)
    obtain ⟨_, _, vs, _, p⟩ := (show ObjOk X.prog X.w H s.heap a (.dK kvs) from I.hok a _ ea)
    obtain ⟨o, es, ep, h1, h2, _⟩ := p
    exact PySem.W.kia_one PySem.W.kitx_dict I.kIn ⟨o, h1, h2.1⟩ e (fun z => nomatch z) h
  | @dT a kvs ea =>
    cases (show u = Value.ref a from rx)
    obtain ⟨_, _, xs, _, o, es, ep, h1, h2, _⟩ := (show ObjOk X.prog X.w H s.heap a (.dT kvs) from I.hok a _ ea)
    exact PySem.W.kia_one PySem.W.kitx_dict I.kIn ⟨o, h1, h2.1⟩ e (fun z => nomatch z) h
  | @ins a C dx fs ea cl ha hn htk hm =>
    cases (show u = Value.ref a from rx)
    obtain ⟨mA, O, _⟩ := ins_get I.hok ea
    obtain ⟨od, J, _⟩ := O.look
    exact PySem.W.kia_one (PySem.W.kitx_own (cl.get _) cl.hd ha hn htk hm) I.kIn J e (fun z => nomatch z) h
end
end L2

namespace L2
open PySem PySem.Spec PyProof.Rows

structure Room (k : Nat) (A : Around) : Prop where
  hd : A.handled = none
  dp : A.depth + 3 * k + 5 < recursionLimit
  un : A.units + 16 * k + 200 < cLine
theorem Room.mono {j k : Nat} {A : Around} (r : Room k A) (h : j ≤ k) : Room j A := ⟨r.hd, by have := r.dp; (first | lia | omega), by have := r.un; (first | lia | omega)⟩
theorem Room.deeper {k : Nat} {A : Around} (r : Room (k + 1) A) (env : Env) : Room k (A.deeper env) :=
  ⟨r.hd, by have := r.dp; show A.depth + 1 + 3 * k + 5 < _; (first | lia | omega), by have := r.un; show A.units + 3 + 16 * k + 200 < _; (first | lia | omega)⟩
theorem make_depth {A : Around} {C : Addr} {us : List Value} {kw : List (Str × Value)} : (A.under (.builtin "type.__call__" ⟨.ref C :: us, kw⟩)).depth = A.depth + 1 := by
  first | rfl | simp [Around.under, Code.weight, Code.isCreation, Code.isGuard, Code.isCaller, Code.frames, Code.isFrame, guardIds]
theorem make_units {A : Around} {C : Addr} {us : List Value} {kw : List (Str × Value)} : (A.under (.builtin "type.__call__" ⟨.ref C :: us, kw⟩)).units = A.units + 1 := by
  first | rfl | simp [Around.under, Code.cUnits, Code.frames, Code.isFrame]
theorem Room.make {k : Nat} {A : Around} (r : Room (k + 1) A) (C : Addr) (us : List Value) (kw : List (Str × Value)) : Room k (A.under (.builtin "type.__call__" ⟨.ref C :: us, kw⟩)) :=
  ⟨r.hd, by have := r.dp; rw [make_depth]; (first | lia | omega), by have := r.un; rw [make_units]; (first | lia | omega)⟩
theorem Room.depth {k : Nat} {A : Around} (r : Room k A) : A.depth < recursionLimit := by have := r.dp; (first | lia | omega)
theorem Room.units {k : Nat} {A : Around} (r : Room k A) : A.units + 64 < cLine := by have := r.un; (first | lia | omega)
def tNil : TA := fun _ H Q => Q [] H
def tCons (ta : TE) (tr : TA) : TA := fun σ H Q => ta σ H fun x H1 => tr σ H1 fun xs H2 => Q (x :: xs) H2
section
variable {X : Cx} {e : Expr} {es : List Expr} {te : TE} {t : TA} {pos : Pos}
theorem pa_nil : PA X [] tNil := fun _ _ _ _ H Q I h => Calls.spliced_nil ⟨[], H, I, .nil, h⟩
theorem pa_cons (ha : PE X e te) (hr : PA X es t) (hs : starEach (e :: es) X.env = (false, eval e X.env) :: starEach es X.env := by rfl) : PA X (e :: es) (tCons te t) := by
  intro pos pins s σ H Q I h
  rw [hs]
  show wpAny _ _ (spliced ((false, eval e X.env) :: backTo pos (starEach es X.env))) _ _ s
  refine Calls.spliced_cons (thn (ha pins s σ H _ I h) fun u s1 ⟨x, H1, I1, r1, q1⟩ => ?_)
  exact thn (hr pos pins s1 σ H1 _ I1 q1) fun us s2 ⟨xs, H2, I2, r2, q2⟩ => ⟨x :: xs, H2, I2, .cons r1 r2, q2⟩

def tTup (t : TA) : TE := fun σ H Q => t σ H fun xs H1 => xs.length ≤ sizeLine ∧ ∀ p, H1 p = none → Q (.ref p) (upd H1 p (.tup xs))
def tLst (t : TA) : TE := fun σ H Q => t σ H fun xs H1 => xs.length ≤ sizeLine ∧ ∀ p, H1 p = none → Q (.ref p) (upd H1 p (.lst xs))
theorem pe_tup {x1} (h : PA X es t) : PE X (.Tuple es x1 pos) (tTup t) := by
  intro pins s σ H Q I hq
  refine wpAny_Tuple_spliced (thn (h pos pins s σ H _ I hq) fun us s1 ⟨xs, H1, I1, r, z, q⟩ => ⟨by rw [← r.length]; exact z, ?_⟩)
  have hf : H1 s1.heap.objs.size = none := I1.hok.fresh (Nat.le_refl _)
  refine ⟨.ref s1.heap.objs.size, upd H1 s1.heap.objs.size (.tup xs), I1.laid (t' := s1.toks) (fun b u e => Heap.get?_push_of_some _ e) (Nat.le_refl _) ?_, rfl, q _ hf⟩
  exact ⟨z, us, r, ⟨_, Heap.get?_push_size _ rfl, rfl, _, rfl⟩⟩
theorem pe_lst (h : PA X es t) : PE X (.List es pos) (tLst t) := by
  intro pins s σ H Q I hq
  refine wpAny_List_spliced (thn (h pos pins s σ H _ I hq) fun us s1 ⟨xs, H1, I1, r, z, q⟩ => ⟨by rw [← r.length]; exact z, ?_⟩)
  have hf : H1 s1.heap.objs.size = none := I1.hok.fresh (Nat.le_refl _)
  refine ⟨.ref s1.heap.objs.size, upd H1 s1.heap.objs.size (.lst xs), I1.laid (t' := s1.toks) (fun b u e => Heap.get?_push_of_some _ e) (Nat.le_refl _) ?_, rfl, q _ hf⟩
  exact ⟨z, us, 0, r, Heap.get?_push_size _ rfl⟩
end

abbrev Sp := List V → Hp → VK → XK → Prop
abbrev CXT := List Env → Hp → Shared → XK → Value → Shared → Prop

structure Env0 (P : Program) (w : World) (K : PySem.W.Frag) (mg : Str → Option Value) (base : Heap) (A : Around) (outer : List Env) (s : Shared) (H : Hp) : Prop where
  frames : A.frames = some outer
  mod : Mod K mg base
  bs : ∀ b o, base.get? b = some o → s.heap.get? b = some o ∧ H b = none
  bsz : base.objs.size ≤ s.heap.objs.size
  funs : s.heap.FunFrames base outer
  frf : ∀ b ∈ frs outer, H b = none
  hok : HOk P w H s.heap
  bare : AllBare s.gens
def CE (outer : List Env) (P : Program) (w : World) (H : Hp) (s : Shared) (Q : VK) (u : Value) (s' : Shared) : Prop :=
  ∃ v H', s'.os = s.os ∧ AllBare s'.gens ∧ Un (frs outer) [] H H' s.heap s'.heap ∧ HOk P w H' s'.heap ∧ RelV v u ∧ Q v H'
def CR (CX : CXT) (outer : List Env) (P : Program) (w : World) (H : Hp) (s : Shared) (Q : VK) (E : XK) (r : Result) (s' : Shared) : Prop :=
  match r with
  | .ok (.ret u) => CE outer P w H s Q u s'
  | .ok _ => False
  | .error e => CX outer H s E e s'
structure FnOk (P : Program) (w : World) (K : PySem.W.Frag) (mg : Str → Option Value) (base : Heap) (CX : CXT) (k : Nat) (f : Addr) (fd : FuncData) (ps : List Str) (sp : Sp) : Prop where
  len : ∀ vs H Q E, sp vs H Q E → vs.length = ps.length
  run : ∀ (A : Around) (outer : List Env) (s : Shared) (H : Hp) (args : Args) (us : List Value) (vs : List V) (Q : VK) (E : XK), Room k A → Env0 P w K mg base A outer s H → BindsTo s fd args (ps.zip us) → Vals vs us → sp vs H Q E →
    codeAny (model P w) A (.call (.ref f) args) (CR CX outer P w H s Q E) s
theorem Env0.make {P : Program} {w : World} {K : PySem.W.Frag} {mg : Str → Option Value} {base : Heap} {A : Around} {outer : List Env} {s : Shared} {H : Hp} (e : Env0 P w K mg base A outer s H) (C : Addr) (us : List Value) (kw : List (Str × Value)) :
    Env0 P w K mg base (A.under (.builtin "type.__call__" ⟨.ref C :: us, kw⟩)) outer s H := ⟨by first | exact e.frames | (simpa [Around.under, Code.envs, Code.isFrame, pushEnvs] using e.frames), e.mod, e.bs, e.bsz, e.funs, e.frf, e.hok, e.bare⟩
section
variable {X : Cx} {pins : List (Addr × Obj)} {σ : St} {H : Hp} {s s' : Shared}
theorem Inv.env0 (I : Inv X pins σ H s) : Env0 X.prog X.w X.K X.mg X.base X.A X.stack s H :=
  ⟨I.ok.frames, I.ok.mod, I.bs, Nat.le_trans I.ok.bsz I.sz, I.stack, I.stkFree, I.hok, I.bare⟩
theorem Inv.after {Q : VK} {u : Value} (I : Inv X pins σ H s) (h : CE X.stack X.prog X.w H s Q u s') : EP X pins σ Q u s' := by
  obtain ⟨v, H', os, bare, un, hok, r, q⟩ := h
  obtain ⟨hh, g, d, t, os'⟩ := s'
  obtain rfl : os' = s.os := os
  exact ⟨v, H', I.call (h' := hh) (g' := g) (d' := d) (t' := t) (ch := []) un hok bare (fun b z => absurd z (by simp)), r, q⟩
end

def tCall (sp : Sp) (dvs : List V) (E : XK) (t : TA) : TE := fun σ H Q => t σ H fun vs H1 => sp (vs ++ dvs) H1 Q E
def Binds (K : PySem.W.Frag) (fd : FuncData) (ps : List Str) (ds : List Value) : Prop :=
  ∀ (s : Shared) (us : List Value), K.In s.heap → (us ++ ds).length = ps.length → BindsTo s fd ⟨us, []⟩ (ps.zip (us ++ ds))
theorem Binds.all {K : PySem.W.Frag} {fd : FuncData} {ps : List Str} (h : ∀ us : List Value, us.length = ps.length → bindArgs fd ⟨us, []⟩ = pure (ps.zip us)) : Binds K fd ps [] := fun s us _ hl => by
  rw [List.append_nil] at hl ⊢
  exact .of_eq (h us hl)

def Passes (CX : CXT) (X : Cx) (E : XK) : Prop := ∀ (pins : List (Addr × Obj)) (σ : St) (H : Hp) (s : Shared) (e : Value) (s' : Shared), Inv X pins σ H s → CX X.stack H s E e s' → X.xe e s'

section
variable {X : Cx} {CX : CXT} {k : Nat} {f C : Addr} {fd : FuncData} {ps : List Str} {sp : Sp} {dvs : List V} {ds : List Value} {E : XK} {x m : Str} {p pos apos : Pos} {e o : Expr} {es : List Expr} {ta : TE} {t : TA}

theorem run_fn {pins : List (Addr × Obj)} {σ : St} {H : Hp} {s : Shared} {Q : VK} {us : List Value} {vs : List V} (F : FnOk X.prog X.w X.K X.mg X.base CX k f fd ps sp) (hr : Room k X.A) (hb : Binds X.K fd ps ds) (hd : Vals dvs ds) (hx : Passes CX X E)
    (I : Inv X pins σ H s) (r : Vals vs us) (h : sp (vs ++ dvs) H Q E) : wpAny (model X.prog X.w) X.A (call (.ref f) us) (EP X pins σ Q) X.xe s := by
  have r2 : Vals (vs ++ dvs) (us ++ ds) := r.append hd
  have hl : (us ++ ds).length = ps.length := by rw [← r2.length]; exact F.len _ _ _ _ h
  refine wpAny_call (codeAny_mono (F.run X.A X.stack s H ⟨us, []⟩ (us ++ ds) (vs ++ dvs) Q E hr I.env0 (hb s us I.kIn hl) r2 h) fun r s' hq => ?_)
  cases r with
  | error e => exact hx pins σ H s e s' I hq
  | ok fl =>
    cases fl with
    | ret u => exact I.after hq
    | next => exact False.elim hq
    | brk => exact False.elim hq
    | cont => exact False.elim hq

theorem pe_call (F : FnOk X.prog X.w X.K X.mg X.base CX k f fd ps sp) (hr : Room k X.A) (hg : Gl X x) (hm : X.mg x = some (.ref f)) (hk : PySem.W.keepIn X.K (.ref f) = true) (hb : Binds X.K fd ps ds) (hd : Vals dvs ds) (hx : Passes CX X E)
    (ha : PA X (e :: es) t) (hdb : (x == ("__debug__" : Str)) = false := by decide) (he : starEach (e :: es) X.env = (false, eval e X.env) :: starEach es X.env := by rfl) (hpl : (backTo pos (starEach es X.env)).any (·.1) = false := by rfl) :
    PE X (.Call (.Name x p) (e :: es) [] pos) (tCall sp dvs E t) := by
  intro pins s σ H Q I h
  refine wpAny_Call_Name_kw (ld_glob I hg hm ?_ hdb)
  refine PySem.W.callWith_K (h₀ := X.base) I.ok.mod.kin hk (thn (ha pos pins s σ H _ I h) fun us s1 ⟨vs, H1, I1, r, q⟩ => ⟨I1.kIn, ?_⟩) he hpl
  exact run_fn F hr hb hd hx I1 r q
end

section
variable {X : Cx} {CX : CXT} {k : Nat} {f C : Addr} {fd : FuncData} {ps ks : List Str} {sp : Sp} {E : XK} {x m : Str} {p pos apos kpos : Pos} {e o : Expr} {es : List Expr} {kws : List Keyword} {te ta : TE} {t tk : TA} {nm : Option Str}
variable {g : List Value → List Value → List Value} {gV : List V → List V → List V}
end

structure FnScope (N P : List Str) (sc : Scope) : Prop where
  kind : sc.kind = .function
  co : sc.isCoroutine = false
  gen : sc.isGenerator = false
  nd : N.Nodup
  pre : N.take P.length = P
  par : ∀ x ∈ P, sc.names.lookup x = some .local ∨ sc.names.lookup x = some .cell
  nofree : ∀ y ∈ sc.names, y.2 ≠ .free

theorem bindL_out {kindOf : Str → Option NameKind} {x : Str} : ∀ {binds : List (Str × Value)} {m : Str → Option Value}, (∀ v, (x, v) ∉ binds) → bindL kindOf binds m x = m x
  | [], _, _ => rfl
  | (n, v) :: r, m, h => by
    unfold bindL
    rw [bindL_out fun w hw => h w (List.mem_cons_of_mem _ hw)]
    split
    · have : x ≠ n := by rintro rfl; exact h v List.mem_cons_self
      simp [this]
    · rfl
theorem bindC_out {kindOf : Str → Option NameKind} {x : Str} : ∀ {binds : List (Str × Value)} {m : Str → Option Value}, (∀ v, (x, v) ∉ binds) → bindC kindOf binds m x = m x
  | [], _, _ => rfl
  | (n, v) :: r, m, h => by
    unfold bindC
    rw [bindC_out fun w hw => h w (List.mem_cons_of_mem _ hw)]
    split
    · rfl
    · have : x ≠ n := by rintro rfl; exact h v List.mem_cons_self
      simp [this]
theorem bindL_get {kindOf : Str → Option NameKind} {x : Str} {v : Value} : ∀ {P : List Str} {vs : List Value} {i : Nat} {m : Str → Option Value}, P.Nodup → P[i]? = some x → vs[i]? = some v → kindOf x = some .local →
    bindL kindOf (P.zip vs) m x = some v
  | [], _, _, _, _, h, _, _ => by simp at h
  | _ :: _, [], _, _, _, _, h, _ => by simp at h
  | p :: P, w :: vs, 0, m, nd, h1, h2, hk => by
    simp at h1 h2; subst h1; subst h2
    show bindL kindOf ((p, w) :: P.zip vs) m p = _
    unfold bindL
    rw [bindL_out fun v hv => (List.nodup_cons.mp nd).1 (List.of_mem_zip hv).1, if_pos hk]
    simp
  | p :: P, w :: vs, i + 1, m, nd, h1, h2, hk => by
    show bindL kindOf ((p, w) :: P.zip vs) m x = _
    unfold bindL
    exact bindL_get (i := i) (List.nodup_cons.mp nd).2 (by simpa using h1) (by simpa using h2) hk
theorem bindC_get {kindOf : Str → Option NameKind} {x : Str} {v : Value} : ∀ {P : List Str} {vs : List Value} {i : Nat} {m : Str → Option Value}, P.Nodup → P[i]? = some x → vs[i]? = some v → kindOf x ≠ some .local →
    bindC kindOf (P.zip vs) m x = some v
  | [], _, _, _, _, h, _, _ => by simp at h
  | _ :: _, [], _, _, _, _, h, _ => by simp at h
  | p :: P, w :: vs, 0, m, nd, h1, h2, hk => by
    simp at h1 h2; subst h1; subst h2
    show bindC kindOf ((p, w) :: P.zip vs) m p = _
    unfold bindC
    rw [bindC_out fun v hv => (List.nodup_cons.mp nd).1 (List.of_mem_zip hv).1, if_neg hk]
    simp
  | p :: P, w :: vs, i + 1, m, nd, h1, h2, hk => by
    show bindC kindOf ((p, w) :: P.zip vs) m x = _
    unfold bindC
    exact bindC_get (i := i) (List.nodup_cons.mp nd).2 (by simpa using h1) (by simpa using h2) hk

def start (N : List Str) (vs : List V) : St := vs.map some ++ List.replicate (N.length - vs.length) none

def cxOf (CX : CXT) (P : Program) (w : World) (K : PySem.W.Frag) (mg : Str → Option Value) (base : Heap) (N : List Str) (qual : Str) (scope : Scope) (f : Addr) (cd : Value) (A : Around) (outer : List Env) (s : Shared) (H : Hp) (E : XK) : Cx where
  prog := P
  w := w
  K := K
  mg := mg
  base := base
  A := A.deeper (envOfC qual scope s.heap.objs.size f cd)
  N := N
  s₀ := s
  H₀ := H
  env := envOfC qual scope s.heap.objs.size f cd
  outer := outer
  stack := envOfC qual scope s.heap.objs.size f cd :: outer
  ex := []
  calm := true
  fn := fun _ => true
  pn := []
  xe := fun e s' => wpAny (model P w) (A.deeper (envOfC qual scope s.heap.objs.size f cd)) (leaving (envOfC qual scope s.heap.objs.size f cd) e) (fun _ s'' => CX outer H s E e s'') (fun e' s'' => CX outer H s E e' s'') s'

theorem cell_has {sc : Scope} {n : Nat} {x : Str} (h : sc.names.lookup x = some .cell) : ∃ c, (cellsFrom n sc.names []).lookup x = some c := by
  have q := PySem.W.cellsFrom_some sc.names n [] (.inl h)
  exact Option.isSome_iff_exists.mp q

theorem inv_start {CX : CXT} {P : Program} {w : World} {K : PySem.W.Frag} {mg : Str → Option Value} {base : Heap} {N ps : List Str} {qual : Str} {scope : Scope} {f : Addr} {cd : Value} {A : Around} {outer : List Env} {s s1 : Shared} {H : Hp} {E : XK} {us : List Value} {vs : List V}
    (S : FnScope N ps scope) (hd : A.handled = none) (e0 : Env0 P w K mg base A outer s H) (hl : vs.length = ps.length) (r : Vals vs us)
    (x : InCallC s s.heap.objs.size (bindL (envOfC qual scope s.heap.objs.size f cd).kindOf (ps.zip us) fun _ => none) (cellsFrom (s.heap.objs.size + 1) scope.names []) (bindC (envOfC qual scope s.heap.objs.size f cd).kindOf (ps.zip us) fun _ => none) s1) :
    Inv (cxOf CX P w K mg base N qual scope f cd A outer s H E) [] (start N vs) H s1 := by
  have hpl : ps.length ≤ N.length := by have := congrArg List.length S.pre; rw [List.length_take] at this; (first | lia | omega)
  obtain ⟨h1, tk, rfl, hk⟩ := x.done
  have noA : ∀ b : Addr, b ∉ (cxOf CX P w K mg base N qual scope f cd A outer s H E).ex := fun b z => absurd (show b ∈ ([] : List Addr) from z) (by simp)
  refine ⟨⟨e0.mod, S.kind, rfl, rfl, Nat.le_refl _, fun y z c h1 h2 => ?_, fun y hy => ?_, fun y c _ h => ?_, fun _ => hd, Around.frames_deeper e0.frames, .inr ⟨rfl, rfl⟩, fun b z => absurd z (noA b), e0.bs, e0.bsz, fun b _ _ => noA b, fun b z => absurd z (noA b), e0.funs, e0.frf⟩,
    rfl, e0.bare, Un.kept hk, ⟨_, x.toInCall.ns, fun i y v h1 h2 h3 => ?_⟩, fun y c h => ⟨_, x.cell y c h⟩, e0.hok.fresh (Nat.le_refl _), fun y c h => ?_, fun p hp => absurd (show p ∈ ([] : List (Addr × Obj)) from hp) (by simp), e0.hok.kept hk, ?_⟩
  · exact name_of_addr x.apart (PySem.mem_of_lookup h1) (PySem.mem_of_lookup h2)
  · have hy : scope.names.lookup y = some .cell ∨ scope.names.lookup y = some .free := hy
    rcases hy with hy | hy
    · exact cell_has hy
    · exact absurd rfl (S.nofree _ (PySem.mem_of_lookup hy))
  · exact Nat.le_of_lt (x.above y c (PySem.mem_of_lookup h))
  · have hi : i < vs.length := by
      unfold start at h2
      by_cases hi : i < vs.length
      · exact hi
      · rw [List.getElem?_append_right (by simpa using hi)] at h2
        rw [List.getElem?_replicate] at h2
        split at h2 <;> cases h2
    have ha : vs[i]? = some v := by
      unfold start at h2
      rw [List.getElem?_append_left (by simpa using hi), List.getElem?_map] at h2
      cases e : vs[i]? with
      | none => rw [e] at h2; cases h2
      | some a => rw [e] at h2; cases h2; rfl
    obtain ⟨u, hu, rv⟩ := r.get ha
    have hp : ps[i]? = some y := by
      rw [← S.pre, List.getElem?_take_of_lt (by (first | lia | omega))]; exact h1
    have ndP : ps.Nodup := by rw [← S.pre]; exact S.nd.sublist (List.take_sublist _ _)
    refine ⟨u, rv, ?_⟩
    rcases S.par y (List.mem_of_getElem? hp) with k | k
    · exact .inl ⟨k, bindL_get ndP hp hu k⟩
    · obtain ⟨c, e⟩ := cell_has (n := s.heap.objs.size + 1) k
      refine .inr ⟨.inl k, c, e, ?_⟩
      have q := x.cell y c e
      rw [bindC_get ndP hp hu (by show scope.names.lookup y ≠ _; rw [k]; decide)] at q
      exact q
  · exact e0.hok.fresh (Nat.le_of_lt (x.above y c (PySem.mem_of_lookup h)))
  · unfold start
    show _ = N.length
    rw [List.length_append, List.length_map, List.length_replicate]
    (first | lia | omega)

theorem fn_of {CX : CXT} {P : Program} {w : World} {K : PySem.W.Frag} {mg : Str → Option Value} {base : Heap} {k : Nat} {f : Addr} {name qual : Str} {params : Arguments} {body : List Stmt} {scope : Scope} {dV kV doc pm cdv ct oc : Value} {an od : Option Addr}
    {osl : Array (Option Value)} {N ps : List Str} {sp : Sp} (lk : K.lookup f = some ⟨oc, od, .func (PySem.W.fnOf name qual params body scope dV kV doc pm an cdv ct), osl⟩) (hcd : PySem.W.codeIn K cdv qual = true) (S : FnScope N ps scope)
    (len : ∀ vs H Q E, sp vs H Q E → vs.length = ps.length)
    (hbody : ∀ (A : Around) (outer : List Env) (s : Shared) (H : Hp) (vs : List V) (Q : VK) (E : XK), Room k (A.deeper (envOfC qual scope s.heap.objs.size f cdv)) → sp vs H Q E →
      ∃ t, PSs (cxOf CX P w K mg base N qual scope f cdv A outer s H E) body t ∧ t { nx := fun _ H' => Q .non H', rt := Q } (start N vs) H) :
    FnOk P w K mg base CX (k + 1) f (PySem.W.fnOf name qual params body scope dV kV doc pm an cdv ct) ps sp := by
  refine ⟨len, fun A outer s H args us vs Q E hr e0 hb r hsp => ?_⟩
  have hl := len _ _ _ _ hsp
  have KX : K.In s.heap := e0.mod.kin.keeps fun b o e => (e0.bs b o e).1
  have lim : s.heap.NoLimit := e0.mod.nolimit.keeps fun b o e => (e0.bs b o e).1
  have hkind : ∀ y ∈ ps.zip us, scope.names.lookup y.1 = some .local ∨ (scope.names.lookup y.1 = some .cell ∧ ((cellsFrom (s.heap.objs.size + 1) scope.names []).lookup y.1).isSome = true) := fun ⟨n, v⟩ hy => by
    rcases S.par n (List.of_mem_zip hy).1 with q | q
    · exact .inl q
    · exact .inr ⟨q, PySem.W.cellsFrom_some _ _ _ (.inl q)⟩
  refine codeAny_call_function hr.depth (KX _ _ lk) rfl S.co S.gen rfl (PySem.W.codeRec_of KX hcd) (hb _ _ _ _ ?_)
  refine wpAny_newFunctionEnv_cells S.kind hkind fun env he s1 x => ?_
  subst he
  refine ⟨lim.keeps x.toInCall.keep, codeAny_func ?_⟩
  obtain ⟨t, ht, hq⟩ := hbody A outer s H vs Q E (hr.deeper _) hsp
  have I : Inv (cxOf CX P w K mg base N qual scope f cdv A outer s H E) [] (start N vs) H s1 := inv_start S hr.hd e0 hl r x
  refine wpAny_mono (ht [] s1 (start N vs) H _ I hq) (fun fl s' hs => ?_) fun e s' hs => hs
  have fin : ∀ {σ' : St} {H' : Hp} {v : V} {u : Value}, Inv (cxOf CX P w K mg base N qual scope f cdv A outer s H E) [] σ' H' s' → RelV v u → Q v H' → CE outer P w H s Q u s' :=
    fun {σ' H' v u} J rv q => ⟨v, H', J.os, J.bare, J.base, J.hok, rv, q⟩
  cases fl with
  | ret u =>
    obtain ⟨v, σ', H', J, rv, q⟩ := hs
    exact fin J rv q
  | next =>
    obtain ⟨σ', H', J, q⟩ := hs
    exact fin (v := V.non) (u := Value.none) J rfl q
  | brk =>
    obtain ⟨_, _, _, q⟩ := hs
    exact False.elim q
  | cont =>
    obtain ⟨_, _, _, q⟩ := hs
    exact False.elim q
end L2

namespace L2
open PySem PySem.Spec PyProof.Rows
section
variable {X : Cx} {x : Str} {p pos : Pos} {e : Expr} {es : List Expr} {t : TA} {id T : String} {r : List V → Hp → VK → Prop}

def tCB (r : List V → Hp → VK → Prop) (t : TA) : TE := fun σ H Q => t σ H fun vs H1 => r vs H1 Q
theorem pe_callB (hc : CallR X (.builtin id) r) (hg : Gl X x) (hm : X.mg x = none) (hv : bootBuiltins x = some (.builtin id)) (ha : PA X (e :: es) t) (hn : x ≠ "__name__" := by decide) (hdb : (x == ("__debug__" : Str)) = false := by decide)
    (he : starEach (e :: es) X.env = (false, eval e X.env) :: starEach es X.env := by rfl) (hpl : (backTo pos (starEach es X.env)).any (·.1) = false := by rfl) : PE X (.Call (.Name x p) (e :: es) [] pos) (tCB r t) := by
  intro pins s σ H Q I h
  refine wpAny_Call_Name_kw (ld_blt I hg hm hv ?_ hn hdb)
  exact PyProof.Rows.callWith_builtin1 (thn (ha pos pins s σ H _ I h) fun us s1 ⟨vs, H1, I1, r1, q1⟩ => hc pins s1 σ H1 vs us Q I1 r1 q1) he hpl
theorem pe_callTy (hc : CallR X (.type T) r) (hg : Gl X x) (hm : X.mg x = none) (hv : bootBuiltins x = some (.type T)) (ha : PA X (e :: es) t) (hn : x ≠ "__name__" := by decide) (hdb : (x == ("__debug__" : Str)) = false := by decide)
    (he : starEach (e :: es) X.env = (false, eval e X.env) :: starEach es X.env := by rfl) (hpl : (backTo pos (starEach es X.env)).any (·.1) = false := by rfl) : PE X (.Call (.Name x p) (e :: es) [] pos) (tCB r t) := by
  intro pins s σ H Q I h
  refine wpAny_Call_Name_kw (ld_blt I hg hm hv ?_ hn hdb)
  exact PyProof.Rows.callWith_type1 (thn (ha pos pins s σ H _ I h) fun us s1 ⟨vs, H1, I1, r1, q1⟩ => hc pins s1 σ H1 vs us Q I1 r1 q1) he hpl
end
end L2

namespace HT
open PySem PyProof.Rows

section
open PySem.SeqAt
open PySem.AutoSeq1 (wpAny_loadPart')
open PySem.MeetsSeq PySem.MeetsSeq2 PySem.MeetsSeq3

end

section
variable {prog : Program} {w : World} {A : Around} {E : Value → Shared → Prop} {s : Shared}

def sIx (n d : Nat) : Option Int → Nat
  | none => d
  | some v => if v < 0 then (v + (n : Int)).toNat else min v.toNat n
theorem sIx_none (n d : Nat) : sIx n d none = d := rfl
theorem sIx_nat (n d k : Nat) : sIx n d (some (k : Int)) = min k n := by
  show (if (k : Int) < 0 then ((k : Int) + (n : Int)).toNat else min (k : Int).toNat n) = min k n
  rw [if_neg (by (first | lia | omega)), Int.toNat_natCast]
end
end HT

namespace L2
open PySem PySem.Spec PyProof.Rows

abbrev TO := St → Hp → (Option Int → Hp → Prop) → Prop
def PO (X : Cx) (e : Option Expr) (t : TO) : Prop :=
  ∀ (pins : List (Addr × Obj)) (s : Shared) (σ : St) (H : Hp) (Q : Option Int → Hp → Prop), Inv X pins σ H s → t σ H Q →
    wpAny (model X.prog X.w) X.A (evalPart e X.env) (fun u s' => ∃ o H', Inv X pins σ H' s' ∧ IsPart u o ∧ Q o H') X.xe s
def tNoPart : TO := fun _ H Q => Q none H
def tPart (t : TE) : TO := fun σ H Q => t σ H fun x H1 => ∃ i, x = .int i ∧ Q (some i) H1

section
variable {X : Cx} {e : Expr} {te : TE} {lo hi : Option Expr} {tl th : TO} {pos p2 : Pos}

theorem po_none : PO X none tNoPart := by
  intro pins s σ H Q I h
  rw [evalPart_none]
  exact wpAny_pure ⟨none, H, I, .none, h⟩
theorem po_some (h : PE X e te) : PO X (some e) (tPart te) := by
  intro pins s σ H Q I hw
  rw [evalPart_some]
  refine thn (h pins s σ H _ I hw) fun u s1 ⟨x, H1, I1, r1, q1⟩ => ?_
  obtain ⟨i, rfl, q⟩ := q1
  obtain ⟨t, rfl⟩ := r1
  exact ⟨some i, H1, I1, .int i t, q⟩

def SlR (X : Cx) (r : V → Option Int → Option Int → Hp → VK → Prop) : Prop :=
  ∀ (pins : List (Addr × Obj)) (s : Shared) (σ : St) (H : Hp) (x : V) (v vl vu : Value) (lo hi : Option Int) (sl : Addr) (Q : VK), Inv X pins σ H s → RelV x v → s.heap.IsSliceOf sl vl vu .none → IsPart vl lo → IsPart vu hi → r x lo hi H Q →
    ∃ T id, typeLookup (.type T) "__getitem__" = pure (some (.builtin id)) ∧ s.TypeIs v T ∧ wpAny (model X.prog X.w) X.A (getItem v (.ref sl)) (EP X pins σ Q) X.xe s
def tSl (r : V → Option Int → Option Int → Hp → VK → Prop) (te : TE) (tl th : TO) : TE := fun σ H Q => te σ H fun x H1 => tl σ H1 fun l H2 => th σ H2 fun u H3 => r x l u H3 Q
theorem pe_slice {r : V → Option Int → Option Int → Hp → VK → Prop} (hr : SlR X r) (he : PE X e te) (hl : PO X lo tl) (hu : PO X hi th) : PE X (.Subscript e (.Slice lo hi none p2) pos) (tSl r te tl th) := by
  intro pins s σ H Q I h
  refine Subscript_ (thn (he pins s σ H _ I h) fun v s1 ⟨x, H1, I1, r1, q1⟩ => ?_)
  refine wpAny_Slice (thn (hl pins s1 σ H1 _ I1 q1) fun vl s2 ⟨l, H2, I2, pl, q2⟩ => thn (hu pins s2 σ H2 _ I2 q2) fun vu s3 ⟨u, H3, I3, pu, q3⟩ => ?_)
  rw [evalPart_none]
  refine wpAny_pure ?_
  have I4 : Inv X pins σ H3 { s3 with heap := s3.heap.push { cls := .type "slice", data := .fields #[vl, vu, .none] } } := I3.kept (t' := s3.toks) fun b ob q => Heap.get?_push_of_some _ q
  obtain ⟨T, id, hT, ht, hg⟩ := hr pins { s3 with heap := s3.heap.push { cls := .type "slice", data := .fields #[vl, vu, .none] } } σ H3 x v vl vu l u s3.heap.objs.size Q I4 r1 (Heap.IsSliceOf.new ..) pl pu q3
  show wpAny (model X.prog X.w) X.A (subscriptTail e (.Slice lo hi none p2) v (.ref s3.heap.objs.size)) (EP X pins σ Q) X.xe { s3 with heap := s3.heap.push { cls := .type "slice", data := .fields #[vl, vu, .none] } }
  exact tail_any (ops := [.ref s3.heap.objs.size, v]) ht hT hg (by with_unfolding_all rfl)

def cutV (xs : List V) (lo hi : Option Int) : List V := (xs.drop (HT.sIx xs.length 0 lo)).take (HT.sIx xs.length xs.length hi - HT.sIx xs.length 0 lo)
theorem cutV_length (xs : List V) (lo hi : Option Int) : (cutV xs lo hi).length ≤ xs.length := by
  unfold cutV
  rw [List.length_take, List.length_drop]
  (first | lia | omega)
end
end L2

namespace L2
open PySem PySem.Spec PyProof.Rows

def ixN (n : Nat) (i : Int) : Option Nat := if 0 ≤ i then (if i < n then some i.toNat else none) else if -(n : Int) ≤ i then some (i + n).toNat else none
def atI {α : Type} (xs : List α) (i : Int) : Option α := (ixN xs.length i).bind fun j => xs[j]?
theorem ixN_seq {n : Nat} {i : Int} {j : Nat} (h : ixN n i = some j) : seqIndex? i n = some j ∧ j < n ∧ -(n : Int) ≤ i ∧ i < n := by
  unfold ixN at h
  by_cases h0 : 0 ≤ i
  · rw [if_pos h0] at h
    by_cases h1 : i < n
    · rw [if_pos h1] at h
      have e : i.toNat = j := Option.some.inj h
      exact ⟨by rw [seqIndex_of h0 h1, e], by (first | lia | omega), by (first | lia | omega), h1⟩
    · rw [if_neg h1] at h; cases h
  · rw [if_neg h0] at h
    by_cases h1 : -(n : Int) ≤ i
    · rw [if_pos h1] at h
      have e : (i + n).toNat = j := Option.some.inj h
      exact ⟨by rw [seqIndex_neg (by (first | lia | omega)) h1, e], by (first | lia | omega), h1, by (first | lia | omega)⟩
    · rw [if_neg h1] at h; cases h
theorem atI_get {α : Type} {xs : List α} {i : Int} {v : α} (h : atI xs i = some v) : ∃ j, seqIndex? i xs.length = some j ∧ xs[j]? = some v ∧ j < xs.length ∧ -(xs.length : Int) ≤ i ∧ i < xs.length := by
  unfold atI at h
  cases e : ixN xs.length i with
  | none => rw [e] at h; cases h
  | some j =>
    rw [e] at h
    obtain ⟨h1, h2, h3, h4⟩ := ixN_seq e
    exact ⟨j, h1, h, h2, h3, h4⟩
theorem atI_nat {α : Type} {xs : List α} {j : Nat} {v : α} (h : xs[j]? = some v) : atI xs (j : Int) = some v := by
  have hj : j < xs.length := (List.getElem?_eq_some_iff.mp h).1
  have e : ixN xs.length (j : Int) = some j := by
    unfold ixN
    rw [if_pos (by (first | lia | omega)), if_pos (by (first | lia | omega))]; simp
  unfold atI; rw [e]; exact h
theorem atI_last {α : Type} (xs : List α) (v : α) : atI (xs ++ [v]) (-1) = some v := by
  have hl : (xs ++ [v]).length = xs.length + 1 := by simp
  have e : ixN (xs ++ [v]).length (-1) = some xs.length := by
    unfold ixN
    rw [hl, if_neg (by decide), if_pos (by (first | lia | omega))]
    congr 1
    (first | lia | omega)
  unfold atI
  rw [e]
  show (xs ++ [v])[xs.length]? = some v
  simp

def PlainIx (b : Expr) : Prop := ∀ o i, subscripted b false o i = operate [o, i] (getItem o i)
def IxR (X : Cx) (r : R2) : Prop :=
  ∀ (value slice : Expr) (pins : List (Addr × Obj)) (s : Shared) (σ : St) (H : Hp) (x y : V) (v u : Value) (Q : VK), Inv X pins σ H s → RelV x v → RelV y u → r x y H Q →
    subscripted slice false v u = operate [v, u] (getItem v u) → wpAny (model X.prog X.w) X.A (subscriptTail value slice v u) (EP X pins σ Q) X.xe s
def MtR (X : Cx) (id : String) (r : V → List V → Hp → VK → Prop) : Prop :=
  ∀ (pins : List (Addr × Obj)) (s : Shared) (σ : St) (H : Hp) (x : V) (xs : List V) (v : Value) (us : List Value) (Q : VK), Inv X pins σ H s → RelV x v → Vals xs us → r x xs H Q →
    wpAny (model X.prog X.w) X.A (call (.builtin id) (v :: us)) (EP X pins σ Q) X.xe s
section
variable {X : Cx} {a b : Expr} {ta tb : TE} {pos : Pos}
theorem IxR.or {r r' : R2} (h : IxR X r) (h' : IxR X r') : IxR X (fun x y H Q => r x y H Q ∨ r' x y H Q) := by
  intro value slice pins s σ H x y v u Q I rx ry q hs
  rcases q with q | q
  · exact h value slice pins s σ H x y v u Q I rx ry q hs
  · exact h' value slice pins s σ H x y v u Q I rx ry q hs
theorem pe_ix {r : R2} (hr : IxR X r) (ha : PE X a ta) (hb : PE X b tb) (hs : PlainIx b) : PE X (.Subscript a b pos) (tOp r ta tb) := by
  intro pins s σ H Q I h
  exact Subscript_ (binT ha hb I h fun v u s2 x y H2 I2 rx ry q => hr a b pins s2 σ H2 x y v u Q I2 rx ry q (hs _ _))

def rIxL (K : PySem.W.Frag) : R2 := fun x y H Q => ∃ p xs i v, x = .ref p ∧ y = .int i ∧ SqL K H p xs ∧ atI xs i = some v ∧ Q v H
def rIxT (K : PySem.W.Frag) : R2 := fun x y H Q => ∃ p xs i v, x = .ref p ∧ y = .int i ∧ SqT K H p xs ∧ atI xs i = some v ∧ Q v H
def rIxS : R2 := fun x y H Q => ∃ z i c, x = .str z ∧ y = .int i ∧ z.length ≤ sizeLine ∧ atI z.cps.toList i = some c ∧ Q (.str ⟨#[c]⟩) H
theorem ix_list : IxR X (rIxL X.K) := by
  intro value slice pins s σ H x y v u Q I rx ry h hs
  obtain ⟨p, xs, i, z, rfl, rfl, hq, he, q⟩ := h
  cases rx
  obtain ⟨t, rfl⟩ := ry
  obtain ⟨its, r, pl, hz⟩ := I.list hq
  obtain ⟨j, h1, h2, h3, h4, h5⟩ := atI_get he
  obtain ⟨w, ew, rw'⟩ := r.get h2
  have hl := r.length
  have hn := line63
  have fin : EP X pins σ Q w s := ⟨z, H, I, rw', q⟩
  by_cases h0 : 0 ≤ i
  · have hj : i.toNat = j := by
      rw [seqIndex_of h0 h5] at h1
      exact Option.some.inj h1
    exact item_listR pl.isList h0 (by (first | lia | omega)) (by rw [hj]; simpa using ew) fin hs
  · have hj : (i + (its.toArray.size : Int)).toNat = j := by
      rw [seqIndex_neg (by (first | lia | omega)) h4] at h1
      rw [List.size_toArray, ← hl]
      exact Option.some.inj h1
    exact subscriptTail_builtinR (x := w) pl.isList.typeIs slot_list_getitem.lookup
      (wpAny_getItem_list_neg (Q := fun r s' => r = w ∧ EP X pins σ Q r s') pl.isList (by (first | lia | omega)) (by rw [List.size_toArray] <;> (first | lia | omega)) (by (first | lia | omega)) (by rw [hj]; simpa using ew) ⟨rfl, fin⟩) hs
theorem ix_tup : IxR X (rIxT X.K) := by
  intro value slice pins s σ H x y v u Q I rx ry h hs
  obtain ⟨p, xs, i, z, rfl, rfl, hq, he, q⟩ := h
  cases rx
  obtain ⟨t, rfl⟩ := ry
  obtain ⟨its, r, pl, hz⟩ := I.tuple hq
  obtain ⟨j, h1, h2, h3, h4, h5⟩ := atI_get he
  obtain ⟨w, ew, rw'⟩ := r.get h2
  have hl := r.length
  have hn := line63
  have fin : EP X pins σ Q w s := ⟨z, H, I, rw', q⟩
  exact subscriptTail_builtinR (x := w) pl.typeIs slot_tuple_getitem.lookup
    (getItem_tuple (j := j) (Q := fun r s' => r = w ∧ EP X pins σ Q r s') pl (by (first | lia | omega)) (by (first | lia | omega)) (by rw [List.size_toArray, ← hl]; exact h1) (by simpa using ew) ⟨rfl, fin⟩) hs
theorem ix_str : IxR X rIxS := by
  intro value slice pins s σ H x y v u Q I rx ry h hs
  obtain ⟨z, i, c, rfl, rfl, hz, he, q⟩ := h
  obtain ⟨t, rfl⟩ := rx
  obtain ⟨t', rfl⟩ := ry
  obtain ⟨j, h1, h2, h3, h4, h5⟩ := atI_get he
  have hl : z.cps.toList.length = z.length := by simp [Str.length]
  rw [hl] at h1 h4 h5
  have hn := line63
  exact tail_any (typeIs_str s z t) slot_str_getitem.lookup (getItem_str (c := c) (by
    have e1 : decide (i < -(2 ^ 63 : Int)) = false := decide_eq_false (by (first | lia | omega))
    have e2 : decide (i ≥ 2 ^ 63) = false := decide_eq_false (by (first | lia | omega))
    rw [e1, e2, Bool.or_false]) (by rw [h1]; simpa using h2) ⟨.str ⟨#[c]⟩, H, I.tok _, ⟨_, rfl⟩, q⟩) hs
def rIx (K : PySem.W.Frag) : R2 := fun x y H Q => rIxL K x y H Q ∨ rIxT K x y H Q ∨ rIxS x y H Q
theorem ix_seq : IxR X (rIx X.K) := ix_list.or (ix_tup.or ix_str)

theorem slice_bounds (lo hi : Option Int) (n : Nat) : (sliceBounds lo hi none n).1 = ((HT.sIx n 0 lo : Nat) : Int) ∧ (sliceBounds lo hi none n).2.1 = ((HT.sIx n n hi : Nat) : Int) ∧ (sliceBounds lo hi none n).2.2 = 1 := by
  refine ⟨?_, ?_, rfl⟩
  · cases lo with
    | none => simp [sliceBounds, HT.sIx]
    | some i =>
      simp only [sliceBounds, HT.sIx, Option.getD_none, show (1 : Int) > 0 by decide, if_true]
      by_cases h : i < 0
      · simp only [h, if_true] <;> (first | lia | omega)
      · simp only [h, if_false] <;> (first | lia | omega)
  · cases hi with
    | none => simp [sliceBounds, HT.sIx]
    | some i =>
      simp only [sliceBounds, HT.sIx, Option.getD_none, show (1 : Int) > 0 by decide, if_true]
      by_cases h : i < 0
      · simp only [h, if_true] <;> (first | lia | omega)
      · simp only [h, if_false] <;> (first | lia | omega)
theorem slicePick_cut (its : List Value) (lo hi : Option Int) : slicePick its.toArray lo hi none = ((its.drop (HT.sIx its.length 0 lo)).take (HT.sIx its.length its.length hi - HT.sIx its.length 0 lo)).toArray := by
  obtain ⟨h1, h2, h3⟩ := slice_bounds lo hi its.toArray.size
  unfold slicePick
  rw [h1, h2, h3]
  simp only [sliceRange_one, pick_run, List.size_toArray] <;> rfl
def rSlL (K : PySem.W.Frag) : V → Option Int → Option Int → Hp → VK → Prop := fun x lo hi H Q => ∃ a xs, x = .ref a ∧ SqL K H a xs ∧ ∀ p, H p = none → Q (.ref p) (upd H p (.lst (cutV xs lo hi)))
theorem sl_list : SlR X (rSlL X.K) := by
  intro pins s σ H x v vl vu lo hi sl Q I rx hs pl pu h
  obtain ⟨a, xs, rfl, hx, q⟩ := h
  cases rx
  obtain ⟨its, r, ht, hz⟩ := I.list hx
  have hlen := r.length
  refine ⟨"list", _, slot_list_getitem.lookup, ht.isList.typeIs, ?_⟩
  refine wpAny_getItem_list_slice ht.isList hs pl pu .none (by simp) ?_ (by rw [List.size_toArray] <;> (first | lia | omega))
  rw [slicePick_cut, ← hlen]
  refine ⟨.ref s.heap.objs.size, _, I.laid (t' := s.toks) (o := .lst (cutV xs lo hi)) (fun b ob q => Heap.get?_push_of_some _ q) (Nat.le_refl _) ?_, rfl, q _ (I.hok.fresh (Nat.le_refl _))⟩
  exact ⟨Nat.le_trans (cutV_length xs lo hi) hz, _, 0, (r.drop (HT.sIx xs.length 0 lo)).take (HT.sIx xs.length xs.length hi - HT.sIx xs.length 0 lo), Heap.get?_push_size _ rfl⟩

def flatV : V → Bool
  | .non => true
  | .bl _ => true
  | .int _ => true
  | .str _ => true
  | _ => false
def eqV : V → V → Bool
  | .non, .non => true
  | .bl a, .bl b => a == b
  | .bl a, .int b => (if a then 1 else 0) == b
  | .int a, .bl b => a == (if b then 1 else 0)
  | .int a, .int b => a == b
  | .str a, .str b => a == b
  | _, _ => false
theorem eqAt_V {A : Around} {s : Shared} {y x : V} {u v : Value} (ry : RelV y u) (rx : RelV x v) (fy : flatV y = true) (fx : flatV x = true) : SeqAt.EqAt A s u v (eqV y x) := by
  cases y with
  | non =>
    cases ry
    cases x with
    | non => cases rx; exact SeqAt.EqAt.same _
    | bl b => cases rx; exact SeqAt.EqAt.none_bool b
    | int b => obtain ⟨t, rfl⟩ := rx; exact SeqAt.EqAt.none_int b t
    | str b => obtain ⟨t, rfl⟩ := rx; exact SeqAt.EqAt.none_str b t
    | _ => exact absurd (show false = true from fx) Bool.false_ne_true
  | bl a =>
    cases ry
    cases x with
    | non => cases rx; exact SeqAt.EqAt.bool_none a
    | bl b => cases rx; exact SeqAt.EqAt.bool_bool a b
    | int b => obtain ⟨t, rfl⟩ := rx; exact SeqAt.EqAt.bool_int a b t
    | str b => obtain ⟨t, rfl⟩ := rx; exact SeqAt.EqAt.bool_str a b t
    | _ => exact absurd (show false = true from fx) Bool.false_ne_true
  | int a =>
    obtain ⟨t', rfl⟩ := ry
    cases x with
    | non => cases rx; exact SeqAt.EqAt.int_none a t'
    | bl b => cases rx; exact SeqAt.EqAt.int_bool a t' b
    | int b => obtain ⟨t, rfl⟩ := rx; exact SeqAt.EqAt.int_int a t' b t
    | str b => obtain ⟨t, rfl⟩ := rx; exact SeqAt.EqAt.int_str a t' b t
    | _ => exact absurd (show false = true from fx) Bool.false_ne_true
  | str a =>
    obtain ⟨t', rfl⟩ := ry
    cases x with
    | non => cases rx; exact SeqAt.EqAt.str_none a t'
    | bl b => cases rx; exact SeqAt.EqAt.str_bool a t' b
    | int b => obtain ⟨t, rfl⟩ := rx; exact SeqAt.EqAt.str_int a t' b t
    | str b => obtain ⟨t, rfl⟩ := rx; exact SeqAt.EqAt.str_str a t' b t
    | _ => exact absurd (show false = true from fx) Bool.false_ne_true
  | _ => exact absurd (show false = true from fy) Bool.false_ne_true
def eqU (x : V) (u : Value) : Bool := match u with
  | .none => eqV .non x
  | .bool b => eqV (.bl b) x
  | .int i _ => eqV (.int i) x
  | .str z _ => eqV (.str z) x
  | _ => false
theorem eqU_of {x y : V} {u : Value} (r : RelV y u) (f : flatV y = true) : eqU x u = eqV y x := by
  cases y with
  | non => cases r; rfl
  | bl b => cases r; rfl
  | int i => obtain ⟨t, rfl⟩ := r; rfl
  | str z => obtain ⟨t, rfl⟩ := r; rfl
  | _ => exact absurd (show false = true from f) Bool.false_ne_true
theorem any_eqU {x : V} : ∀ {xs : List V} {us : List Value}, Vals xs us → xs.all flatV = true → us.any (eqU x) = xs.any fun y => eqV y x
  | _, _, .nil, _ => rfl
  | y :: xs, u :: us, .cons r t, f => by
    rw [List.all_cons, Bool.and_eq_true] at f
    rw [List.any_cons, List.any_cons, eqU_of r f.1, any_eqU t f.2]
theorem mem_eqAt {A : Around} {s : Shared} {x : V} {v : Value} (rx : RelV x v) (fx : flatV x = true) : ∀ {xs : List V} {us : List Value}, Vals xs us → xs.all flatV = true → ∀ u ∈ us, SeqAt.EqAt A s u v (eqU x u)
  | _, _, .nil, _ => fun u hu => by cases hu
  | y :: xs, u :: us, .cons r t, f => fun u' hu => by
    rw [List.all_cons, Bool.and_eq_true] at f
    rcases List.mem_cons.mp hu with rfl | hu
    · rw [eqU_of r f.1]; exact eqAt_V r rx f.1 fx
    · exact mem_eqAt rx fx t f.2 u' hu
def inV (x : V) (xs : List V) : Bool := xs.any fun y => eqV y x
def rIn (K : PySem.W.Frag) (neg : Bool) : R2 := fun x y H Q => ∃ p xs, y = .ref p ∧ (SqL K H p xs ∨ SqT K H p xs) ∧ flatV x = true ∧ xs.all flatV = true ∧ Q (.bl (if neg then !inV x xs else inV x xs)) H
theorem op_in_seq : OpR X (compareOp .In) (rIn X.K false) := by
  intro pins s σ H x y v u Q I rx ry h
  obtain ⟨p, xs, rfl, hq, fx, fs, q⟩ := h
  cases ry
  rcases hq with hq | hq
  · obtain ⟨its, r, pl, hz⟩ := I.list hq
    refine SeqAt.in_listAt (eqU x) pl.isList (fun w hw => mem_eqAt rx fx r fs w (by simpa using hw)) ⟨.bl _, H, I, rfl, ?_⟩
    rw [show its.toArray.any (eqU x) = its.any (eqU x) by simp, any_eqU r fs]
    exact q
  · obtain ⟨its, r, pl, hz⟩ := I.tuple hq
    refine SeqAt.in_tupleAt (eqU x) pl (fun w hw => mem_eqAt rx fx r fs w (by simpa using hw)) ⟨.bl _, H, I, rfl, ?_⟩
    rw [show its.toArray.any (eqU x) = its.any (eqU x) by simp, any_eqU r fs]
    exact q
theorem call_len_seq : CallR X (.builtin "len") (fun xs H Q => ∃ p ys, xs = [.ref p] ∧ (SqL X.K H p ys ∨ SqT X.K H p ys) ∧ Q (.int ys.length) H) := by
  intro pins s σ H xs us Q I r h
  obtain ⟨p, ys, rfl, hq, q⟩ := h
  obtain ⟨u, rfl, rx⟩ := vals1 r
  cases rx
  have hn := line63
  rcases hq with hq | hq
  · obtain ⟨its, r', pl, hz⟩ := I.list hq
    have hlen := r'.length
    exact Calls.call_len_list pl.isList (by simp only [List.size_toArray] <;> (first | lia | omega)) ⟨.int ys.length, H, I.tok _, ⟨s.toks + 1, by rw [List.size_toArray, hlen]⟩, q⟩
  · obtain ⟨its, r', pl, hz⟩ := I.tuple hq
    have hlen := r'.length
    exact len_tuple pl (by simp only [List.size_toArray] <;> (first | lia | omega)) ⟨.int ys.length, H, I.tok _, ⟨s.toks + 1, by rw [List.size_toArray, hlen]⟩, q⟩
theorem call_len_str : CallR X (.builtin "len") (fun xs H Q => ∃ z, xs = [.str z] ∧ z.length ≤ sizeLine ∧ Q (.int z.length) H) := by
  intro pins s σ H xs us Q I r h
  obtain ⟨z, rfl, hz, q⟩ := h
  obtain ⟨u, rfl, t, rfl⟩ := vals1 r
  have hn := line63
  exact len_str (by (first | lia | omega)) ⟨.int z.length, H, I.tok _, ⟨_, rfl⟩, q⟩
theorem call_list_of : CallR X (.type "list") (fun xs H Q => ∃ p ys, xs = [.ref p] ∧ (SqL X.K H p ys ∨ SqT X.K H p ys) ∧ ∀ l, H l = none → Q (.ref l) (upd H l (.lst ys))) := by
  intro pins s σ H xs us Q I r h
  obtain ⟨p, ys, rfl, hq, q⟩ := h
  obtain ⟨u, rfl, rx⟩ := vals1 r
  cases rx
  have fin : ∀ (its : List Value), Vals ys its → ys.length ≤ sizeLine → ∀ (h' : Heap) (c' : Nat), (∀ b o', s.heap.get? b = some o' → h'.get? b = some o') →
      h'.get? s.heap.objs.size = some { cls := .type "list", dict := none, data := .seq its.toArray c', slots := #[] } → EP X pins σ Q (.ref s.heap.objs.size) { s with heap := h' } := fun its r' hz h' c' kp e =>
    ⟨.ref s.heap.objs.size, _, I.laid (t' := s.toks) kp (Nat.le_refl _) (show ObjOk X.prog X.w _ h' _ (.lst ys) from ⟨hz, its, c', r', e⟩), rfl, q _ (I.hok.fresh (Nat.le_refl _))⟩
  rcases hq with hq | hq
  · obtain ⟨its, r', pl, hz⟩ := I.list hq
    have hlen := r'.length
    obtain ⟨o, ho, hc, n, hd⟩ := pl.isList
    exact call_list_seq p (.inl rfl) ho hc hd (fun h' c' kp e => fin its r' hz h' c' kp e) (by simp only [List.size_toArray] <;> (first | lia | omega))
  · obtain ⟨its, r', pl, hz⟩ := I.tuple hq
    have hlen := r'.length
    obtain ⟨o, ho, hc, n, hd⟩ := pl
    exact call_list_seq p (.inr rfl) ho hc hd (fun h' c' kp e => fin its r' hz h' c' kp e) (by simp only [List.size_toArray] <;> (first | lia | omega))
theorem call_tuple_of : CallR X (.type "tuple") (fun xs H Q => ∃ p ys, xs = [.ref p] ∧ ((SqL X.K H p ys ∧ ∀ l, H l = none → Q (.ref l) (upd H l (.tup ys))) ∨ (SqT X.K H p ys ∧ Q (.ref p) H))) := by
  intro pins s σ H xs us Q I r h
  obtain ⟨p, ys, rfl, h⟩ := h
  obtain ⟨u, rfl, rx⟩ := vals1 r
  cases rx
  rcases h with ⟨hq, q⟩ | ⟨hq, q⟩
  · obtain ⟨its, r', pl, hz⟩ := I.list hq
    have hlen := r'.length
    refine call_tuple_list pl.isList (fun h' kp => ?_) (by simp only [List.size_toArray] <;> (first | lia | omega))
    have I1 : Inv X pins σ H { s with heap := h' } := I.kept (t' := s.toks) kp
    have I2 : Inv X pins σ (upd H h'.objs.size (.tup ys)) { s with heap := h'.push { cls := .type "tuple", data := .seq its.toArray } } :=
      I1.laid (t' := s.toks) (fun b o e => Heap.get?_push_of_some _ e) (Nat.le_refl _) (show ObjOk X.prog X.w _ _ _ (.tup ys) from ⟨hz, its, r', IsTup.new _ _⟩)
    exact ⟨.ref h'.objs.size, _, I2, rfl, q _ (I1.hok.fresh (Nat.le_refl _))⟩
  · obtain ⟨its, r', pl, hz⟩ := I.tuple hq
    exact call_tuple_same pl ⟨.ref p, H, I, rfl, q⟩

def tyV (K : PySem.W.Frag) (T : String) (x : V) (H : Hp) : Prop := match x with
  | .str _ => T = "str"
  | .int _ => T = "int"
  | .ref p => (T = "list" ∧ ∃ xs, SqL K H p xs) ∨ (T = "tuple" ∧ ∃ o, K.lookup p = some o ∧ o.cls = .type "tuple" ∧ o.dict = none) ∨
      (T = "dict" ∧ ((∃ kvs, H p = some (.dK kvs)) ∨ ∃ kvs, H p = some (.dT kvs))) ∨ (T = "set" ∧ ∃ S n, H p = some (.set S n))
  | _ => False
theorem tyV_is {pins : List (Addr × Obj)} {σ : St} {H : Hp} {s : Shared} {T : String} {x : V} {v : Value} (I : Inv X pins σ H s) (r : RelV x v) (ty : tyV X.K T x H) :
    s.TypeIs v T ∧ ∀ a, v = .ref a → ∃ ob, s.heap.get? a = some ob ∧ ob.dict = none := by
  cases x with
  | str z =>
    obtain ⟨t, rfl⟩ := r
    cases (show T = "str" from ty)
    exact ⟨typeIs_str s z t, fun _ e => nomatch e⟩
  | int i =>
    obtain ⟨t, rfl⟩ := r
    cases (show T = "int" from ty)
    exact ⟨typeIs_int s i t, fun _ e => nomatch e⟩
  | ref p =>
    cases r
    rcases ty with ⟨rfl, xs, hq⟩ | ⟨rfl, o, hk, hc, hd⟩ | ⟨rfl, hk⟩ | ⟨rfl, S, n, hk⟩
    · obtain ⟨its, _, pl, _⟩ := I.list hq
      refine ⟨pl.isList.typeIs, fun a e => ?_⟩
      cases e
      obtain ⟨o, n, e, c, hd, _⟩ := pl
      exact ⟨o, e, hd⟩
    · refine ⟨⟨o, I.kIn p o hk, hc⟩, fun a e => ?_⟩
      cases e
      exact ⟨o, I.kIn _ o hk, hd⟩
    · have z : ∃ o, s.heap.get? p = some o ∧ o.ExactDict := by
        rcases hk with ⟨kvs, hk⟩ | ⟨kvs, hk⟩
        · obtain ⟨_, _, _, _, o, _, _, e, ex, _⟩ := I.hok p _ hk
          exact ⟨o, e, ex⟩
        · obtain ⟨_, _, _, _, o, _, _, e, ex, _⟩ := I.hok p _ hk
          exact ⟨o, e, ex⟩
      obtain ⟨o, e, ex⟩ := z
      refine ⟨⟨o, e, ex.1⟩, fun a e2 => ?_⟩
      cases e2
      exact ⟨o, e, ex.2.1⟩
    · obtain ⟨o, _, _, _, e, ex, _⟩ := I.hok p _ hk
      refine ⟨⟨o, e, ex.1⟩, fun a e2 => ?_⟩
      cases e2
      exact ⟨o, e, ex.2.1⟩
  | _ => exact False.elim ty
def tBM (K : PySem.W.Frag) (T : String) (r : V → List V → Hp → VK → Prop) (to : TE) (t : TA) : TE := fun σ H Q => to σ H fun x H1 => tyV K T x H1 ∧ t σ H1 fun xs H2 => r x xs H2 Q
variable {o e : Expr} {es : List Expr} {to : TE} {t : TA} {name : Str} {apos cpos : Pos} {T id : String} {r : V → List V → Hp → VK → Prop}
theorem pe_bm (pa : PlainAttrs T) (slot : Slot T name id) (hty : typeOf (.builtin id) = pure (.type "method_descriptor")) (hm : MtR X id r) (ho : PE X o to) (ha : PA X (e :: es) t)
    (hbase : attributeBase o name X.env (eval o X.env) = eval o X.env := by rfl)
    (hfew : ((backTo cpos (starEach (e :: es) X.env)).all (fun x => !x.1) && (backToKw cpos (keywordEach [] X.env)).all (fun x => x.1.isSome)
      && decide ((e :: es).length + ([] : List Keyword).length + (if ([] : List Keyword).isEmpty then 0 else 1) < 30)) = true := by rfl)
    (hline : (apos.endLine == cpos.line) = true := by rfl) (hs : starEach (e :: es) X.env = (false, eval e X.env) :: starEach es X.env := by rfl) (hplain : (backTo cpos (starEach es X.env)).any (·.1) = false := by rfl) :
    PE X (.Call (.Attribute o name apos) (e :: es) [] cpos) (tBM X.K T r to t) := by
  intro pins s σ H Q I h
  refine wpAny_Call_method_late hbase hfew hline rfl (thn (ho pins s σ H _ I h) fun v s1 ⟨x, H1, I1, r1, ty, q1⟩ => ?_)
  obtain ⟨h1, h2⟩ := tyV_is I1 r1 ty
  refine ⟨T, id, pa, slot, hty, h1, h2, ?_⟩
  have hA := ha cpos pins s1 σ H1 _ I1 q1
  rw [hs] at hA ⊢
  refine Calls.callWith_builtin (by show (false || (backTo cpos (starEach es X.env)).any (·.1)) = false; rw [hplain] <;> rfl) (Calls.evalArgs_plain ?_)
  exact thn hA fun us s2 ⟨vs, H2, I2, r2, q2⟩ => hm pins s2 σ H2 x vs v us Q I2 r1 r2 q2
/- xs.append(e), list.index on a module's tuple .. are MtR facts of 06m -/
end
end L2

namespace L2
open PySem PySem.Spec PyProof.Rows

def MtM (X : Cx) (id : String) (r : V → List V → Hp → VK → Prop) : Prop :=
  ∀ (pins : List (Addr × Obj)) (s : Shared) (σ : St) (H : Hp) (x : V) (xs : List V) (v : Value) (us : List Value) (Q : VK), Inv X pins σ H s → RelV x v → Vals xs us → r x xs H Q →
    wpAny (model X.prog X.w) X.A (call (.builtin id) (v :: us)) (EP X pins σ Q) X.xe s

theorem Vals.one : ∀ {x : V} {us : List Value}, Vals [x] us → ∃ u, us = [u] ∧ RelV x u
  | _, _, .cons r .nil => ⟨_, rfl, r⟩
section
variable {X : Cx} {pins : List (Addr × Obj)} {σ : St} {H : Hp} {s : Shared} {l b : Addr} {xs ys zs : List V}

theorem Inv.lset {its its' : List Value} {n : Nat} {f : Array Value → Array Value} {t' : Nat} (I : Inv X pins σ H s) (hH : H l = some (.lst xs))
    (e : s.heap.get? l = some { cls := .type "list", data := .seq its.toArray n }) (hf : f its.toArray = its'.toArray) (hv : Vals ys its') (hz : ys.length ≤ sizeLine) :
    Inv X pins σ (upd H l (.lst ys)) { s with heap := s.heap.update l (Obj.mapSeq f), toks := t' } := by
  have q := PySem.IsL.update e f
  rw [hf] at q
  refine I.write (x := l) (e := l) (by rw [hH]; exact trivial) (.inl rfl) (fun b' u hb hu => (Heap.get?_update_other s.heap (Obj.mapSeq f) (Ne.symm hb)).trans hu) ⟨_, q⟩ ?_
  exact ⟨hz, its', _, hv, q⟩
theorem Inv.lnew {its : List Value} {t' : Nat} (I : Inv X pins σ H s) (hv : Vals ys its) (hz : ys.length ≤ sizeLine) :
    Inv X pins σ (upd H s.heap.objs.size (.lst ys)) { s with heap := s.heap.push { cls := .type "list", data := .seq its.toArray }, toks := t' } :=
  I.laid (fun _ _ q => Heap.get?_push_of_some _ q) (Nat.le_refl _) ⟨hz, its, 0, hv, Heap.get?_push_size _ rfl⟩
theorem Inv.fresh (I : Inv X pins σ H s) : H s.heap.objs.size = none := I.hok.fresh (Nat.le_refl _)
theorem Inv.lstM (I : Inv X pins σ H s) (hH : H l = some (.lst xs)) : xs.length ≤ sizeLine ∧ ∃ (its : List Value) (n : Nat), Vals xs its ∧ xs.length = its.length ∧ s.heap.get? l = some { cls := .type "list", data := .seq its.toArray n } := by
  obtain ⟨z, its, n, r, e⟩ := I.hok l _ hH
  exact ⟨z, its, n, r, r.length, e⟩

theorem notLongL {n : Nat} (h : n ≤ sizeLine) : Builtin.List.listTooLong n = false := by
  unfold Builtin.List.listTooLong
  exact decide_eq_false (by (first | lia | omega))
end

section
variable {X : Cx}

def rAppend : V → List V → Hp → VK → Prop := fun x vs H Q => ∃ l xs y, x = .ref l ∧ vs = [y] ∧ H l = some (.lst xs) ∧ xs.length < sizeLine ∧ Q .non (upd H l (.lst (xs ++ [y])))
theorem mt_append : MtM X "list.append" rAppend := by
  intro pins s σ H x vs v us Q I rx rv h
  obtain ⟨l, xs, y, rfl, rfl, hH, hz, q⟩ := h
  cases rx
  obtain ⟨u, rfl, ru⟩ := rv.one
  obtain ⟨z, its, n, r, hl, e⟩ := I.lstM hH
  refine call_meets F.slot_list_append ⟨_, e, rfl⟩ F.entry_list_append (F.args_list_append_2 _ _) (PySem.list_append l its.toArray n u (by rw [List.size_toArray]; (first | lia | omega))) ⟨e, ?_⟩
  refine ⟨.non, _, I.lset (its' := its ++ [u]) hH e (by simp) (r.append (.cons ru .nil)) ?_, rfl, q⟩
  rw [List.length_append, List.length_singleton]
  (first | lia | omega)

def rExtend : V → List V → Hp → VK → Prop := fun x vs H Q => ∃ l b xs zs, x = .ref l ∧ vs = [.ref b] ∧ H l = some (.lst xs) ∧ H b = some (.lst zs) ∧ xs.length + zs.length ≤ sizeLine ∧ Q .non (upd H l (.lst (xs ++ zs)))
theorem mt_extend : MtM X "list.extend" rExtend := by
  intro pins s σ H x vs v us Q I rx rv h
  obtain ⟨l, b, xs, zs, rfl, rfl, hH, hB, hz, q⟩ := h
  cases rx
  obtain ⟨u, rfl, ru⟩ := rv.one
  cases ru
  obtain ⟨z, its, n, r, hl, e⟩ := I.lstM hH
  obtain ⟨z2, its2, n2, r2, hl2, e2⟩ := I.lstM hB
  have hsz : its.toArray.size + its2.toArray.size ≤ sizeLine := by rw [List.size_toArray, List.size_toArray]; (first | lia | omega)
  have hlong : ¬ (!its.toArray.isEmpty && Builtin.List.listTooLong (its.toArray.size + its2.toArray.size)) = true := by
    rw [notLongL hsz, Bool.and_false]
    exact Bool.false_ne_true
  refine call_meets F.slot_list_extend ⟨_, e, rfl⟩ F.entry_list_extend (F.args_list_extend_2 _ _)
    (AutoSeq1.list_extend_list_list_0 l its.toArray n b its2.toArray n2 hlong (by rw [List.size_toArray]; (first | lia | omega)) (by (first | lia | omega))) ⟨e, e2, ?_⟩
  refine ⟨.non, _, I.lset (its' := its ++ its2) hH e (by simp) (r.append r2) ?_, rfl, q⟩
  rw [List.length_append]
  (first | lia | omega)

end

section
variable {prog : Program} {w : World} {A : Around} {E : Value → Shared → Prop} {s : Shared}
end

section
variable {X : Cx}
end
end L2

namespace Att
open PySem PySem.W PySem.Calls PyProof.Rows

theorem ints_of_wellAll {P : Params} {h : Heap} : ∀ (ns : List Int) (vs : List Value), WellAll P h vs (ns.map WData.int) → IntsAre vs ns := by
  intro ns
  induction ns with
  | nil =>
    intro vs w
    rw [List.map_nil] at w
    cases w
    exact .nil
  | cons n ns ih =>
    intro vs w
    rw [List.map_cons] at w
    cases w with
    | cons a b =>
      cases a
      exact .cons _ _ (ih _ b)

theorem script_of {l : OpenLaw} {n : Nat} (hn : l.most = some n) {P : Params} {h : Heap} {args : List WData} {vals : List Value}
    (hpre : l.row.toRowW.claim.pre args = true) (hwl : WellAll P h vals args) :
    ∃ a vs ns, vals = [Value.ref a] ∧ args = [WData.list (ns.map WData.int)] ∧ h.get? a = some { cls := .type "list", data := .seq vs.toArray } ∧ IntsAre vs ns ∧ ns.length ≤ n := by
  have hsh : WShape.hasAll [] args [.list .int] = true := (pre_splitW hpre).1
  have hc : l.pre.holds [] { args := args } = true := (pre_splitW hpre).2
  obtain ⟨d, r, rfl, h1, h2⟩ := hasAllW_cons hsh
  obtain rfl := hasAllW_nil h2
  obtain ⟨xs, rfl, h3⟩ := hasW_list h1
  obtain ⟨ns, rfl⟩ := items_int h3
  have hlen : ns.length ≤ n := by
    unfold OpenLaw.pre at hc
    have h4 : (WTm.not (.lt (.lit (.int (n : Int))) (.len (.arg 0)))).holds [] { args := [.list (ns.map .int)] } = true := by
      have h4 := (holds_andW hc).1
      rw [hn] at h4
      exact h4
    have h5 := condW_of h4 (w_not (w_lt w_lit (w_len_list (w_arg rfl))))
    rw [List.length_map] at h5
    refine Nat.le_of_not_lt fun q => ?_
    have q' : (n : Int) < ((ns.length : Nat) : Int) := by (first | lia | omega)
    first
      | (rw [decide_eq_true q'] at h5; exact absurd h5 (by decide))
      | (simp at h5; (first | lia | omega))
  cases hwl with
  | cons w1 w2 =>
    cases w2
    cases w1 with
    | list ho hall => exact ⟨_, _, ns, rfl, rfl, ho, ints_of_wellAll ns _ hall, hlen⟩

theorem post_true (l : OpenLaw) (args : List WData) : l.row.toRowW.claim.post args (.bool true) args = true :=
  postW_of (r := l.row.toRowW) (X := (true == true))
    (show WShape.has [] (.bool true) .bool = true by first | rfl | decide | simp [WShape.has, WShape.arms, WShape.armsAll])
    (show (WTm.eq .res (.lit (.bool true))).value [] { args := args, res := some (.bool true), after := args } = some (.bool (true == true)) from w_eq_bool (w_res rfl) w_lit) rfl

theorem attach_call {l : OpenLaw} {n : Nat} {q : Program} {loose : List Str} {XP : (Str → Option Value) → Heap → Prop} {YP : World → Heap → Prop} {d : DefRec}
    (hn : l.most = some n) (hdf : d.params.defaults = [])
    (call : ∀ (w : World) (s₀ s₁ : Shared) (mg mb : Str → Option Value) (fa : Addr) (o : Obj) (pm cd doc : Value) (a : Addr) (vs : List Value) (ns : List Int),
      Ground q loose [] XP w s₀ mg mb s₁.heap → YP w s₁.heap →
      s₁.heap.get? fa = some o → o.data = .func (docDef d.name d.params d.body d.scope pm cd doc) → s₁.heap.CodeRec cd d.name → mg d.name = some (.ref fa) →
      s₁.heap.get? a = some { cls := .type "list", data := .seq vs.toArray } → IntsAre vs ns → ns.length ≤ n → s₁.gens = #[] →
      codeAny (model l.prog w) callerA (.call (.ref fa) ⟨[.ref a], []⟩) (fun r s' => r = .ok (.ret (.bool true)) ∧ OldK s₁.heap s'.heap ∧ s'.os = s₁.os ∧ AllBare s'.gens) s₁) :
    WalkO q loose XP YP l.row.toRowW d [] (fun f vs => PySem.call f vs) := by
  intro w s₀ s₁ mg mb G Y fa o pm cd doc dV kV ho hd hcd hD hmg hg args vals as hpre hlay hrd hwl hlo
  obtain rfl : dV = .none := Dflts.none hD hdf
  obtain rfl : kV = .none := Dflts.noKw hD
  obtain ⟨a, vs, ns, rfl, rfl, hobj, hints, hlen⟩ := script_of hn hpre hwl
  refine enter_call (codeAny_mono (call w s₀ s₁ mg mb fa o pm cd doc a vs ns G Y ho (fd_plain hd) hcd hmg hobj hints hlen hg) fun r s' hq => ?_)
  obtain ⟨rfl, h2, h3, h4⟩ := hq
  exact ⟨.inl ⟨.bool true, .bool true, [], rfl, fun _ => rfl, .bool true, post_true l _, fun _ => ⟨List.Pairwise.nil, fun _ hm => (nomatch hm)⟩⟩, h2, h3, h4⟩

section
variable {prog : Program} {w : World} {A : Around} {E : Value → Shared → Prop} {s : Shared} {K : Frag}

end
end Att

namespace L2
open PySem PySem.Spec PyProof.Rows

theorem vals_ints : ∀ {vs : List Value} {ns : List Int}, IntsAre vs ns → Vals (ns.map V.int) vs
  | _, _, .nil => .nil
  | _, _, .cons n t h => .cons ⟨t, rfl⟩ (vals_ints h)

def Only (H : Hp) : Prop := ∀ b, H b = none ∨ ∃ o xs, H b = some (.frz o (.lst xs))

theorem law_call {P : Program} {w : World} {K : PySem.W.Frag} {mg mb : Str → Option Value} {CX : CXT} {k : Nat} {fa a : Addr} {fd : FuncData} {x : Str} {sp : Sp} {s₁ : Shared} {vs : List Value} {ns : List Int}
    (KX : K.In s₁.heap) (hns : s₁.heap.Ns mainGlobals mg) (hb : s₁.heap.Ns builtinsNs mb) (hbb : ∀ x : Str, x ≠ "__name__" → mb x = bootBuiltins x) (hlim : s₁.heap.NoLimit) (hg : s₁.gens = #[])
    (ha : s₁.heap.get? a = some { cls := .type "list", data := .seq vs.toArray }) (hi : IntsAre vs ns) (hl : ns.length ≤ sizeLine) (hr : Room k callerA)
    (F : ∀ base : Heap, K.In base → base.Ns mainGlobals mg → FnOk P w K mg base CX k fa fd [x] sp) (hbind : ∀ (s : Shared) (u : Value), BindsTo s fd ⟨[u], []⟩ [(x, u)])
    (hsp : ∀ H : Hp, Only H → SqL K H a (ns.map V.int) → sp [.ref a] H (fun v _ => v = .bl true) fun _ _ _ => False)
    (hCX : ∀ H e s', CX [] H s₁ (fun _ _ _ => False) e s' → False) :
    codeAny (model P w) callerA (.call (.ref fa) ⟨[.ref a], []⟩) (fun r s' => r = .ok (.ret (.bool true)) ∧ OldK s₁.heap s'.heap ∧ s'.os = s₁.os ∧ AllBare s'.gens) s₁ := by
  have rv := vals_ints hi
  have lenV := hi.length
  -- from an abstract heap in which nothing but the script may be tracked
  have core : ∀ H : Hp, Only H → SqL K H a (ns.map V.int) → HOk P w H s₁.heap → (∀ b, H b ≠ none → b = a) → (H a ≠ none → K.lookup a = none) →
      codeAny (model P w) callerA (.call (.ref fa) ⟨[.ref a], []⟩) (fun r s' => r = .ok (.ret (.bool true)) ∧ OldK s₁.heap s'.heap ∧ s'.os = s₁.os ∧ AllBare s'.gens) s₁ := by
    intro H hO hS hok hA hK
    have base_of : ∀ {b : Addr} {o : Obj}, s₁.heap.get? b = some o → H b = none → (hidT s₁.heap H).get? b = some o := fun e n => hidT_get e n
    have noA : ∀ {b : Addr} {o : Obj} {es : Array DictEntry} {ep : Nat}, s₁.heap.get? b = some o → o.data = .dict es ep → H b = none := fun {b o es ep} e d => by
      cases q : H b with
      | none => rfl
      | some u =>
        have e' : b = a := hA b (by rw [q]; simp)
        subst e'
        rw [ha] at e; cases e
        have d' : Data.seq vs.toArray _ = Data.dict es ep := d
        cases d'
    have nsK : ∀ {b : Addr} {m : Str → Option Value}, s₁.heap.Ns b m → (hidT s₁.heap H).Ns b m := fun {b m} ⟨o, es, ep, e, d, r⟩ => ⟨o, es, ep, base_of e (noA e d), d, r⟩
    have hKb : K.In (hidT s₁.heap H) := fun b o e => base_of (KX b o e) (by
      cases q : H b with
      | none => rfl
      | some u =>
        have e' : b = a := hA b (by rw [q]; simp)
        subst e'
        rw [hK (by rw [q]; simp)] at e; cases e)
    have hM : Mod K mg (hidT s₁.heap H) := ⟨hKb, nsK hns, ⟨mb, nsK hb, hbb⟩, let ⟨mc, h1, h2⟩ := hlim; ⟨mc, nsK h1, h2⟩⟩
    have e0 : Env0 P w K mg (hidT s₁.heap H) callerA [] s₁ H := ⟨rfl, hM, fun b o e => of_hidT e, Nat.le_of_eq (hidT_size _ _), trivial, fun b hb => absurd (show b ∈ ([] : List Addr) from hb) (by simp), hok, .of_eq hg⟩
    refine codeAny_mono ((F _ hKb (nsK hns)).run callerA [] s₁ H ⟨[.ref a], []⟩ [.ref a] [.ref a] _ _ hr e0 (hbind s₁ (.ref a)) (.cons rfl .nil) (hsp H hO hS)) fun r s' h => ?_
    cases r with
    | error e => exact (hCX H e s' h).elim
    | ok fl =>
      cases fl with
      | next => exact False.elim h
      | brk => exact False.elim h
      | cont => exact False.elim h
      | ret u =>
        obtain ⟨v, H', os, bare, un, hok', r', q⟩ := h
        have q' : v = .bl true := q
        subst q'
        obtain rfl : u = Value.bool true := r'
        refine ⟨rfl, OldK.of_keep fun b o e => ?_, os, bare⟩
        cases q : H b with
        | none => exact un.keep b o e q (by intro z; exact absurd (show b ∈ ([] : List Addr) from z) (by simp)) (by simp)
        | some u =>
          rcases hO b with z | ⟨ob, xs, z⟩
          · rw [q] at z; cases z
          · have z2 := un.frzs b ob _ z
            obtain ⟨e1, _⟩ := hok b _ z
            obtain ⟨e2, _⟩ := hok' b _ z2
            rw [e] at e1; cases e1
            exact e2
  cases hk : K.lookup a with
  | some o =>
    -- the script is one of the module's own objects
    have e := KX a o hk
    rw [ha] at e
    cases e
    refine core (fun _ => none) (fun _ => .inl rfl) (.inr ⟨_, vs.toArray, _, hk, rfl, rfl, rfl, by rw [List.size_toArray, lenV]; exact hl, by simpa using rv⟩) (fun b u z => by have z' : (none : Option HO) = some u := z; cases z') (fun b z => absurd rfl z) fun z => absurd rfl z
  | none =>
    refine core (fun b => if b = a then some (.frz { cls := .type "list", data := .seq vs.toArray } (.lst (ns.map V.int))) else none) (fun b => ?_) (.inl (.inr ⟨{ cls := .type "list", data := .seq vs.toArray }, if_pos rfl⟩)) (fun b u z => ?_) (fun b z => ?_) fun _ => hk
    · by_cases hb : b = a
      · exact .inr ⟨_, _, if_pos hb⟩
      · exact .inl (if_neg hb)
    · by_cases hb : b = a
      · have z' := (if_pos hb).symm.trans z
        cases z'
        subst hb
        exact ⟨ha, by rw [List.length_map]; exact hl, vs, _, rv, ha⟩
      · have z' := (if_neg hb).symm.trans z
        cases z'
    · by_cases hb : b = a
      · exact hb
      · exact absurd (if_neg hb) z
end L2

namespace L2
open PySem PySem.Spec PyProof.Rows

theorem walk_of {l : PySem.W.OpenLaw} {n k : Nat} {q : Program} {loose : List Str} {XP : (Str → Option Value) → Heap → Prop} {YP : World → Heap → Prop} {d : DefRec} {K : Params → PySem.W.Frag} {CX : World → CXT} {sp : World → Sp} {x : Str}
    (hn : l.most = some n) (hn2 : n ≤ sizeLine) (hdf : d.params.defaults = []) (hr : Room k callerA)
    (hY : ∀ (w : World) (h : Heap), YP w h → (K w.params).In h)
    (F : ∀ (w : World) (mg : Str → Option Value) (fa : Addr) (h : Heap), (K w.params).In h → h.Ns mainGlobals mg → mg d.name = some (.ref fa) →
      ∃ fd : FuncData, (∀ (s : Shared) (u : Value), BindsTo s fd ⟨[u], []⟩ [(x, u)]) ∧
        ∀ base : Heap, (K w.params).In base → base.Ns mainGlobals mg → FnOk l.prog w (K w.params) mg base (CX w) k fa fd [x] (sp w))
    (hsp : ∀ (w : World) (H : Hp) (a : Addr) (ns : List Int), ns.length ≤ n → Only H → SqL (K w.params) H a (ns.map V.int) → sp w [.ref a] H (fun v _ => v = .bl true) fun _ _ _ => False)
    (hCX : ∀ (w : World) (H : Hp) (s : Shared) (e : Value) (s' : Shared), CX w [] H s (fun _ _ _ => False) e s' → False) :
    PySem.W.WalkO q loose XP YP l.row.toRowW d [] (fun f vs => PySem.call f vs) := by
  refine Att.attach_call hn hdf fun w s₀ s₁ mg mb fa o pm cd doc a vs ns G Y ho hd hcd hmg hobj hints hlen hg => ?_
  have KX := hY w _ Y
  obtain ⟨fd, hb, hF⟩ := F w mg fa _ KX G.T.g hmg
  exact law_call KX G.T.g G.T.b G.T.builtins G.T.nolimit hg hobj hints (Nat.le_trans hlen hn2) hr hF hb (fun H hO hS => hsp w H a ns hlen hO hS) fun H e s' => hCX w H s₁ e s'
end L2

/- THE LAST THEOREM (shape; LID, My.* are yours):
   My.Adr: a structure of the addresses that your layer names (classes, functions); My.Txt K t: a structure (Prop) of the equations over K;
   My.txt_mk : {K} {implicit addresses ..} (e1 : nsIn K mainGlobals "law" = some (some (.ref f))) (e2 : K.lookup f = some ⟨oc, od, .func (fnOf "law" "law" params body scope dV kV doc pm an cdv ct), sl⟩) (e3 : codeIn K cdv "law" = true) .. : ∃ t, My.Txt K t

set_option maxRecDepth 100000 in
set_option maxHeartbeats 0 in
theorem PySem.Challenge.cw_LID_holds : PySem.Challenge.rw_LID.Holds := by
  w_on; o_law; k_head; (case hw => w_witness2)
  k_fill
  refine L2.walk_of (l := PySem.Challenge.rw_LID) (n := 63) (k := 40) (x := "script") (CX := fun w => ..) (sp := fun _ => My.sp_law) rfl (by decide) rfl ⟨rfl, by decide, by decide⟩ (fun w h Y => PySem.W.kIn_of Y) ?F ?S ?C
  case F =>
    intro w mg fa h KX G hmg
    have T : ∃ t, My.Txt (L2.KOf KX) t := by
      dsimp only [L2.KOf]                          -- K must stand as «<heap const> w.params» for k_is
      refine' My.txt_mk ?e1 ?e2 ?e3 ..
      (case e1 => PySem.W.k_is)                    -- in the order: a name -> its address -> its object -> its parts
      (case e2 => PySem.W.k_is)
      ..
    obtain ⟨t, T⟩ := T
    have e0 := hmg.symm.trans (PySem.W.mg_of KX G T.law)
    cases e0                                       -- fa is the law's own address
    exact ⟨_, fun s u => .of_eq rfl, fun base kb nb => My.law_fn T kb nb⟩     -- if «.of_eq rfl» comes too early: refine' ⟨_, ?b, fun base kb nb => My.law_fn T kb nb⟩; exact fun s u => .of_eq rfl
  case S => exact fun w H a ns hl hO hS => ..
  case C => exact ..
(the tactic k_is has no namespace: write k_is) -/

namespace L2
open PySem PySem.Spec PyProof.Rows

def inClass (s : Stmt) (j : Nat) : Stmt := match s with
  | .ClassDef _ _ _ body _ _ _ _ _ _ _ => body.getD j (.Pass ⟨0, 0, 0, 0⟩)
  | _ => .Pass ⟨0, 0, 0, 0⟩
def defArgs (s : Stmt) : Arguments := match s with
  | .FunctionDef _ a _ _ _ _ _ _ _ _ => a
  | _ => { posonlyargs := [], args := [], vararg := none, kwonlyargs := [], kw_defaults := [], kwarg := none, defaults := [] }
def defBody (s : Stmt) : List Stmt := match s with
  | .FunctionDef _ _ b _ _ _ _ _ _ _ => b
  | _ => []
def defScope (s : Stmt) : Scope := match s with
  | .FunctionDef _ _ _ _ _ _ sc _ _ _ => sc
  | _ => { kind := .function, names := [], isGenerator := false, isCoroutine := false }

abbrev CX0 : CXT := fun _ _ _ _ _ _ => False
abbrev E0 : XK := fun _ _ _ => False
theorem pass0 {X : Cx} : Passes CX0 X E0 := fun _ _ _ _ _ _ _ h => h.elim

structure Fun (K : PySem.W.Frag) (x qual : Str) (st : Stmt) (f : Addr) (fd : FuncData) : Prop where
  ex : ∃ (oc : Value) (od : Option Addr) (kV doc pm : Value) (an : Option Addr) (cdv ct : Value) (osl : Array (Option Value)),
    fd = PySem.W.fnOf x qual (defArgs st) (defBody st) (defScope st) .none kV doc pm an cdv ct ∧ K.lookup f = some ⟨oc, od, .func fd, osl⟩ ∧ PySem.W.codeIn K cdv qual = true
  kp : PySem.W.keepIn K (.ref f) = true
section
variable {P : Program} {w : World} {K : PySem.W.Frag} {mg : Str → Option Value} {base : Heap}
theorem Fun.ok {x qual : Str} {st : Stmt} {f : Addr} {fd : FuncData} {N ps : List Str} {k : Nat} {sp : Sp} (F : Fun K x qual st f fd) (S : FnScope N ps (defScope st)) (len : ∀ vs H Q E, sp vs H Q E → vs.length = ps.length)
    (hbody : ∀ (cdv : Value) (A : Around) (outer : List Env) (s : Shared) (H : Hp) (vs : List V) (Q : VK) (E : XK), Room k (A.deeper (envOfC qual (defScope st) s.heap.objs.size f cdv)) → sp vs H Q E →
      ∃ t, PSs (cxOf CX0 P w K mg base N qual (defScope st) f cdv A outer s H E).nox (defBody st) t ∧ t { nx := fun _ H' => Q .non H', rt := Q } (start N vs) H) : FnOk P w K mg base CX0 (k + 1) f fd ps sp := by
  obtain ⟨oc, od, kV, doc, pm, an, cdv, ct, osl, rfl, lk, hcd⟩ := F.ex
  refine fn_of lk hcd S len fun A outer s H vs Q E hr hsp => ?_
  obtain ⟨t, h, q⟩ := hbody cdv A outer s H vs Q E hr hsp
  exact ⟨t, h.nox, q⟩
theorem Fun.binds {x qual : Str} {st : Stmt} {f : Addr} {fd : FuncData} {ps : List Str} (F : Fun K x qual st f fd)
    (h : ∀ (kV doc pm : Value) (an : Option Addr) (cdv ct : Value) (us : List Value), us.length = ps.length → bindArgs (PySem.W.fnOf x qual (defArgs st) (defBody st) (defScope st) .none kV doc pm an cdv ct) ⟨us, []⟩ = pure (ps.zip us)) : Binds K fd ps [] := by
  obtain ⟨oc, od, kV, doc, pm, an, cdv, ct, osl, rfl, lk, hcd⟩ := F.ex
  exact .all (h kV doc pm an cdv ct)
theorem fun_mk {x qual : Str} {st : Stmt} {f : Addr} {oc : Value} {od an : Option Addr} {osl : Array (Option Value)} {kV doc pm cdv ct : Value} (l : K.lookup f = some ⟨oc, od, .func (PySem.W.fnOf x qual (defArgs st) (defBody st) (defScope st) .none kV doc pm an cdv ct), osl⟩)
    (c : PySem.W.codeIn K cdv qual = true) (k : PySem.W.keepIn K (.ref f) = true) : Fun K x qual st f (PySem.W.fnOf x qual (defArgs st) (defBody st) (defScope st) .none kV doc pm an cdv ct) := ⟨⟨oc, od, kV, doc, pm, an, cdv, ct, osl, rfl, l, c⟩, k⟩
end
theorem small1000 {n : Nat} (h : n ≤ 1000) : n < sizeLine := Nat.lt_of_le_of_lt h (by decide)

section
variable {X : Cx}
theorem pv (i : Nat) {x : Str} {pos : Pos} (hN : X.N[i]? = some x := by rfl) (hv : Vis X.env.scope x := by first | exact Or.inl rfl | exact Or.inr (Or.inl rfl) | exact Or.inr (Or.inr rfl)) (hd : (x == ("__debug__" : Str)) = false := by decide)
    (hcd : (x == ("__classdict__" : Str)) = false := by decide) : PE X (.Name x pos) (tVar i) := pe_var hN hv hd hcd
end

theorem iteF {A B : Prop} (h : B) : if false = true then A else B := by
  rw [if_neg Bool.false_ne_true]
  exact h
theorem iteT {A B : Prop} (h : A) : if true = true then A else B := by
  rw [if_pos rfl]
  exact h
theorem ite2 {c A B : Prop} [Decidable c] (h1 : c → A) (h2 : ¬ c → B) : if c then A else B := by
  by_cases h : c
  · rw [if_pos h]
    exact h1 h
  · rw [if_neg h]
    exact h2 h
theorem iteNS {c A B : Prop} [Decidable c] (hc : c) (h : B) : if (!decide c) = true then A else B := by
  rw [decide_eq_true hc]
  exact iteF h

def Same (H H' : Hp) : Prop := ∀ b o, H b = some o → H' b = some o
theorem Same.refl (H : Hp) : Same H H := fun _ _ h => h
theorem Same.trans {H H1 H2 : Hp} (a : Same H H1) (b : Same H1 H2) : Same H H2 := fun c o h => b c o (a c o h)
theorem Same.free {H H' : Hp} (e : Same H H') {l : Addr} (h : H' l = Option.none) : H l = Option.none := by
  cases q : H l with
  | none => rfl
  | some o =>
    rw [e l o q] at h
    cases h
theorem Same.seq {K : PySem.W.Frag} {H H' : Hp} {a : Addr} {xs : List V} (e : Same H H') (h : SqL K H a xs) : SqL K H' a xs := by
  rcases h with (h | ⟨o, h⟩) | h
  · exact .inl (.inl (e _ _ h))
  · exact .inl (.inr ⟨o, e _ _ h⟩)
  · exact .inr h

end L2

namespace L2
open PySem PySem.Spec PyProof.Rows

def closOf (cells : List (Str × Addr)) : List (Str × NameKind) → List (Str × Addr) → List (Str × Addr)
  | [], cs => cs
  | (n, k) :: r, cs => closOf cells r (if (k == NameKind.free) = true then (n, (cells.lookup n).getD 0) :: cs else cs)
theorem closure_go {env : Env} {f : Str × NameKind → List (Str × Addr) → Sem (ForInStep (List (Str × Addr)))}
    (hf1 : ∀ n k cs c, (k == NameKind.free) = true → env.cells.lookup n = some c → f (n, k) cs = pure (.yield ((n, c) :: cs)))
    (hf2 : ∀ n k cs, (k == NameKind.free) = false → f (n, k) cs = pure (.yield cs)) :
    ∀ (names : List (Str × NameKind)) (cs : List (Str × Addr)), (∀ n k, (n, k) ∈ names → (k == NameKind.free) = true → ∃ c, env.cells.lookup n = some c) →
      forIn names cs f = (pure (closOf env.cells names cs) : Sem (List (Str × Addr)))
  | [], cs, _ => by rw [List.forIn_nil]; rfl
  | (n, k) :: r, cs, h => by
    have ih := fun cs => closure_go hf1 hf2 r cs fun m j hm => h m j (List.mem_cons_of_mem _ hm)
    rw [List.forIn_cons]
    cases e : (k == NameKind.free) with
    | true =>
      obtain ⟨c, hc⟩ := h n k List.mem_cons_self e
      rw [hf1 n k cs c e hc, pure_bind]
      show forIn r ((n, c) :: cs) f = _
      rw [ih]
      conv => rhs; unfold closOf
      rw [if_pos e, hc]
      rfl
    | false =>
      rw [hf2 n k cs e, pure_bind]
      show forIn r cs f = _
      rw [ih]
      conv => rhs; unfold closOf
      rw [if_neg (by rw [e]; exact Bool.false_ne_true)]
theorem closure_is {scope : Scope} {env : Env} (h : ∀ n k, (n, k) ∈ scope.names → (k == NameKind.free) = true → ∃ c, env.cells.lookup n = some c) : closureFor scope env = pure (closOf env.cells scope.names []) := by
  simp only [closureFor]
  rw [closure_go (env := env) ?_ ?_ scope.names [] h]
  · rfl
  · intro n k cs c e hc
    show (if (k == NameKind.free) = true then _ else _) = _
    rw [if_pos e]
    unfold cellOf
    rw [hc]
    rfl
  · intro n k cs e
    show (if (k == NameKind.free) = true then _ else _) = _
    rw [if_neg (by rw [e]; exact Bool.false_ne_true)]
theorem closOf_look {cells : List (Str × Addr)} {x : Str} {c : Addr} : ∀ {names : List (Str × NameKind)} {cs : List (Str × Addr)}, (closOf cells names cs).lookup x = some c → cs.lookup x = some c ∨ ((x, NameKind.free) ∈ names ∧ (cells.lookup x).getD 0 = c)
  | [], cs, h => .inl h
  | (n, k) :: r, cs, h => by
    unfold closOf at h
    rcases closOf_look h with q | ⟨q1, q2⟩
    · by_cases e : (k == NameKind.free) = true
      · rw [if_pos e] at q
        by_cases hx : x = n
        · subst hx
          rw [List.lookup_cons_self] at q
          have hk : k = NameKind.free := eq_of_beq e
          exact .inr ⟨by rw [hk]; exact List.mem_cons_self, Option.some.inj q⟩
        · have hb : (x == n) = false := beq_eq_false_iff_ne.mpr hx
          simp only [List.lookup_cons, hb] at q
          exact .inl q
      · rw [if_neg e] at q
        exact .inl q
    · exact .inr ⟨List.mem_cons_of_mem _ q1, q2⟩
theorem closOf_has {cells : List (Str × Addr)} {x : Str} : ∀ {names : List (Str × NameKind)} {cs : List (Str × Addr)}, ((x, NameKind.free) ∈ names ∨ ∃ c, cs.lookup x = some c) → ∃ c, (closOf cells names cs).lookup x = some c
  | [], cs, h => by
    rcases h with h | h
    · cases h
    · exact h
  | (n, k) :: r, cs, h => by
    unfold closOf
    apply closOf_has
    rcases h with h | ⟨c, h⟩
    · rcases List.mem_cons.mp h with h | h
      · cases h
        right
        rw [if_pos (by rfl)]
        exact ⟨_, List.lookup_cons_self⟩
      · exact .inl h
    · right
      by_cases e : (k == NameKind.free) = true
      · rw [if_pos e]
        by_cases hx : x = n
        · subst hx
          exact ⟨_, List.lookup_cons_self⟩
        · have hb : (x == n) = false := beq_eq_false_iff_ne.mpr hx
          exact ⟨c, by simp only [List.lookup_cons, hb]; exact h⟩
      · rw [if_neg e]
        exact ⟨c, h⟩
theorem relabel_look {env : Env} {x : Str} {k : NameKind} : ∀ {names : List (Str × NameKind)},
    (names.map fun (n, k) => if (k == NameKind.free && env.scope.kind == .function && env.kindOf n == some .cell) then (n, NameKind.cell) else (n, k)).lookup x = some k →
      ∃ k0, names.lookup x = some k0 ∧ (k = k0 ∨ (k0 = .free ∧ k = .cell))
  | [], h => by cases h
  | (n, j) :: r, h => by
    have ih := @relabel_look env x k r
    replace h : List.lookup x ((if (j == NameKind.free && env.scope.kind == .function && env.kindOf n == some .cell) = true then (n, NameKind.cell) else (n, j)) :: _) = some k := h
    cases hx : x == n with
    | true =>
      by_cases hc : (j == NameKind.free && env.scope.kind == .function && env.kindOf n == some .cell) = true
      · rw [if_pos hc] at h
        simp only [List.lookup_cons, hx] at h ⊢
        have hj : j = NameKind.free := by
          rw [Bool.and_eq_true, Bool.and_eq_true] at hc
          exact eq_of_beq hc.1.1
        exact ⟨j, rfl, .inr ⟨hj, (Option.some.inj h).symm⟩⟩
      · rw [if_neg hc] at h
        simp only [List.lookup_cons, hx] at h ⊢
        exact ⟨j, rfl, .inl (Option.some.inj h).symm⟩
    | false =>
      by_cases hc : (j == NameKind.free && env.scope.kind == .function && env.kindOf n == some .cell) = true
      · rw [if_pos hc] at h
        simp only [List.lookup_cons, hx] at h ⊢
        exact ih h
      · rw [if_neg hc] at h
        simp only [List.lookup_cons, hx] at h ⊢
        exact ih h
theorem relabel_free {env : Env} {x : Str} : ∀ {names : List (Str × NameKind)}, names.lookup x = some .free →
    (names.map fun (n, k) => if (k == NameKind.free && env.scope.kind == .function && env.kindOf n == some .cell) then (n, NameKind.cell) else (n, k)).lookup x = some .cell ∨
    (names.map fun (n, k) => if (k == NameKind.free && env.scope.kind == .function && env.kindOf n == some .cell) then (n, NameKind.cell) else (n, k)).lookup x = some .free
  | [], h => by cases h
  | (n, j) :: r, h => by
    have ih := @relabel_free env x r
    show List.lookup x ((if (j == NameKind.free && env.scope.kind == .function && env.kindOf n == some .cell) = true then (n, NameKind.cell) else (n, j)) :: _) = _ ∨
      List.lookup x ((if (j == NameKind.free && env.scope.kind == .function && env.kindOf n == some .cell) = true then (n, NameKind.cell) else (n, j)) :: _) = _
    cases hx : x == n with
    | true =>
      simp only [List.lookup_cons, hx] at h
      cases h
      by_cases hc : (NameKind.free == NameKind.free && env.scope.kind == .function && env.kindOf n == some .cell) = true
      · rw [if_pos hc]
        simp only [List.lookup_cons, hx]
        exact .inl trivial
      · rw [if_neg hc]
        simp only [List.lookup_cons, hx]
        exact .inr trivial
    | false =>
      simp only [List.lookup_cons, hx] at h
      by_cases hc : (j == NameKind.free && env.scope.kind == .function && env.kindOf n == some .cell) = true
      · rw [if_pos hc]
        simp only [List.lookup_cons, hx]
        exact ih h
      · rw [if_neg hc]
        simp only [List.lookup_cons, hx]
        exact ih h

def cxComp (X : Cx) (N : List Str) (scope : Scope) (xe : Value → Shared → Prop) (C : Addr) (s : Shared) (H : Hp) (fp : List Addr) : Cx where
  prog := X.prog
  w := X.w
  K := X.K
  mg := X.mg
  base := X.base
  A := X.A
  N := N
  s₀ := s
  H₀ := H
  env := compEnvC scope (closOf X.env.cells scope.names []) C X.env
  outer := X.stack
  stack := X.stack
  ex := fp
  fn := fun _ => false
  calm := X.calm
  pn := []
  xe := xe
def takeSt (σ : St) (js : List Nat) : St := js.map fun j => (σ[j]?).getD none
structure CompText (X : Cx) (scope : Scope) (own frees : List Str) (js : List Nat) : Prop where
  kind : scope.kind = .function
  nocell : ∀ y ∈ scope.names, y.2 ≠ .cell
  names : ∀ y ∈ scope.names, y.2 = .local → scope.names.lookup y.1 = some .local
  free : ∀ y ∈ scope.names, y.2 = .free → X.env.scope.names.lookup y.1 = some .cell ∨ X.env.scope.names.lookup y.1 = some .free
  at_ : js.map (fun j => X.N[j]?) = frees.map some
  fr : ∀ x ∈ frees, scope.names.lookup x = some .free
theorem takeSt_get {σ : St} {js : List Nat} {i : Nat} {v : V} (h : (takeSt σ js)[i]? = some (some v)) : ∃ j, js[i]? = some j ∧ σ[j]? = some (some v) := by
  unfold takeSt at h
  rw [List.getElem?_map] at h
  cases e : js[i]? with
  | none => rw [e] at h; cases h
  | some j =>
    rw [e] at h
    have h' : (σ[j]?).getD none = some v := Option.some.inj h
    refine ⟨j, rfl, ?_⟩
    cases q : σ[j]? with
    | none => rw [q] at h'; cases h'
    | some o => rw [q] at h'; rw [show o = some v from h']

section
variable {X : Cx}
theorem closure_ok {pins : List (Addr × Obj)} {σ : St} {H : Hp} {s : Shared} {scope : Scope} {own frees : List Str} {js : List Nat} (I : Inv X pins σ H s) (T : CompText X scope own frees js) :
    ∀ n k, (n, k) ∈ scope.names → (k == NameKind.free) = true → ∃ c, X.env.cells.lookup n = some c := fun n k hm e => by
  have hk : k = NameKind.free := eq_of_beq e
  exact I.ok.has n (T.free (n, k) hm hk)
theorem inv_comp {pins : List (Addr × Obj)} {σ : St} {H : Hp} {s : Shared} {scope : Scope} {own frees : List Str} {js : List Nat} {fp : List Addr} {D C : Addr} {h1 : Heap} {t1 : Nat} {m : Str → Option Value} {xe : Value → Shared → Prop}
    (I : Inv X pins σ H s) (T : CompText X scope own frees js) (hf : ∀ b ∈ fp, FpOk X pins H b) (hfo : ∀ b ∈ fp, ∃ o, s.heap.get? b = some o) (hD : s.heap.objs.size ≤ D) (hC : s.heap.objs.size ≤ C) (hDC : D ≠ C)
    (old : ∀ b o, s.heap.get? b = some o → h1.get? b = some o) (hl : h1.get? D = some { cls := .type "list", data := .seq ([] : List Value).toArray 0 }) (hn : h1.Ns C m) :
    Inv (cxComp X (own ++ frees) scope xe C s H fp) [] (List.replicate own.length none ++ takeSt σ js) (upd H D (.lst [])) { s with heap := h1, toks := t1 } := by
  have cells : ∀ x c, (closOf X.env.cells scope.names []).lookup x = some c → X.env.cells.lookup x = some c := fun x c h => by
    rcases closOf_look h with q | ⟨q1, q2⟩
    · cases q
    · obtain ⟨c', hc'⟩ := closure_ok I T x .free q1 rfl
      rw [hc'] at q2
      rw [hc']
      exact congrArg some q2
  have lt_of : ∀ b o, s.heap.get? b = some o → b < s.heap.objs.size := fun b o e => Heap.lt_size e
  have hcl : ∀ x c, X.env.cells.lookup x = some c → c < s.heap.objs.size := fun x c e => by
    obtain ⟨v, q⟩ := I.cell x c e
    exact q.lt
  have frlt : ∀ b ∈ frs X.stack, b < s.heap.objs.size := fun b hb => by
    obtain ⟨_, o, ho, _⟩ := I.stack.mem hb
    exact Heap.lt_size ho
  have hHD : H D = none := I.hok.fresh hD
  have hHC : H C = none := I.hok.fresh hC
  refine ⟨⟨I.ok.mod, T.kind, I.ok.glob, I.ok.blt, hC, fun x y c a b => I.ok.inj x y c (cells x c a) (cells y c b), fun x hx => ?_, fun x c z _ => (nomatch z), I.ok.hd, I.ok.frames, .inl rfl, fun b hb => ⟨?_, fun x c e z => ?_⟩,
      fun b o e => I.bs b o e, Nat.le_trans I.ok.bsz I.sz, fun b o e hb => ?_, fun b hb z => ?_, I.stack, I.stkFree⟩,
    rfl, I.bare, Un.laid old hD hHD, ⟨m, hn, fun i x v e1 e2 e3 => ?_⟩, fun x c e => ?_, ?_, fun x c e => ?_, fun p hp => absurd (show p ∈ ([] : List (Addr × Obj)) from hp) (by simp), ?_, ?_⟩
  · -- has
    have hx : (relabel scope X.env).names.lookup x = some .cell ∨ (relabel scope X.env).names.lookup x = some .free := hx
    have hf0 : (x, NameKind.free) ∈ scope.names := by
      rcases hx with hx | hx
      · obtain ⟨k0, q, r⟩ := relabel_look hx
        have hm := PySem.mem_of_lookup q
        rcases r with r | ⟨r, _⟩
        · exact absurd r.symm (T.nocell _ hm)
        · rw [r] at hm; exact hm
      · obtain ⟨k0, q, r⟩ := relabel_look hx
        have hm := PySem.mem_of_lookup q
        rcases r with r | ⟨_, r⟩
        · rw [← r] at hm; exact hm
        · cases r
    exact closOf_has (.inl hf0)
  · -- b ≠ C
    obtain ⟨o, ho⟩ := hfo b hb
    exact Nat.ne_of_lt (Nat.lt_of_lt_of_le (lt_of b o ho) hC)
  · exact (hf b hb).2.2.2.2.1 x c (cells x c e) z
  · -- noex
    obtain ⟨_, _, _, f3, _, _⟩ := hf b hb
    rcases f3 with z | z
    · exact I.ok.noex b o e z
    · exact absurd (Nat.lt_of_lt_of_le (Heap.lt_size (I.ok.bs b o e).1) z) (Nat.lt_irrefl _)
  · -- exfs
    obtain ⟨_, f1, f2, _⟩ := hf b hb
    rcases List.mem_cons.mp (I.stkSub b z) with q | q
    · exact f1 q
    · exact f2 q
  · -- loc
    by_cases hi : i < own.length
    · rw [List.getElem?_append_left (by simpa using hi), List.getElem?_replicate, if_pos hi] at e2
      cases e2
    · rw [List.getElem?_append_right (by simpa using hi), List.length_replicate] at e2
      replace e1 : (own ++ frees)[i]? = some x := e1
      rw [List.getElem?_append_right (by (first | lia | omega))] at e1
      obtain ⟨j, hj, hσ⟩ := takeSt_get e2
      have hN : X.N[j]? = some x := by
        have q := congrArg (fun l => l[i - own.length]?) T.at_
        simp only [List.getElem?_map, hj, e1, Option.map_some] at q
        exact Option.some.inj q
      have hfx := T.fr x (List.mem_of_getElem? e1)
      have hm := PySem.mem_of_lookup hfx
      have hk := T.free (x, .free) hm rfl
      obtain ⟨m0, hn0, hl0⟩ := I.loc
      obtain ⟨u, r, l⟩ := hl0 j x v hN hσ (by rcases hk with k | k; exact .inr (.inl k); exact .inr (.inr k))
      refine ⟨u, r, .inr ⟨relabel_free hfx, ?_⟩⟩
      rcases l with ⟨hkl, _⟩ | ⟨_, c, hc, hcell⟩
      · have hkl : X.env.scope.names.lookup x = some .local := hkl
        rcases hk with k | k <;> (rw [hkl] at k; cases k)
      · obtain ⟨c', hc'⟩ := closOf_has (cells := X.env.cells) (names := scope.names) (cs := []) (x := x) (.inl hm)
        have q := cells x c' hc'
        rw [hc] at q
        cases q
        exact ⟨c, hc', hcell.keeps old⟩
  · -- cell
    obtain ⟨v, q⟩ := I.cell x c (cells x c e)
    exact ⟨v, q.keeps old⟩
  · -- free
    show upd H D (.lst []) C = none
    rw [upd_ne (Ne.symm hDC)]
    exact hHC
  · show upd H D (.lst []) c = none
    have e := cells x c e
    rw [upd_ne (Nat.ne_of_lt (Nat.lt_of_lt_of_le (hcl x c e) hD))]
    exact I.freeC x c e
  · exact I.hok.laid old hD ⟨Nat.zero_le _, [], 0, .nil, hl⟩
  · show _ = (own ++ frees).length
    have q := congrArg List.length T.at_
    rw [List.length_map, List.length_map] at q
    rw [List.length_append, List.length_append, List.length_replicate]
    unfold takeSt
    rw [List.length_map, q]

theorem inv_comp_back {pins : List (Addr × Obj)} {σ σ' : St} {H H' : Hp} {s s' : Shared} {scope : Scope} {N : List Str} {fp : List Addr} {C : Addr} {h' : Heap} {xe : Value → Shared → Prop}
    (I : Inv X pins σ H s) (hf : ∀ b ∈ fp, FpOk X pins H b) (hC : s.heap.objs.size ≤ C) (J : Inv (cxComp X N scope xe C s H fp) [] σ' H' s') (sb : Heap.SameBut C s'.heap h') : Inv X pins σ H' { s' with heap := h' } := by
  have hHC : H' C = none := J.free
  refine I.call' (ch := fp) J.os ?_ ?_ J.bare (fun b hb => ?_)
  · have u : Un (frs X.stack) fp H H' s.heap s'.heap := J.base
    have ne : ∀ b o, s.heap.get? b = some o → b ≠ C := fun b o e => Nat.ne_of_lt (Nat.lt_of_lt_of_le (Heap.lt_size e) hC)
    refine ⟨fun b o e n hb hx => (sb.2 b (ne b o e)).trans (u.keep b o e n hb hx), fun b o e n hb hx => ?_, u.free, fun b o e hx => ?_, u.tups, u.frzs, u.tbls⟩
    · obtain ⟨sl, q⟩ := u.slot b o e n hb hx
      exact ⟨sl, (sb.2 b (ne b o e)).trans q⟩
    · obtain ⟨o', q⟩ := u.there b o e hx
      exact ⟨o', (sb.2 b (ne b o e)).trans q⟩
  · intro b ob e
    refine (J.hok b ob e).stay (fun c w' hc q => (sb.2 c ?_).trans q) (fun _ q => q) fun _ _ q => q
    rintro rfl
    rcases hc with rfl | hc
    · rw [hHC] at e; cases e
    · rw [hHC] at hc; cases hc
  · obtain ⟨_, f1, _, f3, f4, f5⟩ := hf b hb
    exact ⟨f3, f1, f4, f5⟩
end

section
variable {prog : Program} {w : World} {A : Around} {R : Result → Shared → Prop} {s : Shared}
abbrev testsOf (ifs : List Expr) (env : Env) : Sem Bool := forIn ifs true fun c r => if r = true then do let ok ← isTrue c env (eval c env); pure (ForInStep.yield ok) else pure (ForInStep.yield r)
theorem compLoop_any {elt target iter : Expr} {ifs : List Expr} {scope : Scope} {pos : Pos} {it acc : Value} {env : Env} (I : Nat → Shared → Prop)
    (turn : ∀ n s, I n s → wpAny (model prog w) A (pyNext it) (fun r s₁ => match r with
      | none => R (.ok .next) s₁
      | some v => wpAny (model prog w) A (letOwnedTupleGo target it v) (fun _ s₀ => wpAny (model prog w) A (assign target env v) (fun _ s₂ =>
          wpAny (model prog w) A (testsOf ifs env) (fun ok s₃ =>
            if ok = true then wpAny (model prog w) A (eval elt env) (fun x s₄ =>
              wpAny (model prog w) A (call (.builtin "list.append") [acc, x]) (fun _ s₅ => ∃ m, m < n ∧ I m s₅) (notedBy (model prog w) A env fun e s' => R (.error e) s') s₄) (notedBy (model prog w) A env fun e s' => R (.error e) s') s₃
            else ∃ m, m < n ∧ I m s₃) (notedBy (model prog w) A env fun e s' => R (.error e) s') s₂) (notedBy (model prog w) A env fun e s' => R (.error e) s') s₀) (notedBy (model prog w) A env fun e s' => R (.error e) s') s₁) (notedBy (model prog w) A env fun e s' => R (.error e) s') s)
    (n : Nat) (h : I n s) :
    codeAny (model prog w) A (.compLoop (.ListComp elt [⟨target, iter, ifs, 0⟩] scope pos) 0 it acc env) R s := by
  refine codeAny_loop rfl I (fun n s hI => ?_) n h
  show wpAny _ A ((compTurn (.ListComp elt [⟨target, iter, ifs, 0⟩] scope pos) 0 it acc env).onRaise (fun x => do noteFrame x env; theTreesLotGoes x)) _ _ s
  refine wpAny_noted ?_
  rw [compTurn_list]
  refine wpAny_bind (wpAny_standAt (wpAny_bind (wpAny_mono (turn n s hI) (fun r s₁ h₁ => ?_) fun _ _ h' => h')))
  cases r with
  | none => exact wpAny_pure h₁
  | some v =>
    refine wpAny_bind (wpAny_mono h₁ (fun _ s₀ h₀ => ?_) fun _ _ h' => h')
    refine wpAny_bind (wpAny_mono h₀ (fun _ s₂ h₂ => wpAny_bind (wpAny_mono h₂ (fun ok s₃ h₃ => ?_) fun _ _ h' => h')) fun _ _ h' => h')
    cases ok with
    | false => exact wpAny_pure ⟨rfl, h₃⟩
    | true =>
      exact wpAny_bind (wpAny_bind (wpAny_mono h₃ (fun x s₄ h₄ => wpAny_bind (wpAny_mono h₄ (fun _ s₅ h₅ => wpAny_pure (wpAny_pure ⟨rfl, h₅⟩)) fun _ _ h' => h')) fun _ _ h' => h'))
end

def PTs (X : Cx) (ifs : List Expr) (t : TT) : Prop :=
  ∀ (pins : List (Addr × Obj)) (s : Shared) (σ : St) (H : Hp) (Q : Bool → Hp → Prop), Inv X pins σ H s → t σ H Q → wpAny (model X.prog X.w) X.A (testsOf ifs X.env) (TP X pins σ Q) X.xe s
def tTrue : TT := fun _ H Q => Q true H
theorem pts_nil {X : Cx} : PTs X [] tTrue := fun _ _ _ H _ I h => wpAny_tests_nil ⟨H, I, h⟩
theorem pts_one {X : Cx} {c : Expr} {t : TT} (h : PT X c t) : PTs X [c] t := fun pins s σ H Q I q => wpAny_tests_one (h pins s σ H Q I q)

def CompLoop (J : It) (g : TG) (tt : TT) (te : TE) (n : Nat) (fr : St) (D : Addr) (Q : Hp → Prop) (H1 : Hp) : Prop :=
  ∃ W : Nat → Nat → List V → Hp → Prop, (∃ m, W 0 m [] H1) ∧ ∀ i m acc H, W i m acc H → H D = some (.lst acc) ∧
    ((J.stop i H ∧ Q H) ∨ (J.go i H ∧ acc.length < sizeLine ∧ ∃ N : List V → Hp → Prop, (∀ acc' H', N acc' H' → ∃ m', m' < m ∧ W (i + 1) m' acc' H') ∧
      ∀ x H', J.yld i H x H' → g x (List.replicate n none ++ fr) H' fun σ2 H2 => σ2.drop n = fr ∧ tt σ2 H2 fun b H3 =>
      if b = true then te σ2 H3 fun v H4 => H4 D = some (.lst acc) ∧ N (acc ++ [v]) (upd H4 D (.lst (acc ++ [v])))
      else N acc H3))
def tComp (wi : TI) (g : TG) (tt : TT) (te : TE) (n : Nat) (js : List Nat) : TE := fun σ H Q => wi σ H fun J H1 => ∀ D, H1 D = none → CompLoop J g tt te n (takeSt σ js) D (fun H2 => Q (.ref D) H2) (upd H1 D (.lst []))

structure TurnX (A : Around) (cm : Bool) (P : Program) (w : World) (K : PySem.W.Frag) (tg : Expr) (J : It) (fp : List Addr) (it : Addr) (tn : Nat → Heap → Prop) : Prop where
  mem : it ∈ fp
  obj : ∀ i h, tn i h → ∀ b ∈ fp, ∃ o, h.get? b = some o ∧ ∀ v, o.data ≠ .cell v
  keep : ∀ i h h', tn i h → (∀ b ∈ fp, ∀ o, h.get? b = some o → h'.get? b = some o) → tn i h'
  item : ∀ (X : Cx), X.prog = P → X.w = w → X.K = K → X.A = A → X.calm = cm → ∀ (i : Nat) (pins : List (Addr × Obj)) (s : Shared) (σ : St) (H : Hp) (E : Value → Shared → Prop), Inv X pins σ H s → (∀ b ∈ fp, FpOk X pins H b) → tn i s.heap → J.go i H →
    wpAny (model P w) X.A (pyNext (.ref it)) (fun r s1 => ∃ u, r = some u ∧
      wpAny (model P w) X.A (letOwnedTupleGo tg (.ref it) u) (fun _ s2 => ∃ x H', Inv X pins σ H' s2 ∧ RelV x u ∧ J.yld i H x H' ∧ tn (i + 1) s2.heap ∧ ∀ b ∈ fp, H' b = none) E s1) E s
  done : ∀ (X : Cx), X.prog = P → X.w = w → X.K = K → X.A = A → X.calm = cm → ∀ (i : Nat) (pins : List (Addr × Obj)) (s : Shared) (σ : St) (H : Hp) (E : Value → Shared → Prop), Inv X pins σ H s → (∀ b ∈ fp, FpOk X pins H b) → tn i s.heap → J.stop i H →
    wpAny (model P w) X.A (pyNext (.ref it)) (fun r s1 => r = none ∧ Inv X pins σ H s1) E s
  self : ∀ (A : Around) (i : Nat) (s : Shared) (Q : Value → Shared → Prop) (E : Value → Shared → Prop), tn i s.heap → Q (.ref it) s → wpAny (model P w) A (pyIter (.ref it)) Q E s
theorem Turn.x {A : Around} {cm : Bool} {P : Program} {w : World} {K : PySem.W.Frag} {tg : Expr} {J : It} {fp : List Addr} {it : Addr} {tn : Nat → Heap → Prop} (T : Turn P w K tg J fp it tn) (hc : cm = true) : TurnX A cm P w K tg J fp it tn :=
  ⟨T.mem, T.obj, T.keep, fun X a b c _ d => T.item X a b c (d.trans hc), fun X a b c _ d => T.done X a b c (d.trans hc), T.self⟩
section
variable {X : Cx} {elt iter tg : Expr} {ifs : List Expr} {scope : Scope} {pos : Pos} {own frees : List Str} {js : List Nat} {wi : TI} {g : TG} {tt : TT} {te : TE}
theorem comp_block {pins : List (Addr × Obj)} {σ : St} {H2 : Hp} {s2 : Shared} {it : Addr} {fp : List Addr} {tn : Nat → Heap → Prop} {J : It} {E : Value → Shared → Prop} {RR : Value → Addr → Result → Shared → Prop} {QQ : Addr → Hp → Prop}
    (T : CompText X scope own frees js)
    (hg : ∀ C s H fp, PG (cxComp X (own ++ frees) scope (fun _ _ => False) C s H fp) tg g)
    (ht : ∀ C s H fp, PTs (cxComp X (own ++ frees) scope (fun _ _ => False) C s H fp) ifs tt)
    (he : ∀ C s H fp, PE (cxComp X (own ++ frees) scope (fun _ _ => False) C s H fp) elt te)
    (I2 : Inv X pins σ H2 s2) (TT' : TurnX X.A X.calm X.prog X.w X.K tg J fp it tn) (st2 : tn 0 s2.heap) (f2 : ∀ b ∈ fp, FpOk X pins H2 b)
    (hl : ∀ D, H2 D = none → CompLoop J g tt te own.length (takeSt σ js) D (QQ D) (upd H2 D (.lst [])))
    (hRR : ∀ D C σ' H' s', s2.heap.objs.size ≤ C → Inv (cxComp X (own ++ frees) scope (fun _ _ => False) C s2 H2 fp) [] σ' H' s' → QQ D H' → RR (.ref D) C (.ok .next) s') :
    wpAny (model X.prog X.w) X.A (newList []) (fun acc s₃ => wpAny (model X.prog X.w) X.A (newFunctionEnv scope X.env.globals (closOf X.env.cells scope.names []) [] X.env.qual none .none (some X.env)) (fun cenv s₄ =>
      codeAny (model X.prog X.w) X.A (.compStart (.ListComp elt [⟨tg, iter, ifs, 0⟩] scope pos) 0 (.ref it) acc { cenv with scope := relabel scope X.env }) (RR acc cenv.locals) s₄) E s₃) E s2 := by
  refine wpAny_newObj_type (wpAny_newFunctionEnv T.nocell (by intro y hy; simp at hy) (fun h₁ hns₁ hsb₁ => ?_) T.kind)
  dsimp only at hns₁ hsb₁ ⊢
  generalize hH2 : s2.heap.push { cls := .type "list", dict := none, data := .seq ([] : List Value).toArray } = G2 at hns₁ hsb₁ ⊢
  have hC : G2.objs.size = s2.heap.objs.size + 1 := by rw [← hH2, Heap.size_push]
  have hDC : s2.heap.objs.size ≠ G2.objs.size := by rw [hC]; exact Nat.ne_of_lt (Nat.lt_succ_self _)
  have hCle : s2.heap.objs.size ≤ G2.objs.size := by rw [hC]; exact Nat.le_succ _
  have below : ∀ b, b < s2.heap.objs.size → b ≠ G2.objs.size := fun b hb => by rw [hC]; exact Nat.ne_of_lt (Nat.lt_succ_of_lt hb)
  have old : ∀ b o, s2.heap.get? b = some o → h₁.get? b = some o := fun b o e => hsb₁.extBut b o (below b (Heap.lt_size e)) (Heap.get?_push_of_some _ (hH2 ▸ Heap.get?_push_of_some _ e))
  have hacc : h₁.get? s2.heap.objs.size = some { cls := .type "list", data := .seq ([] : List Value).toArray 0 } := hsb₁.extBut _ _ hDC (Heap.get?_push_of_some _ (hH2 ▸ Heap.get?_push_size _ rfl))
  have fpo : ∀ b ∈ fp, ∃ o, s2.heap.get? b = some o := fun b hb => let ⟨o, e, _⟩ := TT'.obj _ _ st2 b hb; ⟨o, e⟩
  have st1 : tn 0 h₁ := TT'.keep _ _ _ st2 fun b _ o e => old b o e
  obtain ⟨W, ⟨m0, w0⟩, turn⟩ := hl s2.heap.objs.size (I2.hok.fresh (Nat.le_refl _))
  have hfx : ∀ {H' : Hp}, (∀ b ∈ fp, H' b = none) → ∀ b ∈ fp, FpOk (cxComp X (own ++ frees) scope (fun _ _ => False) G2.objs.size s2 H2 fp) [] H' b := fun {H'} hn b hb => by
    obtain ⟨_, f1, f2', _, f4, _⟩ := f2 b hb
    obtain ⟨o, ho⟩ := fpo b hb
    refine ⟨hn b hb, below b (Heap.lt_size ho), fun z => ?_, .inl hb, fun x c e => ?_, fun p hp => absurd (show p ∈ ([] : List (Addr × Obj)) from hp) (by simp)⟩
    · rcases List.mem_cons.mp (I2.stkSub b z) with q | q
      · exact f1 q
      · exact f2' q
    · rcases closOf_look (show (closOf X.env.cells scope.names []).lookup x = some c from e) with q | ⟨q1, q2⟩
      · cases q
      · obtain ⟨c', hc'⟩ := closure_ok I2 T x .free q1 rfl
        rw [hc'] at q2
        have q2 : c' = c := q2
        rw [← q2]
        exact f4 x c' hc'
  have fp0 : ∀ b ∈ fp, upd H2 s2.heap.objs.size (.lst []) b = none := fun b hb => by
    obtain ⟨o, ho⟩ := fpo b hb
    rw [upd_ne (Nat.ne_of_lt (Heap.lt_size ho))]
    exact (f2 b hb).1
  have back : ∀ {σ6 : St} {p6 : List (Addr × Obj)} {H6 : Hp} {s6 : Shared}, Inv (cxComp X (own ++ frees) scope (fun _ _ => False) G2.objs.size s2 H2 fp) p6 σ6 H6 s6 → σ6.drop own.length = takeSt σ js →
      Inv (cxComp X (own ++ frees) scope (fun _ _ => False) G2.objs.size s2 H2 fp) [] (List.replicate own.length none ++ takeSt σ js) H6 s6 := fun {σ6 p6 H6 s6} I6 hd => by
    have hl6 : σ6.length = (own ++ frees).length := I6.len
    have J6 := I6.pins_of (pins' := []) fun p hp => absurd hp (by simp)
    refine J6.weak ?_ fun i v e => ?_
    · have q := congrArg List.length hd
      rw [List.length_drop] at q
      rw [List.length_append] at hl6
      rw [List.length_append, List.length_replicate]
      (first | lia | omega)
    · by_cases hi : i < own.length
      · rw [List.getElem?_append_left (by simpa using hi), List.getElem?_replicate, if_pos hi] at e
        cases e
      · rw [List.getElem?_append_right (by simpa using hi), List.length_replicate, ← hd, List.getElem?_drop] at e
        rw [show own.length + (i - own.length) = i by (first | lia | omega)] at e
        exact e
  have loop : ∀ s₃ : Shared, s₃ = { s2 with heap := h₁, toks := s2.toks + ([] : List (Str × Value)).length } →
      codeAny (model X.prog X.w) X.A (.compLoop (.ListComp elt [⟨tg, iter, ifs, 0⟩] scope pos) 0 (.ref it) (.ref s2.heap.objs.size) (compEnvC scope (closOf X.env.cells scope.names []) G2.objs.size X.env))
        (RR (.ref s2.heap.objs.size) G2.objs.size) s₃ := by
    rintro s₃ rfl
    refine compLoop_any (fun n s' => ∃ i acc H', Inv (cxComp X (own ++ frees) scope (fun _ _ => False) G2.objs.size s2 H2 fp) [] (List.replicate own.length none ++ takeSt σ js) H' s' ∧ tn i s'.heap ∧ (∀ b ∈ fp, H' b = none) ∧ W i n acc H') ?_ m0
      ⟨0, [], upd H2 s2.heap.objs.size (.lst []), inv_comp I2 T f2 fpo (Nat.le_refl _) hCle hDC old hacc hns₁, st1, fp0, w0⟩
    rintro n s3 ⟨i, acc, H3, I3, st3, fr3, w3⟩
    obtain ⟨hD3, hcase⟩ := turn i n acc H3 w3
    rcases hcase with ⟨stop, qn⟩ | ⟨go, hz, NN, hNN, step⟩
    · refine wpAny_mono (TT'.done (cxComp X (own ++ frees) scope (fun _ _ => False) G2.objs.size s2 H2 fp) rfl rfl rfl rfl rfl i [] s3 _ H3 (fun _ _ => False) I3 (hfx fr3) st3 stop) (fun r s4 ⟨hr, I4⟩ => ?_) fun _ _ z => z.elim
      subst hr
      exact hRR _ _ _ H3 s4 hCle I4 qn
    · refine wpAny_mono (TT'.item (cxComp X (own ++ frees) scope (fun _ _ => False) G2.objs.size s2 H2 fp) rfl rfl rfl rfl rfl i [] s3 _ H3 (fun _ _ => False) I3 (hfx fr3) st3 go) (fun r s4 ⟨u, hr, h4⟩ => ?_) fun _ _ z => z.elim
      subst hr
      refine wpAny_mono h4 (fun _ s5 ⟨x, H5, I5, r5, y5, st5, fr5⟩ => ?_) fun _ _ z => z.elim
      have I5' := I5.pinned (hfx fr5) (TT'.obj _ _ st5)
      refine wpAny_mono (hg _ _ _ _ _ s5 _ H5 x u _ I5' r5 (step x H5 y5)) (fun _ s6 ⟨σ6, H6, I6, hd6, q6⟩ => ?_) fun _ _ z => z.elim
      refine wpAny_mono (ht _ _ _ _ _ s6 σ6 H6 _ I6 q6) (fun ok s7 ⟨H7, I7, q7⟩ => ?_) fun _ _ z => z.elim
      have again : ∀ {H8 : Hp} {s8 : Shared}, Inv (cxComp X (own ++ frees) scope (fun _ _ => False) G2.objs.size s2 H2 fp) ([] ++ pinsAt fp s5.heap) σ6 H8 s8 → tn (i + 1) s8.heap ∧ ∀ b ∈ fp, H8 b = none := fun {H8 s8} I8 => by
        refine ⟨TT'.keep _ _ _ st5 fun b hb o e => (I8.pin (b, o) (List.mem_append_right _ (List.mem_append_right _ (mem_pinsAt hb e)))).1, fun b hb => ?_⟩
        obtain ⟨o, e, d⟩ := TT'.obj _ _ st5 b hb
        exact (I8.pin (b, o) (List.mem_append_right _ (List.mem_append_right _ (mem_pinsAt hb e)))).2.1
      cases ok with
      | false =>
        rw [if_neg Bool.false_ne_true]
        obtain ⟨m', hm, w7⟩ := hNN _ _ q7
        obtain ⟨t7, n7⟩ := again I7
        exact ⟨m', hm, i + 1, acc, H7, back I7 hd6, t7, n7, w7⟩
      | true =>
        rw [if_pos rfl]
        refine wpAny_mono (he _ _ _ _ _ s7 σ6 H7 _ I7 q7) (fun xv s8 ⟨v, H8, I8, r8, hD8, q8⟩ => ?_) fun _ _ z => z.elim
        obtain ⟨m', hm, w8⟩ := hNN _ _ q8
        refine wpAny_mono (mt_append (X := cxComp X (own ++ frees) scope (fun _ _ => False) G2.objs.size s2 H2 fp) _ s8 σ6 H8 (.ref s2.heap.objs.size) [v] (.ref s2.heap.objs.size) [xv] (fun y H9 => y = .non ∧ H9 = upd H8 s2.heap.objs.size (.lst (acc ++ [v]))) I8 rfl (.cons r8 .nil) ⟨_, acc, v, rfl, rfl, hD8, hz, rfl, rfl⟩)
          (fun _ s9 ⟨y, H9, I9, _, _, e9⟩ => ?_) fun _ _ z => z.elim
        subst e9
        obtain ⟨t9, n9⟩ := again I9
        exact ⟨m', hm, i + 1, acc ++ [v], _, back I9 hd6, t9, n9, w8⟩
  exact codeAny_compStart_list (loop _ rfl) (TT'.self _ 0 _ _ _ st1 (loop _ rfl))

theorem pe_comp (T : CompText X scope own frees js) (hc : X.calm = true) (hi : PI X tg iter wi)
    (hg : ∀ C s H fp, PG (cxComp X (own ++ frees) scope (fun _ _ => False) C s H fp) tg g)
    (ht : ∀ C s H fp, PTs (cxComp X (own ++ frees) scope (fun _ _ => False) C s H fp) ifs tt)
    (he : ∀ C s H fp, PE (cxComp X (own ++ frees) scope (fun _ _ => False) C s H fp) elt te)
    (hs : ∀ x, foldedSetIterable iter X.env x = pure x := by intro _; rfl) :
    PE X (.ListComp elt [⟨tg, iter, ifs, 0⟩] scope pos) (tComp wi g tt te own.length js) := by
  intro pins s σ H Q I h
  rw [eval_ListComp]
  refine wpAny_comprehension_free (use := none) rfl hs (closure_is (closure_ok I T)) T.kind T.names ?_
  refine wpAny_mono (hi pins s σ H _ I h) (fun v s1 h1 => wpAny_mono h1 (fun itv s2 h2 => ?_) fun _ _ z => z) fun _ _ z => z
  obtain ⟨it, fp, tn, J, H2, e, I2, TT', st2, f2, hl⟩ := h2
  subst e
  refine comp_block (QQ := fun D H' => Q (.ref D) H') T hg ht he I2 (TT'.x hc) st2 f2 hl fun D C σ' H' s' hC J' q => ?_
  obtain ⟨m, hn, _⟩ := J'.loc
  exact ⟨m, hn, fun h' sb => ⟨.ref D, H', inv_comp_back I2 f2 hC J' sb, rfl, q⟩⟩
end

section
variable {K : PySem.W.Frag} {a : Addr} {xs : List V} {g : TG} {tt : TT} {te : TE} {n : Nat} {fr : St} {D : Addr} {Q : Hp → Prop} {H1 : Hp}
theorem comp_list (Pv : Nat → List V → Hp → Prop) (h0 : Pv 0 [] H1) (hl : ∀ i acc H, i ≤ xs.length → Pv i acc H → SqL K H a xs ∧ H D = some (.lst acc) ∧ acc.length ≤ i) (hz : xs.length ≤ sizeLine)
    (hs : ∀ i x acc H, xs[i]? = some x → Pv i acc H → g x (List.replicate n none ++ fr) H fun σ2 H2 => σ2.drop n = fr ∧ tt σ2 H2 fun b H3 =>
      if b = true then te σ2 H3 fun v H4 => H4 D = some (.lst acc) ∧ Pv (i + 1) (acc ++ [v]) (upd H4 D (.lst (acc ++ [v]))) else Pv (i + 1) acc H3)
    (hd : ∀ acc H, Pv xs.length acc H → Q H) : CompLoop (Itl K a) g tt te n fr D Q H1 := by
  refine ⟨fun i m acc H => m = xs.length - i ∧ i ≤ xs.length ∧ Pv i acc H, ⟨xs.length, by simp, Nat.zero_le _, h0⟩, ?_⟩
  rintro i m acc H ⟨rfl, hi, p⟩
  obtain ⟨q, hD, ha⟩ := hl i acc H hi p
  refine ⟨hD, ?_⟩
  by_cases hlt : i < xs.length
  · refine .inr ⟨⟨xs, xs[i], q, by simp [hlt]⟩, by (first | lia | omega), Pv (i + 1), fun acc' H' p' => ⟨xs.length - (i + 1), by (first | lia | omega), rfl, hlt, p'⟩, fun x H' y => ?_⟩
    obtain ⟨e, y⟩ := y
    subst e
    exact hs i x acc _ (y xs q) p
  · have e : i = xs.length := by (first | lia | omega)
    subst e
    exact .inl ⟨⟨xs, q, Nat.le_refl _⟩, hd acc H p⟩
theorem comp_tup (Pv : Nat → List V → Hp → Prop) (h0 : Pv 0 [] H1) (hl : ∀ i acc H, i ≤ xs.length → Pv i acc H → SqT K H a xs ∧ H D = some (.lst acc) ∧ acc.length ≤ i) (hz : xs.length ≤ sizeLine)
    (hs : ∀ i x acc H, xs[i]? = some x → Pv i acc H → g x (List.replicate n none ++ fr) H fun σ2 H2 => σ2.drop n = fr ∧ tt σ2 H2 fun b H3 =>
      if b = true then te σ2 H3 fun v H4 => H4 D = some (.lst acc) ∧ Pv (i + 1) (acc ++ [v]) (upd H4 D (.lst (acc ++ [v]))) else Pv (i + 1) acc H3)
    (hd : ∀ acc H, Pv xs.length acc H → Q H) : CompLoop (Itt K a) g tt te n fr D Q H1 := by
  refine ⟨fun i m acc H => m = xs.length - i ∧ i ≤ xs.length ∧ Pv i acc H, ⟨xs.length, by simp, Nat.zero_le _, h0⟩, ?_⟩
  rintro i m acc H ⟨rfl, hi, p⟩
  obtain ⟨q, hD, ha⟩ := hl i acc H hi p
  refine ⟨hD, ?_⟩
  by_cases hlt : i < xs.length
  · refine .inr ⟨⟨xs, xs[i], q, by simp [hlt]⟩, by (first | lia | omega), Pv (i + 1), fun acc' H' p' => ⟨xs.length - (i + 1), by (first | lia | omega), rfl, hlt, p'⟩, fun x H' y => ?_⟩
    obtain ⟨e, y⟩ := y
    subst e
    exact hs i x acc _ (y xs q) p
  · have e : i = xs.length := by (first | lia | omega)
    subst e
    exact .inl ⟨⟨xs, q, Nat.le_refl _⟩, hd acc H p⟩
theorem comp_range {lo : Int} {m : Nat} (Pv : Nat → List V → Hp → Prop) (h0 : Pv 0 [] H1) (hl : ∀ i acc H, i ≤ m → Pv i acc H → H D = some (.lst acc) ∧ acc.length ≤ i) (hz : m ≤ sizeLine)
    (hs : ∀ i acc H, i < m → Pv i acc H → g (.int (lo + i)) (List.replicate n none ++ fr) H fun σ2 H2 => σ2.drop n = fr ∧ tt σ2 H2 fun b H3 =>
      if b = true then te σ2 H3 fun v H4 => H4 D = some (.lst acc) ∧ Pv (i + 1) (acc ++ [v]) (upd H4 D (.lst (acc ++ [v]))) else Pv (i + 1) acc H3)
    (hd : ∀ acc H, Pv m acc H → Q H) : CompLoop (Itr lo m) g tt te n fr D Q H1 := by
  refine ⟨fun i k acc H => k = m - i ∧ i ≤ m ∧ Pv i acc H, ⟨m, by simp, Nat.zero_le _, h0⟩, ?_⟩
  rintro i k acc H ⟨rfl, hi, p⟩
  obtain ⟨hD, ha⟩ := hl i acc H hi p
  refine ⟨hD, ?_⟩
  by_cases hlt : i < m
  · refine .inr ⟨hlt, by (first | lia | omega), Pv (i + 1), fun acc' H' p' => ⟨m - (i + 1), by (first | lia | omega), rfl, hlt, p'⟩, fun x H' y => ?_⟩
    obtain ⟨e, y⟩ := y
    subst e y
    exact hs i acc _ hlt p
  · have e : i = m := by (first | lia | omega)
    subst e
    exact .inl ⟨Nat.le_refl _, hd acc H p⟩
end
end L2

namespace L2
open PySem PySem.Spec PyProof.Rows

def compLook (scope osc : Scope) (N frees : List Str) (js : List Nat) : Bool :=
  decide (scope.kind = .function) && scope.names.all (fun y => decide (y.2 ≠ .cell)) && scope.names.all (fun y => decide (y.2 = .local → scope.names.lookup y.1 = some .local)) &&
  scope.names.all (fun y => decide (y.2 = .free → osc.names.lookup y.1 = some .cell ∨ osc.names.lookup y.1 = some .free)) && decide (js.map (fun j => N[j]?) = frees.map some) && frees.all (fun x => decide (scope.names.lookup x = some .free))
theorem compText_of {X : Cx} {scope : Scope} {own frees : List Str} {js : List Nat} (osc : Scope) (N : List Str) (h1 : X.env.scope = osc := by rfl) (h2 : X.N = N := by rfl) (h : compLook scope osc N frees js = true := by decide +kernel) : CompText X scope own frees js := by
  unfold compLook at h
  simp only [Bool.and_eq_true, decide_eq_true_eq, List.all_eq_true] at h
  obtain ⟨⟨⟨⟨⟨a, b⟩, c⟩, d⟩, e⟩, f⟩ := h
  exact ⟨a, b, c, by rw [h1]; exact d, by rw [h2]; exact e, f⟩

mutual
inductive DatV (K : PySem.W.Frag) (H : Hp) : V → PyData → Prop
  | non : DatV K H .non .none
  | bl (b : Bool) : DatV K H (.bl b) (.bool b)
  | int (i : Int) : DatV K H (.int i) (.int i)
  | str (x : Str) : DatV K H (.str x) (.str x)
  | lst {a : Addr} {xs : List V} {ds : List PyData} (h : SqL K H a xs) (r : DatVs K H xs ds) : DatV K H (.ref a) (.list ds)
  | tup {a : Addr} {xs : List V} {ds : List PyData} (h : SqT K H a xs) (r : DatVs K H xs ds) : DatV K H (.ref a) (.tuple ds)
inductive DatVs (K : PySem.W.Frag) (H : Hp) : List V → List PyData → Prop
  | nil : DatVs K H [] []
  | cons {x : V} {d : PyData} {xs : List V} {ds : List PyData} (h : DatV K H x d) (r : DatVs K H xs ds) : DatVs K H (x :: xs) (d :: ds)
end
section
variable {X : Cx} {pins : List (Addr × Obj)} {σ : St} {H : Hp} {s : Shared}
mutual
theorem DatV.reads (I : Inv X pins σ H s) : ∀ {v : V} {d : PyData} {u : Value}, DatV X.K H v d → RelV v u → ∃ as, Reads s.heap u d as
  | _, _, u, .non, r => by cases (show u = Value.none from r); exact ⟨_, .none⟩
  | _, _, u, .bl b, r => by cases (show u = Value.bool b from r); exact ⟨_, .bool b⟩
  | _, _, u, .int i, r => by obtain ⟨t, rfl⟩ := (show ∃ t, u = Value.int i t from r); exact ⟨_, .int i t⟩
  | _, _, u, .str x, r => by obtain ⟨t, rfl⟩ := (show ∃ t, u = Value.str x t from r); exact ⟨_, .str x t⟩
  | _, _, u, .lst (a := a) h rs, r => by
    cases (show u = Value.ref a from r)
    obtain ⟨its, rv, ⟨o, n, e, c, _, d⟩, _⟩ := I.list h
    obtain ⟨as, q⟩ := DatVs.reads I rs rv
    exact ⟨_, .list e c d (by simpa using q)⟩
  | _, _, u, .tup (a := a) h rs, r => by
    cases (show u = Value.ref a from r)
    obtain ⟨its, rv, ⟨o, e, c, n, d⟩, _⟩ := I.tuple h
    obtain ⟨as, q⟩ := DatVs.reads I rs rv
    exact ⟨_, .tuple e c d (by simpa using q)⟩
theorem DatVs.reads (I : Inv X pins σ H s) : ∀ {vs : List V} {ds : List PyData} {us : List Value}, DatVs X.K H vs ds → Vals vs us → ∃ as, ReadsAll s.heap us ds as
  | _, _, _, .nil, .nil => ⟨_, .nil⟩
  | _, _, _, .cons h r, .cons rv rr => by
    obtain ⟨as, q⟩ := DatV.reads I h rv
    obtain ⟨bs, q2⟩ := DatVs.reads I r rr
    exact ⟨_, .cons q q2⟩
end
end
section
variable {X : Cx}
def rEqD (K : PySem.W.Frag) : R2 := fun x y H Q => ∃ d e, DatV K H x d ∧ DatV K H y e ∧ SeqAt.shaped d = true ∧ SeqAt.shaped e = true ∧ Q (.bl (PyData.eqv d e)) H
theorem op_eqD (hu : X.A.units + 64 < cLine) : OpR X (compareOp .Eq) (rEqD X.K) := by
  intro pins s σ H x y v u Q I rx ry h
  obtain ⟨d, e, h1, h2, s1, s2, q⟩ := h
  obtain ⟨as, ra⟩ := h1.reads I rx
  obtain ⟨bs, rb⟩ := h2.reads I ry
  exact eq_dataH ra rb s1 s2 hu ⟨.bl _, H, I, rfl, q⟩
def clsV : V → Option Value
  | .ty n => some (.type n)
  | .ref a => some (.ref a)
  | _ => none
theorem clsV_of {c : V} {u w : Value} (h : clsV c = some u) (r : RelV c w) : w = u := by
  cases c with
  | ty n => exact (show w = Value.type n from r).trans (Option.some.inj h)
  | ref a => exact (show w = Value.ref a from r).trans (Option.some.inj h)
  | _ => cases h
def rIsi (K : PySem.W.Frag) : List V → Hp → VK → Prop := fun xs H Q => ∃ x c t u b, xs = [x, c] ∧ clsV c = some u ∧ TyOf K H x t ∧ PySem.W.kitOne K t u = some b ∧ Q (.bl b) H
theorem call_isi : CallR X (.builtin "isinstance") (rIsi X.K) := by
  intro pins s σ H xs us Q I r h
  obtain ⟨x, c, t, u, b, rfl, rc, ty, e, q⟩ := h
  cases r with
  | cons r1 r2 =>
    cases r2 with
    | cons r2 r3 =>
      cases r3
      cases clsV_of rc r2
      exact isinst_ok I r1 ty e fun tk => ⟨.bl b, H, I.tok tk, rfl, q⟩
theorem kit_ii (K : PySem.W.Frag) : PySem.W.kitOne K (.type "int") (.type "int") = some true := by with_unfolding_all rfl
theorem kit_ib (K : PySem.W.Frag) : PySem.W.kitOne K (.type "int") (.type "bool") = some false := by with_unfolding_all rfl
end
end L2
namespace L2
open PySem PySem.Spec PyProof.Rows
section
variable {X : Cx}
theorem pe_gint {x : Str} {v : Int} {pos : Pos} (hg : Gl X x) (h : ∃ t, X.mg x = some (.int v t)) (hd : (x == ("__debug__" : Str)) = false := by decide) : PE X (.Name x pos) (tC (.int v)) := by
  obtain ⟨t, e⟩ := h
  exact pe_glob hg e ⟨t, rfl⟩ hd
theorem PI.or {tg l : Expr} {wi wj : TI} (h : PI X tg l wi) (h' : PI X tg l wj) : PI X tg l (fun σ H R => wi σ H R ∨ wj σ H R) := by
  intro pins s σ H R I q
  rcases q with q | q
  · exact h pins s σ H R I q
  · exact h' pins s σ H R I q
theorem pi_seq {tg l : Expr} {tl : TE} (hl : PE X l tl) : PI X tg l (fun σ H R => iList X.K tl σ H R ∨ iTup X.K tl σ H R) := (pi_list hl).or (pi_tup hl)
theorem rIx_of {K : PySem.W.Frag} {H : Hp} {p : Addr} {xs : List V} {i : Int} {v : V} {Q : VK} (h : SqL K H p xs ∨ SqT K H p xs) (e : atI xs i = some v) (q : Q v H) : rIx K (.ref p) (.int i) H Q := by
  rcases h with h | h
  · exact .inl ⟨p, xs, i, v, rfl, rfl, h, e, q⟩
  · exact .inr (.inl ⟨p, xs, i, v, rfl, rfl, h, e, q⟩)
end
theorem dl {n : Nat} (h : Nat.ble n 1000 = true) : n ≤ sizeLine := Nat.le_of_lt (small1000 (Nat.le_of_ble_eq_true h))
theorem modC {j : Int} (h : decide (0 < j) = true) : 0 < j := of_decide_eq_true h
theorem iteD {c A B : Prop} [Decidable c] (h : ¬ c) (hb : B) : if decide c = true then A else B := by
  rw [decide_eq_false h]
  exact iteF hb
theorem iteP {c A B : Prop} [Decidable c] (h : c) (ha : A) : if decide c = true then A else B := by
  rw [decide_eq_true h]
  exact iteT ha
theorem Same.new {H : Hp} {p : Addr} {o : HO} (h : H p = none) : Same H (upd H p o) := fun b u e => by
  rw [upd_ne (ne_of_none e h)]
  exact e
theorem Same.put {H H2 : Hp} {D : Addr} {o : HO} (s : Same H H2) (h : H D = none) : Same H (upd H2 D o) := fun b u e => by
  rw [upd_ne (ne_of_none e h)]
  exact s b u e
theorem Same.sqT {K : PySem.W.Frag} {H H' : Hp} {a : Addr} {xs : List V} (e : Same H H') (h : SqT K H a xs) : SqT K H' a xs := by
  rcases h with (h | ⟨o, h⟩) | h
  · exact .inl (.inl (e _ _ h))
  · exact .inl (.inr ⟨o, e _ _ h⟩)
  · exact .inr h
def Tups (H H' : Hp) : Prop := ∀ b xs, H b = some (.tup xs) → H' b = some (.tup xs)
theorem Same.tups {H H' : Hp} (s : Same H H') : Tups H H' := fun b xs e => s b _ e
theorem Tups.trans {H H1 H2 : Hp} (a : Tups H H1) (b : Tups H1 H2) : Tups H H2 := fun c xs e => b c xs (a c xs e)
theorem Tups.put {H : Hp} {D : Addr} {o : HO} {ys : List V} (h : H D = some (.lst ys)) : Tups H (upd H D o) := fun b xs e => by
  rw [upd_ne (ne_of e h (by intro z; cases z))]
  exact e
theorem Paired.getP {α β : Type} {F : α → β → Prop} : ∀ {l : List α} {r : List β} {i : Nat} {x : α}, Paired F l r → l[i]? = some x → ∃ y, r[i]? = some y ∧ F x y
  | _, _, _, _, .nil, e => by simp at e
  | _, _, 0, _, .cons h _, e => by
    simp at e
    subst e
    exact ⟨_, rfl, h⟩
  | _, _, i + 1, x, .cons _ t, e => by
    obtain ⟨y, h1, h2⟩ := Paired.getP (i := i) (x := x) t (by simpa using e)
    exact ⟨y, by simpa using h1, h2⟩
end L2

namespace L2
open PySem PySem.Spec PyProof.Rows
section
variable {X : Cx} {l : Expr} {tl : TE} {tg a b o e : Expr} {ta tb to : TE} {es : List Expr}
theorem op_eqK (K : PySem.W.Frag) (hu : X.A.units + 64 < cLine) (h : X.K = K := by rfl) : OpR X (compareOp .Eq) (rEqD K) := by subst h; exact op_eqD hu
theorem isiK (K : PySem.W.Frag) (h : X.K = K := by rfl) : CallR X (.builtin "isinstance") (rIsi K) := by subst h; exact call_isi
def rLen (K : PySem.W.Frag) : List V → Hp → VK → Prop := fun xs H Q => ∃ p ys, xs = [.ref p] ∧ (SqL K H p ys ∨ SqT K H p ys) ∧ Q (.int ys.length) H
theorem lenK (K : PySem.W.Frag) (h : X.K = K := by rfl) : CallR X (.builtin "len") (rLen K) := by subst h; exact call_len_seq
def rList (K : PySem.W.Frag) : List V → Hp → VK → Prop := fun xs H Q => ∃ p ys, xs = [.ref p] ∧ (SqL K H p ys ∨ SqT K H p ys) ∧ ∀ l, H l = none → Q (.ref l) (upd H l (.lst ys))
theorem listK (K : PySem.W.Frag) (h : X.K = K := by rfl) : CallR X (.type "list") (rList K) := by subst h; exact call_list_of
def rTupl (K : PySem.W.Frag) : List V → Hp → VK → Prop := fun xs H Q => ∃ p ys, xs = [.ref p] ∧ ((SqL K H p ys ∧ ∀ l, H l = none → Q (.ref l) (upd H l (.tup ys))) ∨ (SqT K H p ys ∧ Q (.ref p) H))
theorem tuplK (K : PySem.W.Frag) (h : X.K = K := by rfl) : CallR X (.type "tuple") (rTupl K) := by subst h; exact call_tuple_of
theorem ixL (K : PySem.W.Frag) (h : X.K = K := by rfl) : IxR X (rIxL K) := by subst h; exact ix_list
theorem ixT (K : PySem.W.Frag) (h : X.K = K := by rfl) : IxR X (rIxT K) := by subst h; exact ix_tup
theorem ixS (K : PySem.W.Frag) (h : X.K = K := by rfl) : IxR X (rIx K) := by subst h; exact ix_seq
theorem slL (K : PySem.W.Frag) (h : X.K = K := by rfl) : SlR X (rSlL K) := by subst h; exact sl_list
theorem inK (K : PySem.W.Frag) (h : X.K = K := by rfl) : OpR X (compareOp .In) (rIn K false) := by subst h; exact op_in_seq
theorem piL (K : PySem.W.Frag) (hl : PE X l tl) (h : X.K = K := by rfl) : PI X tg l (iList K tl) := by subst h; exact pi_list hl
theorem piT (K : PySem.W.Frag) (hl : PE X l tl) (h : X.K = K := by rfl) : PI X tg l (iTup K tl) := by subst h; exact pi_tup hl
theorem piS (K : PySem.W.Frag) (hl : PE X l tl) (h : X.K = K := by rfl) : PI X tg l (fun σ H R => iList K tl σ H R ∨ iTup K tl σ H R) := by subst h; exact pi_seq hl
theorem pgT (K : PySem.W.Frag) {k : Nat} {t : TGs} {n : Nat} {pos : Pos} (hc : X.calm = true) (hp : PGs X es t) (hn : (assignEach es X.env).length = n := by rfl) (hst : (assignEach es X.env).findIdx? (·.1) = none := by rfl) (h : X.K = K := by rfl) :
    PG X (.Tuple es k pos) (gTup K n t) := by subst h; exact pg_tup hc hp hn hst
theorem pe_ty {x : Str} {T : String} {pos : Pos} (hg : Gl X x) (hm : X.mg x = none) (hv : bootBuiltins x = some (.type T)) (hn : x ≠ "__name__" := by decide) (hd : (x == ("__debug__" : Str)) = false := by decide) : PE X (.Name x pos) (tC (.ty T)) :=
  pe_bltn hg hm hv rfl hn hd
end
end L2

namespace L2
open PySem PySem.Spec PyProof.Rows

def SecD (od : Option Addr) (c : Value) (e : Addr) (h : Heap) : Prop := ∃ oe vs, h.get? e = some oe ∧ oe.data = .fields vs ∧ vs[2]? = some c ∧ oe.dict = od
theorem dict_map (o : Obj) (f) : (o.mapFields f).dict = o.dict := by
  obtain ⟨c, d, dt, sl⟩ := o
  cases dt <;> rfl
section
variable {M : Model} {A : Around} {E : Value → Shared → Prop} {s : Shared} {B : Heap} {env : Env} {outer l : List Env} {L e : Addr} {cls a0 : Value} {Q : Unit → Shared → Prop} {od : Option Addr} {c : Value}
theorem upd_rec {h : Heap} {T : Addr} {oT : Obj} {ts : Array Value} (f : Obj → Obj) (hT : h.get? T = some oT) (hd : oT.data = .fields ts) : h.UpToSlots (h.update T f) := fun b o hb hn => by
  have ne : T ≠ b := fun z => by
    rw [← z, hT] at hb
    cases hb
    exact hn ts hd
  exact ⟨o.slots, (Heap.get?_update_other h f ne).trans hb⟩
theorem stays_rec {h : Heap} {T : Addr} (f : Obj → Obj) (k : B.StaysIn h) (n : B.get? T = none) : B.StaysIn (h.update T f) := fun b o hb => by
  have ne : T ≠ b := fun z => by
    rw [← z, n] at hb
    cases hb
  exact (Heap.get?_update_other h f ne).trans (k b o hb)
theorem FunFrames_up {h h' : Heap} (x : h.FunFrames B l) (u : h.UpToSlots h') : h'.FunFrames B l := x.of_keeps fun b o hb hn =>
  let ⟨_, q⟩ := u b o hb hn
  ⟨_, q, rfl⟩
theorem land2 {fl : Value} (hk : B.StaysIn s.heap) (hn : B.get? e = none) (hl : s.heap.FunFrames B l) (ht : s.heap.TracedAtW B e cls a0 fl) (h2 : SecD od c e s.heap)
    (q : ∀ h', Heap.FlyingW B l e cls a0 h' → SecD od c e h' → s.heap.UpToSlots h' → Q () { s with heap := h' }) : wpAny M A (setFlight (.ref e) none) Q E s := by
  obtain ⟨oe, vs, T, oT, ts, ge, hc, de, f1, nT, Te, gT, dT, f3⟩ := ht
  have z3 : 3 < ts.size := (Array.getElem?_eq_some_iff.mp f3).1
  rw [setFlight]
  refine wpAny_bind (wpAny_field ge de f1 ?_)
  rw [if_pos (by simp)]
  refine wpAny_setField gT dT z3 ?_
  have up := upd_rec (Obj.mapFields (·.setIfInBounds 3 ((none : Option Addr).elim Value.none fun f => rawInt f))) gT dT
  have ge' := (Heap.get?_update_other s.heap (Obj.mapFields (·.setIfInBounds 3 ((none : Option Addr).elim Value.none fun f => rawInt f))) Te).trans ge
  have dT' := Obj.data_mapFields dT (·.setIfInBounds 3 ((none : Option Addr).elim Value.none fun f => rawInt f))
  refine q _ ⟨stays_rec _ hk nT, hn, FunFrames_up hl up, oe, vs, T, _, _, ge', hc, de, f1, nT, Te, Heap.get?_update_self _ gT (Obj.isFreed_of_fields dT'), dT', by simp [z3]⟩ ?_ up
  obtain ⟨o2, v2, g2, d2, k2, z2⟩ := h2
  rw [ge] at g2
  cases g2
  exact ⟨oe, v2, ge', d2, k2, z2⟩
theorem entry2 {oe : Obj} {vs : Array Value} {head : Value} {hadNext : Bool} (hfr : A.frames = some (env :: outer)) (hl : s.heap.FunFrames B (env :: outer)) (hf : env.frame = some L) (ge : s.heap.get? e = some oe) (hk : B.StaysIn s.heap) (hn : B.get? e = none)
    (de : oe.data = .fields vs) (hz : 1 < vs.size) (h0 : vs[0]? = some a0) (h2 : vs[2]? = some c) (hz2 : oe.dict = od)
    (q : ∀ h', Heap.HeldW B (env :: outer) e oe.cls a0 L h' → SecD od c e h' → s.heap.UpToSlots h' → Q () { s with heap := h' }) :
    wpAny M A (do let a ← frameOf env; let pl ← entryPlaceOf L hadNext; let b ← EntryCells.newEntry head a .none (rawInt L) .none pl; setField (.ref e) 1 b) Q E s := by
  have noFr : e ∉ (env :: outer).filterMap (·.frame) := fun z => by
    obtain ⟨_, o, ho, nf⟩ := hl.mem z
    rw [ge] at ho
    cases ho
    exact nf vs de
  refine wpAny_bind (wpAny_frameOf_fun hfr hl hf fun h1 so => wpAny_bind (wpAny_entryPlaceOf fun pl ip => ?_))
  rw [EntryCells.newEntry, newFields]
  refine wpAny_bind (wpAny_newObj_type ?_ (ip.sizeOk5 _ _ _ _ _))
  generalize hnw : ({ cls := .type "traceback", dict := none, data := .fields ([head, .ref L, .none, rawInt L, .none] ++ (if pl.isEmpty then List.replicate 6 Value.none else pl)).toArray } : Obj) = nw
  have dn : nw.data = .fields ([head, .ref L, .none, rawInt L, .none] ++ (if pl.isEmpty then List.replicate 6 Value.none else pl)).toArray := by rw [← hnw]
  have ge1 : h1.get? e = some oe := (so.2.1 e noFr).trans ge
  have ge2 := Heap.get?_push_of_some (h := h1) nw ge1
  have Te : h1.objs.size ≠ e := Nat.ne_of_gt (Heap.lt_size ge1)
  refine wpAny_setField ge2 de hz ?_
  have de3 := Obj.data_mapFields de (·.setIfInBounds 1 (Value.ref h1.objs.size))
  have ge3 := Heap.get?_update_self (Obj.mapFields (·.setIfInBounds 1 (Value.ref h1.objs.size))) ge2 (Obj.isFreed_of_fields de3)
  have gT3 := (Heap.get?_update_other (h1.push nw) (Obj.mapFields (·.setIfInBounds 1 (Value.ref h1.objs.size))) (Ne.symm Te)).trans (Heap.get?_push_size h1 (by rw [← hnw]; rfl))
  have up : s.heap.UpToSlots ((h1.push nw).update e (Obj.mapFields (·.setIfInBounds 1 (Value.ref h1.objs.size)))) := by
    have u1 : s.heap.UpToSlots h1 := fun b o hb _ => so.2.2 b o hb
    exact (u1.trans (.of_keeps fun b o hb => Heap.get?_push_of_some nw hb)).trans (upd_rec _ ge2 de)
  have k1 : B.StaysIn h1 := fun b o hb => (so.2.1 b fun z => by rw [(hl.mem z).1] at hb; cases hb).trans (hk b o hb)
  have k2 : B.StaysIn (h1.push nw) := fun b o hb => Heap.get?_push_of_some nw (k1 b o hb)
  refine q _ ⟨stays_rec _ k2 hn, hn, FunFrames_up hl up, _, _, h1.objs.size, nw, _, ge3, ⟨Obj.cls_mapFields _ _, by rw [Array.getElem?_setIfInBounds_ne (by decide)]; exact h0⟩, de3, by simp [hz], k1.fresh, Te, gT3, dn, ?_⟩ ?_ up
  · first | (simp; done) | (rcases ip with rfl | ⟨_, _, _, _, _, _, _, rfl⟩ <;> simp)
  · exact ⟨_, _, ge3, de3, by rw [Array.getElem?_setIfInBounds_ne (by decide)]; exact h2, (dict_map _ _).trans hz2⟩
theorem note2 (hfr : A.frames = some (env :: outer)) (hf : env.frame = some L) (fl : Heap.FlyingW B (env :: outer) e cls a0 s.heap) (h2 : SecD od c e s.heap)
    (q : ∀ h', Heap.HeldW B (env :: outer) e cls a0 L h' → SecD od c e h' → s.heap.UpToSlots h' → Q () { s with heap := h' }) : wpAny M A (noteFrame (.ref e) env) Q E s := by
  obtain ⟨hk, hn, hl, oe, vs, T, oT, ts, ge, ⟨hc, h0⟩, de, f1, nT, Te, gT, dT, f3⟩ := fl
  obtain ⟨o2, v2, g2, d2, k2, z2⟩ := h2
  rw [ge] at g2
  cases g2
  rw [de] at d2
  cases d2
  cases hc
  rw [noteFrame]
  simp only [hf]
  refine wpAny_bind (wpAny_field ge de f1 ?_)
  rw [if_pos (by simp)]
  refine wpAny_bind (wpAny_field gT dT f3 ?_)
  rw [if_neg (by simp [rawInt])]
  refine wpAny_bind (wpAny_setField gT dT (Array.getElem?_eq_some_iff.mp f3).1 ?_)
  have up := upd_rec (Obj.mapFields (·.setIfInBounds 3 Value.none)) gT dT
  have ge' := (Heap.get?_update_other s.heap (Obj.mapFields (·.setIfInBounds 3 Value.none)) Te).trans ge
  exact entry2 (s := { s with heap := s.heap.update T (Obj.mapFields (·.setIfInBounds 3 Value.none)) }) hfr (FunFrames_up hl up) hf ge' (stays_rec _ hk nT) hn de (Array.getElem?_eq_some_iff.mp f1).1 h0 k2 z2 fun h' x1 x2 x3 => q h' x1 x2 (up.trans x3)
theorem fly2 (x : Heap.FlyingW B (env :: outer) e cls a0 s.heap) : Heap.FlyingW B outer e cls a0 s.heap :=
  let ⟨k1, k2, ⟨_, _, k3⟩, k4⟩ := x
  ⟨k1, k2, k3, k4⟩
theorem leave_new {oe : Obj} {vs : Array Value} (hfr : A.frames = some (env :: outer)) (hf : env.frame = some L) (hk : B.StaysIn s.heap) (hn : B.get? e = none) (hl : s.heap.FunFrames B (env :: outer)) (ge : s.heap.get? e = some oe) (de : oe.data = .fields vs)
    (h0 : vs[0]? = some a0) (h1 : vs[1]? = some .none) (h2 : vs[2]? = some c) (hz2 : oe.dict = od)
    (q : ∀ h', Heap.FlyingW B outer e oe.cls a0 h' → SecD od c e h' → s.heap.UpToSlots h' → Q () { s with heap := h' }) : wpAny M A (leaving env (.ref e)) Q E s := by
  rw [leaving, noteFrame]
  simp only [hf]
  refine wpAny_bind (wpAny_bind (wpAny_field ge de h1 ?_))
  rw [if_neg (by decide)]
  refine entry2 (a0 := a0) hfr hl hf ge hk hn de (Array.getElem?_eq_some_iff.mp h1).1 h0 h2 hz2 fun h' x1 x2 x3 => ?_
  obtain ⟨y1, y2, y3, y4⟩ := x1
  exact land2 (s := { s with heap := h' }) y1 y2 y3 y4 x2 fun h'' z1 z2 z3 => q h'' (fly2 (s := { s with heap := h'' }) z1) z2 (x3.trans z3)
end
end L2

namespace L2
open PySem PySem.Spec PyProof.Rows

section
variable {P : Program} {w : World} {H H0 H1 : Hp} {h h0 h1 h2 : Heap} {a : Addr} {o : HO} {fs : List Addr} {B : Heap}
theorem ObjOk.thing (x : ObjOk P w H h a o) : ∃ ob, h.get? a = some ob := by
  cases o with
  | lst xs => obtain ⟨_, _, _, _, e⟩ := x; exact ⟨_, e⟩
  | tup xs => obtain ⟨_, _, _, ob, e, _⟩ := x; exact ⟨ob, e⟩
  | dK kvs => obtain ⟨_, _, _, _, ob, _, _, e, _⟩ := x; exact ⟨ob, e⟩
  | dT kvs => obtain ⟨_, _, _, _, ob, _, _, e, _⟩ := x; exact ⟨ob, e⟩
  | set S n => obtain ⟨ob, _, _, _, e, _⟩ := x; exact ⟨ob, e⟩
  | ins C dx fs => obtain ⟨_, _, _, e, _⟩ := x; exact ⟨_, e⟩
  | own y => exact x
  | xd fs => obtain ⟨_, ⟨ob, _, _, e, _⟩, _⟩ := x; exact ⟨ob, e⟩
  | rng lo hi => obtain ⟨_, _, _, e⟩ := x; exact ⟨_, e⟩
  | frz ob u => obtain ⟨e, _⟩ := x; exact ⟨_, e⟩
  | tbl ps => exact ⟨_, (show h.get? a = some _ from x)⟩
  | met f y => exact ⟨_, (show h.get? a = some _ from x)⟩
  | ext φ => obtain ⟨_, e, _⟩ := x; exact e
def Cov (B : Heap) (fs : List Addr) (h0 : Heap) (H : Hp) (h : Heap) : Prop := ∀ b o, h.get? b = some o → (H b ≠ none ∨ ∃ o', h0.get? b = some o') → b ∉ fs → B.get? b = some o
theorem stays_un (un : Un fs [] H0 H1 h0 h1) (hok : HOk P w H1 h1) (nof : ∀ b ∈ fs, H1 b = none) (fr : ∀ b ∈ fs, ∀ ob, h1.get? b = some ob → ∀ vs, ob.data ≠ .fields vs) (cov : Cov B fs h0 H1 h1)
    (hB : B.StaysIn h2) (up : h1.UpToSlots h2) : Un fs [] H0 H1 h0 h2 ∧ HOk P w H1 h2 ∧ Cov B fs h0 H1 h2 := by
  have inB : ∀ b ob, h1.get? b = some ob → (H1 b ≠ none ∨ ∃ o', h0.get? b = some o') → b ∉ fs → h2.get? b = some ob := fun b ob e c n => hB b ob (cov b ob e c n)
  have trk : ∀ b u, H1 b = some u → b ∉ fs := fun b u e z => by
    rw [nof b z] at e
    cases e
  refine ⟨⟨fun b ob e n hb hx => inB b ob (un.keep b ob e n hb hx) (.inr ⟨ob, e⟩) hb, fun b ob e n hb hx => ?_, un.free, fun b ob e hx => ?_, un.tups, un.frzs, un.tbls⟩, fun b u e => ?_, fun b ob e c n => ?_⟩
  · obtain ⟨sl, q⟩ := un.slot b ob e n hb hx
    obtain ⟨sl', q'⟩ := up b _ q (fr b hb _ q)
    exact ⟨sl', q'⟩
  · obtain ⟨o', q⟩ := un.there b ob e hx
    by_cases hb : b ∈ fs
    · obtain ⟨sl', q'⟩ := up b _ q (fr b hb _ q)
      exact ⟨_, q'⟩
    · exact ⟨o', inB b o' q (.inr ⟨ob, e⟩) hb⟩
  · refine (hok b u e).stay (fun c v hc q => ?_) (fun _ q => q) fun _ _ q => q
    have hct : ∃ z, H1 c = some z := by
      rcases hc with hc | hc
      · rw [hc]
        exact ⟨u, e⟩
      · exact ⟨_, hc⟩
    obtain ⟨z, hz⟩ := hct
    exact inB c v q (.inl (by rw [hz]; simp)) (trk c z hz)
  · have ht : ∃ o1, h1.get? b = some o1 := by
      rcases c with c | ⟨o', c⟩
      · cases hz : H1 b with
        | none => exact absurd hz c
        | some z => exact (hok b z hz).thing
      · exact un.there b o' c (by simp)
    obtain ⟨o1, q⟩ := ht
    have q2 := cov b o1 q c n
    have q3 := hB b o1 q2
    rw [e] at q3
    rw [Option.some.inj q3]
    exact q2
end
def ExcO (ea : Addr) (cls : Value) : HO := .ext fun h => ∃ oe vs, h.get? ea = some oe ∧ oe.cls = cls ∧ oe.data = .fields vs ∧ vs[2]? = some .none
theorem excO_ok {P : Program} {w : World} {H : Hp} {h : Heap} {ea : Addr} {cls : Value} (q : ∃ oe vs, h.get? ea = some oe ∧ oe.cls = cls ∧ oe.data = .fields vs ∧ vs[2]? = some .none) : ObjOk P w H h ea (ExcO ea cls) :=
  ⟨q, let ⟨oe, _, e, _⟩ := q; ⟨oe, e⟩, fun h1 h2 ⟨oe, vs, e, c, d, z⟩ k => ⟨oe, vs, k oe e, c, d, z⟩⟩
def CtxE (E : XK) (cls : Value) (od : Option Addr) (c : Value) (H : Hp) : Prop := (c = .none ∧ (∃ C0 : Addr, cls = .ref C0) ∧ E cls od H) ∨ ∃ C e' C', cls = .ref C ∧ od = none ∧ c = .ref e' ∧ H e' = some (ExcO e' C') ∧ E (.int (C : Int) e') none H
def CX1 (P : Program) (w : World) : CXT := fun outer H s E e s' => ∃ (ea : Addr) (cls a0 : Value) (od : Option Addr) (c : Value) (H' : Hp) (B : Heap), e = .ref ea ∧ s'.os = s.os ∧ AllBare s'.gens ∧ Un (frs outer) [] H H' s.heap s'.heap ∧ HOk P w H' s'.heap ∧ H' ea = none ∧
  Cov B (frs outer) s.heap H' s'.heap ∧ Heap.FlyingW B outer ea cls a0 s'.heap ∧ SecD od c ea s'.heap ∧ CtxE E cls od c H'
structure Out (X : Cx) (E : XK) : Prop where
  stk : X.stack = X.env :: X.outer
  fr : X.env.frame = some X.env.locals
  ex : X.ex = []
  xe : ∀ e s', wpAny (model X.prog X.w) X.A (leaving X.env e) (fun _ s'' => CX1 X.prog X.w X.outer X.H₀ X.s₀ E e s'') (fun e' s'' => CX1 X.prog X.w X.outer X.H₀ X.s₀ E e' s'') s' → X.xe e s'
def Thr (X : Cx) (E : XK) : Prop := ∀ (pins : List (Addr × Obj)) (σ : St) (H : Hp) (s : Shared) (h1 : Heap) (ea C0 : Addr) (vs : List Value), Inv X pins σ H s → Heap.MadeExcOf s.heap h1 ea (.ref C0) vs → E (.ref C0) none H → X.xe (.ref ea) { s with heap := h1 }
section
variable {X : Cx} {E : XK} {pins : List (Addr × Obj)} {σ : St} {H : Hp} {s : Shared}
theorem Inv.frData (I : Inv X pins σ H s) : ∀ b ∈ frs X.stack, ∀ ob, s.heap.get? b = some ob → ∀ vs, ob.data ≠ .fields vs := fun b hb ob e => by
  obtain ⟨_, o, ho, hnf⟩ := I.stack.mem hb
  rw [e] at ho
  cases ho
  exact hnf
theorem Inv.fsData (I : Inv X pins σ H s) : ∀ b ∈ X.fs, ∀ ob, s.heap.get? b = some ob → ∀ vs, ob.data ≠ .fields vs := fun b hb ob e => by
  obtain ⟨_, o, ho, hnf⟩ := I.funs.mem hb
  rw [e] at ho
  cases ho
  exact hnf
theorem Inv.fsFree (I : Inv X pins σ H s) (hx : X.ex = []) : ∀ b ∈ X.fs, H b = none := fun b hb => by
  obtain ⟨_, o, ho, _⟩ := I.ok.funs.mem hb
  exact I.base.free b o ho (I.ok.frf b hb) (by rw [hx]; simp)
theorem Cov.outer {B h0 : Heap} {h : Heap} (I : Inv X pins σ H s) (cov : Cov B (frs X.stack) h0 H h) (k : ∀ b o, X.s₀.heap.get? b = some o → ∃ o', h0.get? b = some o') : Cov B X.fs X.s₀.heap H h := fun b o e c n => by
  refine cov b o e (c.imp id fun ⟨o', q⟩ => k b o' q) fun z => ?_
  rcases List.mem_cons.mp (I.stkSub b z) with q | q
  · subst q
    rcases c with c | ⟨o', c⟩
    · exact c I.free
    · exact absurd (Nat.lt_of_lt_of_le (Heap.lt_size c) I.ok.above) (Nat.lt_irrefl _)
  · exact n q
theorem fly_out (O : Out X E) (I : Inv X pins σ H s) {B : Heap} {ea : Addr} {cls a0 : Value} {od : Option Addr} {c : Value} {h2 : Heap} (cov : Cov B X.fs X.s₀.heap H s.heap) (fl : Heap.FlyingW B X.outer ea cls a0 h2) (sc : SecD od c ea h2) (up : s.heap.UpToSlots h2) (hn : H ea = none) (q : CtxE E cls od c H) :
    CX1 X.prog X.w X.outer X.H₀ X.s₀ E (.ref ea) { s with heap := h2 } := by
  have un : Un X.fs [] X.H₀ H X.s₀.heap s.heap := by
    have u := I.base
    rw [O.ex] at u
    exact u
  obtain ⟨u2, ok2, c2⟩ := stays_un un I.hok (I.fsFree O.ex) I.fsData cov fl.1 up
  exact ⟨ea, cls, a0, od, c, H, B, rfl, I.os, I.bare, u2, ok2, hn, c2, fl, sc, q⟩
theorem Out.thrC (O : Out X E) {ea : Addr} {oe : Obj} {vs : Array Value} {a0 c : Value} (I : Inv X pins σ H s) (ge : s.heap.get? ea = some oe) (de : oe.data = .fields vs) (h0 : vs[0]? = some a0) (h1 : vs[1]? = some .none) (h2 : vs[2]? = some c)
    (hn : H ea = none) (new : X.s₀.heap.get? ea = none) (q : CtxE E oe.cls oe.dict c H) : X.xe (.ref ea) s := by
  refine O.xe _ _ ?_
  have hfr : X.A.frames = some (X.env :: X.outer) := by rw [I.ok.frames, O.stk]
  have hl : s.heap.FunFrames (PySem.W.hideAll s.heap (ea :: frs X.stack)) (X.env :: X.outer) := by
    have z := PySem.W.funFrames_hide (as := ea :: frs X.stack) I.stack fun env he b hb => List.mem_cons_of_mem _ (List.mem_filterMap.mpr ⟨env, he, hb⟩)
    rw [O.stk] at z ⊢
    exact z
  refine leave_new hfr O.fr (fun b o e => PySem.W.of_hideAll _ e) (PySem.W.hideAll_none _ (List.mem_cons_self ..)) hl ge de h0 h1 h2 rfl fun h3 fl sc up => ?_
  refine fly_out O I (Cov.outer I (h0 := X.s₀.heap) (fun b o e c n => ?_) fun b o e => ⟨o, e⟩) fl sc up hn q
  refine PySem.W.hideAll_get _ e fun z => ?_
  rcases List.mem_cons.mp z with z | z
  · subst z
    rcases c with c | ⟨o', c⟩
    · exact c hn
    · rw [new] at c
      cases c
  · exact n z
theorem Out.thrG (O : Out X E) {ea : Addr} {oe : Obj} {vs : Array Value} {a0 : Value} (I : Inv X pins σ H s) (ge : s.heap.get? ea = some oe) (de : oe.data = .fields vs) (h0 : vs[0]? = some a0) (h1 : vs[1]? = some .none) (h2 : vs[2]? = some .none)
    (hn : H ea = none) (new : X.s₀.heap.get? ea = none) (hcl : ∃ C0 : Addr, oe.cls = .ref C0) (q : E oe.cls oe.dict H) : X.xe (.ref ea) s := O.thrC I ge de h0 h1 h2 hn new (.inl ⟨rfl, hcl, q⟩)
theorem Out.thr (O : Out X E) : Thr X E := by
  intro pins σ H s h1 ea C0 vs I mk q
  have I1 : Inv X pins σ H { s with heap := h1 } := I.kept (t' := s.toks) mk.keeps
  have hn : H ea = none := by
    cases hz : H ea with
    | none => rfl
    | some z =>
      obtain ⟨ob, e⟩ := (I.hok ea z hz).thing
      rw [mk.new] at e
      cases e
  obtain ⟨t, ge, _, _⟩ := mk.there
  refine O.thrG I1 (a0 := .ref t) ge rfl rfl rfl rfl hn ?_ ⟨_, rfl⟩ q
  cases hz : X.s₀.heap.get? ea with
  | none => rfl
  | some o =>
    obtain ⟨o', e⟩ := I.base.there ea o hz (by rw [O.ex]; simp)
    rw [mk.new] at e
    cases e
theorem Inv.threw {H' : Hp} {s' : Shared} (I : Inv X pins σ H s) (os : s'.os = s.os) (bare : AllBare s'.gens) (un : Un (frs X.stack) [] H H' s.heap s'.heap) (hok : HOk X.prog X.w H' s'.heap) : Inv X pins σ H' s' :=
  I.call' (ch := []) os un hok bare fun b z => absurd z (by simp)
end
theorem out_of {P : Program} {w : World} {K : PySem.W.Frag} {mg : Str → Option Value} {base : Heap} {N : List Str} {qual : Str} {scope : Scope} {f : Addr} {cd : Value} {A : Around} {outer : List Env} {s : Shared} {H : Hp} {E : XK} :
    Out (cxOf (CX1 P w) P w K mg base N qual scope f cd A outer s H E) E := ⟨rfl, rfl, rfl, fun _ _ h => h⟩
theorem Fun.ok1 {P : Program} {w : World} {K : PySem.W.Frag} {mg : Str → Option Value} {base : Heap} {x qual : Str} {st : Stmt} {f : Addr} {fd : FuncData} {N ps : List Str} {k : Nat} {sp : Sp} (F : Fun K x qual st f fd) (S : FnScope N ps (defScope st))
    (len : ∀ vs H Q E, sp vs H Q E → vs.length = ps.length)
    (hbody : ∀ (cdv : Value) (A : Around) (outer : List Env) (s : Shared) (H : Hp) (vs : List V) (Q : VK) (E : XK), Room k (A.deeper (envOfC qual (defScope st) s.heap.objs.size f cdv)) → sp vs H Q E →
      ∃ t, PSs (cxOf (CX1 P w) P w K mg base N qual (defScope st) f cdv A outer s H E) (defBody st) t ∧ t { nx := fun _ H' => Q .non H', rt := Q } (start N vs) H) : FnOk P w K mg base (CX1 P w) (k + 1) f fd ps sp := by
  obtain ⟨oc, od, kV, doc, pm, an, cdv, ct, osl, rfl, lk, hcd⟩ := F.ex
  exact fn_of lk hcd S len fun A outer s H vs Q E hr hsp => hbody cdv A outer s H vs Q E hr hsp
section
variable {X : Cx} {E : XK}
def tRaise (C : Addr) (E : XK) (t : TA) : TS := fun _ σ H => t σ H fun vs H1 => vs.length ≤ sizeLine ∧ E (.ref C) none H1
theorem ps_raise {x : Str} {C : Addr} {bm : List Value} {B newId initId : String} {e : Expr} {es : List Expr} {ta : TA} {np cpos pos : Pos} (th : Thr X E) (hc : X.calm = true) (hg : Gl X x) (O : ∀ h, X.K.In h → h.Ns mainGlobals X.mg → OwnCls x C bm newId X.mg h)
    (FB : ExcBaseFacts B newId initId bm) (ha : PA X (e :: es) ta) (he : starEach (e :: es) X.env = (false, eval e X.env) :: starEach es X.env := by rfl) (hpl : (backTo cpos (starEach es X.env)).any (·.1) = false := by rfl)
    (hd : (x == ("__debug__" : Str)) = false := by decide) : PS X (.Raise (some (.Call (.Name x np) (e :: es) [] cpos)) none pos) (tRaise C E ta) := by
  intro pins s σ H D I h
  have OC := O _ I.mod.kin I.mod.glob
  obtain ⟨tl, N, nm, q, bs, hdct, sn, sub, ab, col, dd, k0, k1, k2, k3, k5, mN, hC, hN, hni, T⟩ := OC.obj
  refine wpAny_Raise_call_subT (C := C) (nm := nm) (q := q) (N := N) (bs := bs) (bm := tl) (hdct := hdct) (sn := sn) (sub := sub) (ab := ab) (col := col) (dd := dd) (k0 := k0) (k1 := k1) (k2 := k2) (k3 := k3) (k5 := k5)
    FB (mN := mN) (T.hasType FB.hasBase) (I.ok.hd hc) (by rw [he]; show (false || (backTo cpos (starEach es X.env)).any (·.1)) = false; rw [hpl]; rfl) hni (ld_glob I hg OC.bound ⟨rfl, ?_⟩ hd)
  have hA := ha cpos pins s σ H _ I h
  rw [he] at hA ⊢
  refine Calls.evalArgs_plain (wpAny_mono hA (fun us s1 ⟨vs, H1, I1, r1, z, q1⟩ => ?_) fun _ _ y => y)
  exact ⟨rfl, by rw [← r1.length]; exact z, I1.bk _ _ hC, hN.keeps I1.bk, T.keeps I1.bk, fun h' ea hm => th pins σ H1 s1 h' ea _ us I1 hm q1⟩
end
end L2

namespace L2
open PySem PySem.Spec PyProof.Rows

theorem exm_no (K : PySem.W.Frag) (i : Int) (n : Nat) (v : Value) : PySem.W.exmOne K (.int i n) v ≠ some true := by
  unfold PySem.W.exmOne
  split
  · unfold PySem.W.kitCls
    split
    · split <;> simp [PySem.W.subIn]
    · split <;> simp [PySem.W.subIn]
    · simp
  · simp
def ExcX (ea : Addr) (cls : Value) (od : Option Addr) : HO := .ext fun h => ∃ oe vs, h.get? ea = some oe ∧ oe.cls = cls ∧ oe.data = .fields vs ∧ vs[2]? = some .none ∧ oe.dict = od
theorem excX_ok {P : Program} {w : World} {H : Hp} {h : Heap} {ea : Addr} {cls : Value} {od : Option Addr} (q : ∃ oe vs, h.get? ea = some oe ∧ oe.cls = cls ∧ oe.data = .fields vs ∧ vs[2]? = some .none ∧ oe.dict = od) : ObjOk P w H h ea (ExcX ea cls od) :=
  ⟨q, let ⟨oe, _, e, _⟩ := q; ⟨oe, e⟩, fun h1 h2 ⟨oe, vs, e, c, d, z, y⟩ k => ⟨oe, vs, k oe e, c, d, z, y⟩⟩
section
variable {X : Cx} {pins : List (Addr × Obj)} {σ : St} {H : Hp} {s : Shared}
theorem Inv.track {ea : Addr} {o : HO} (I : Inv X pins σ H s) (hn : H ea = none) (h0 : X.s₀.heap.get? ea = none) (hL : ea ≠ X.env.locals) (hC : ∀ x c, X.env.cells.lookup x = some c → c ≠ ea) (hp : ∀ p ∈ X.pn ++ pins, p.1 ≠ ea)
    (ok : ObjOk X.prog X.w (upd H ea o) s.heap ea o) : Inv X pins σ (upd H ea o) s := by
  have ne : ∀ b u, H b = some u → b ≠ ea := fun b u e z => by rw [z, hn] at e; cases e
  refine ⟨I.ok, I.os, I.bare, ⟨I.base.keep, I.base.slot, fun b ob e n hx => ?_, I.base.there, fun b xs e => ?_, fun b ob u e => ?_, fun b ps e => ?_⟩, I.loc, I.cell, ?_, fun x c e => ?_, fun p hpp => ?_, fun b u e => ?_, I.len⟩
  · rw [upd_ne (fun z => by rw [z, h0] at e; cases e)]
    exact I.base.free b ob e n hx
  · have q := I.base.tups b xs e
    rw [upd_ne (ne b _ q)]
    exact q
  · have q := I.base.frzs b ob u e
    rw [upd_ne (ne b _ q)]
    exact q
  · obtain ⟨more, q⟩ := I.base.tbls b ps e
    exact ⟨more, by rw [upd_ne (ne b _ q)]; exact q⟩
  · rw [upd_ne (Ne.symm hL)]
    exact I.free
  · rw [upd_ne (hC x c e)]
    exact I.freeC x c e
  · obtain ⟨a1, a2, a3⟩ := I.pin p hpp
    exact ⟨a1, by rw [upd_ne (hp p hpp)]; exact a2, a3⟩
  · by_cases hb : b = ea
    · subst hb
      rw [upd_same] at e
      cases e
      exact ok
    · rw [upd_ne hb] at e
      exact (I.hok b u e).stay (fun _ _ _ q => q) (fun c q => by rw [upd_ne (ne c _ q)]; exact q) fun c xs q => by rw [upd_ne (ne c _ q)]; exact q
theorem Inv.recx {A' : Around} {pn' pins' : List (Addr × Obj)} {cm : Bool} {xe' : Value → Shared → Prop} (I : Inv X pins σ H s) (hA : A'.frames = X.A.frames) (hcm : cm = true → A'.handled = none) (hp : ∀ p ∈ pn' ++ pins', p ∈ X.pn ++ pins) :
    Inv { X with A := A', calm := cm, pn := pn', xe := xe' } pins' σ H s :=
  ⟨⟨I.ok.mod, I.ok.kind, I.ok.glob, I.ok.blt, I.ok.above, I.ok.inj, I.ok.has, I.ok.cab, hcm, hA.trans I.ok.frames, I.ok.stk, I.ok.exf, I.ok.bs, I.ok.bsz, I.ok.noex, I.ok.exfs, I.ok.funs, I.ok.frf⟩,
    I.os, I.bare, I.base, I.loc, I.cell, I.free, I.freeC, fun p z => I.pin p (hp p z), I.hok, I.len⟩
theorem unname_ok {M : Model} {A : Around} {E : Value → Shared → Prop} {i : Nat} {x : Str} {pos : Pos} {Q : Unit → Shared → Prop} (I : Inv X pins σ H s) (hN : X.N.Nodup) (hi : X.N[i]? = some x) (hx : X.env.scope.names.lookup x = some .local)
    (h : ∀ s', Inv X pins (σ.set i none) H s' → Q () s') : wpAny M A (do bindName X.env x .none; unbindBehindTheSuite X.env x pos) Q E s := by
  obtain ⟨m, hn, hl⟩ := id I.loc
  have hcls : (X.env.scope.kind == .class || (X.env.scope.kind == .module && X.env.locals != X.env.globals)) = false := by rw [I.ok.kind]; rfl
  refine wpAny_nameGoes_keeps hx hn hcls fun h' v hn' hs => ?_
  have below : ∀ b ob, X.s₀.heap.get? b = some ob → b ≠ X.env.locals := fun b ob e => Nat.ne_of_lt (Nat.lt_of_lt_of_le (Heap.lt_size e) I.ok.above)
  refine h _ ⟨I.ok, I.os, I.bare, ⟨fun b ob e n hb hx => (hs.2 b (below b ob e)).trans (I.base.keep b ob e n hb hx), fun b ob e n hb hx => ?_, I.base.free, fun b ob e hx => ?_, I.base.tups, I.base.frzs, I.base.tbls⟩,
    ⟨_, hn', fun j y v' e1 e2 e3 => ?_⟩, fun y c e => ?_, I.free, I.freeC, fun p hp => ?_, fun b ob e => ?_, by rw [List.length_set]; exact I.len⟩
  · obtain ⟨sl, e1⟩ := I.base.slot b ob e n hb hx
    exact ⟨sl, (hs.2 b (below b ob e)).trans e1⟩
  · obtain ⟨o', e1⟩ := I.base.there b ob e hx
    exact ⟨o', (hs.2 b (below b ob e)).trans e1⟩
  · by_cases hj : j = i
    · subst hj
      have hlt : j < σ.length := by rw [I.len]; exact (List.getElem?_eq_some_iff.mp hi).1
      rw [List.getElem?_set_self hlt] at e2
      cases e2
    · rw [List.getElem?_set_ne (Ne.symm hj)] at e2
      obtain ⟨u', r', q⟩ := hl j y v' e1 e2 e3
      refine ⟨u', r', ?_⟩
      rcases q with ⟨k, e⟩ | ⟨k, c, e, z⟩
      · have hyx : y ≠ x := fun e' => hj (nodup_ix hN e1 (e' ▸ hi))
        exact .inl ⟨k, by simp [hyx, e]⟩
      · exact .inr ⟨k, c, e, z.sameBut hs (I.cne y c e)⟩
  · obtain ⟨w', z⟩ := I.cell y c e
    exact ⟨w', z.sameBut hs (I.cne y c e)⟩
  · obtain ⟨e, n, ne, nf, d⟩ := I.pin p hp
    exact ⟨(hs.2 p.1 ne).trans e, n, ne, nf, d⟩
  · refine (I.hok b ob e).stay (fun c v hc q => (hs.2 c ?_).trans q) (fun _ q => q) fun _ _ q => q
    intro z
    subst z
    have hf : H X.env.locals = none := I.free
    rcases hc with hc | hc
    · rw [← hc, hf] at e
      cases e
    · rw [hf] at hc
      cases hc
end
def tTryG (o : Addr → Value → Option Addr → HO) (K : PySem.W.Frag) (C i k : Nat) (tb : XK → TS) (th : Addr → TS) : TS := fun D σ H => ∃ E : XK, tb E D σ H ∧ ∀ cls od H', E cls od H' → PySem.W.exmOne K cls (.ref C) = some true ∧
  ∀ ea, H' ea = none → th ea { nx := fun σ2 H2 => D.nx (σ2.set i none) H2, rt := fun _ _ => False } ((List.replicate k none).set i (some (.ref ea))) (upd H' ea (o ea cls od))
abbrev tTryX := tTryG ExcX
section
variable {X : Cx}
theorem ps_tryG (oo : Addr → Value → Option Addr → HO) (hoo : ∀ {H : Hp} {h : Heap} {ea : Addr} {cls : Value} {od : Option Addr}, (∃ oe vs, h.get? ea = some oe ∧ oe.cls = cls ∧ oe.data = .fields vs ∧ vs[2]? = some .none ∧ oe.dict = od) → ObjOk X.prog X.w H h ea (oo ea cls od))
    {x n : Str} {i : Nat} {C : Addr} {body rest : List Stmt} {b0 : Stmt} {np hpos pos : Pos} {tb : XK → TS} {th : Addr → TS} (K : PySem.W.Frag) (hst : X.stack = X.env :: X.outer) (hf : X.env.frame = some X.env.locals) (hexs : X.ex = []) (hN : X.N.Nodup) (hi : X.N[i]? = some n)
    (hx : X.env.scope.names.lookup n = some .local) (hg : Gl X x) (hm : X.mg x = some (.ref C))
    (hb : ∀ E pn xe, Passes (CX1 X.prog X.w) { X with pn := pn, xe := xe } E → PSs { X with pn := pn, xe := xe } body (tb E))
    (hh : ∀ ea pn, PSs { X with A := X.A.mark (some (.ref ea)), calm := false, pn := pn, xe := fun _ _ => False } (b0 :: rest) (th ea)) (hK : X.K = K := by rfl) (hdb : (x == ("__debug__" : Str)) = false := by decide) :
    PS X (.Try body [.ExceptHandler (some (.Name x np)) (some n) (b0 :: rest) hpos] [] [] pos) (tTryG oo K C i X.N.length tb th) := by
  subst hK
  intro pins s σ H D I h
  obtain ⟨E, htb, hE⟩ := h
  refine wpAny_Try_except ?_
  have hfr : X.A.frames = some (X.env :: X.outer) := by rw [I.ok.frames, hst]
  -- the body, in a context whose exceptions come here
  have I' : Inv { X with pn := X.pn ++ pins, xe := fun e s1 => ∃ pins' σ' H0 s0, Inv { X with pn := X.pn ++ pins } pins' σ' H0 s0 ∧ CX1 X.prog X.w X.stack H0 s0 E e s1 } [] σ H s :=
    I.recx (A' := X.A) (cm := X.calm) rfl I.ok.hd fun p hp => by simpa using hp
  have hpass : Passes (CX1 X.prog X.w) { X with pn := X.pn ++ pins, xe := fun e s1 => ∃ pins' σ' H0 s0, Inv { X with pn := X.pn ++ pins } pins' σ' H0 s0 ∧ CX1 X.prog X.w X.stack H0 s0 E e s1 } E := by
    intro pins' σ' H0 s0 e s1 J q
    exact ⟨pins', σ', H0, s0, J.recx (A' := X.A) (cm := X.calm) (pn' := X.pn ++ pins) rfl J.ok.hd fun p hp => hp, q⟩
  have toX : ∀ {pins' σ' H' s'}, Inv { X with pn := X.pn ++ pins } pins' σ' H' s' → Inv X pins σ' H' s' := fun {pins' σ' H' s'} J => by
    have z := J.recx (A' := X.A) (cm := X.calm) (pn' := X.pn) (pins' := pins) (xe' := X.xe) rfl J.ok.hd fun p hp => List.mem_append_left _ hp
    exact z
  have toX' : ∀ {pins' σ' H' s'} {xe' : Value → Shared → Prop}, Inv { X with pn := X.pn ++ pins, xe := xe' } pins' σ' H' s' → Inv X pins σ' H' s' := fun {pins' σ' H' s' xe'} J => by
    have z := J.recx (A' := X.A) (cm := X.calm) (pn' := X.pn) (pins' := pins) (xe' := X.xe) rfl J.ok.hd fun p hp => List.mem_append_left _ hp
    exact z
  refine wpAny_mono (hb E _ _ hpass [] s σ H D I' htb) (fun f s1 q => ?_) fun e s1 q => ?_
  · cases f with
    | next =>
      obtain ⟨σ', H', J, q⟩ := q
      exact wpAny_execs_nil ⟨σ', H', toX' J, q⟩
    | brk =>
      obtain ⟨σ', H', J, q⟩ := q
      exact ⟨σ', H', toX' J, q⟩
    | cont =>
      obtain ⟨σ', H', J, q⟩ := q
      exact ⟨σ', H', toX' J, q⟩
    | ret u =>
      obtain ⟨v, σ', H', J, r, q⟩ := q
      exact ⟨v, σ', H', toX' J, r, q⟩
  · obtain ⟨pins', σ', H0, s0, I0, ea, cls, a0, od, c, H1, B, rfl, os, bare, un, hok, hn, cov, fl, sc, qE⟩ := q
    rcases qE with ⟨rfl, _, qE⟩ | ⟨C9, e9, C8, rfl, rfl, rfl, _, qE⟩
    case inr => exact absurd (hE _ _ _ qE).1 (exm_no _ _ _ _)
    obtain ⟨hex, hth⟩ := hE cls od H1 qE
    have J1 : Inv { X with pn := X.pn ++ pins } pins' σ' H1 s1 := I0.threw os bare un hok
    have nof : ∀ b ∈ frs X.stack, H1 b = none := J1.stkFree
    have frd : ∀ {h' : Heap}, s1.heap.UpToSlots h' → ∀ b ∈ frs X.stack, ∀ ob, h'.get? b = some ob → ∀ vs, ob.data ≠ .fields vs := fun {h'} up b hb ob e vs z => by
      obtain ⟨_, o, ho, hnf⟩ := J1.stack.mem hb
      obtain ⟨sl, q⟩ := up b o ho hnf
      rw [e] at q
      cases q
      exact hnf vs z
    -- a station: the invariant again
    have at_ : ∀ {h' : Heap}, B.StaysIn h' → s1.heap.UpToSlots h' → Inv X pins σ' H1 { s1 with heap := h' } := fun {h'} hB up => by
      obtain ⟨u2, ok2, _⟩ := stays_un un hok nof (frd (Heap.UpToSlots.refl _)) cov hB up
      exact toX (I0.threw (s' := { s1 with heap := h' }) os bare u2 ok2)
    have eNo : ea ∉ frs X.stack := fun z => by
      obtain ⟨oe, vs, e, _, d, _⟩ := fl.first
      exact frd (Heap.UpToSlots.refl _) ea z oe e vs d
    have new0 : s0.heap.get? ea = none := by
      cases hz : s0.heap.get? ea with
      | none => rfl
      | some o =>
        obtain ⟨oe, vs, e, _⟩ := fl.first
        have q := cov ea oe e (.inr ⟨o, hz⟩) eNo
        rw [fl.2.1] at q
        cases q
    have fl' : Heap.FlyingW B (X.env :: X.outer) ea cls a0 s1.heap := by
      rw [hst] at fl
      exact fl
    refine note2 hfr hf fl' sc fun h4 held4 sc4 up4 => ?_
    obtain ⟨g1, g2, g3, g4⟩ := held4
    refine land2 (s := { s1 with heap := h4 }) g1 g2 g3 g4 sc4 fun h5 fl5 sc5 up5 => ?_
    have up15 := up4.trans up5
    have J5 := at_ fl5.1 up15
    have hfm : (X.A.mark (some (.ref ea))).frames = X.A.frames := rfl
    have J5' : Inv { X with A := X.A.mark (some (.ref ea)), calm := false, pn := X.pn, xe := fun _ _ => False } pins σ' H1 { s1 with heap := h5 } := J5.recx hfm (fun z => nomatch z) fun p hp => hp
    refine wpAny_handleBy_cons (codeAny_handlers_test (ld_glob J5' hg hm ?_ hdb)) (by intro q; cases q)
    obtain ⟨ob, hob, hobc⟩ := fl5.there
    have LT : PySem.W.Looks (model X.prog X.w) h5 (typeOf (.ref ea)) cls := hobc ▸ (PySem.W.Looks.ld hob).andThen .now
    refine PySem.W.Looks.here (s := { s1 with heap := h5 }) (PySem.W.exm_one (K := X.K) J5.kIn LT hex) ?_
    refine codeAny_handlers_suite_as ?_
    obtain ⟨k1, k2, k3, k4⟩ := fl5
    refine land2 (s := { s1 with heap := h5 }) k1 k2 k3 k4.at sc5 fun h6 fl6 sc6 up6 => ?_
    have up16 := up15.trans up6
    have J6 := at_ fl6.1 up16
    obtain ⟨oe, vs, e6, c6, d6, _⟩ := fl6.first
    have z6 : vs[2]? = some .none ∧ oe.dict = od := by
      obtain ⟨o2, v2, g2, d2, z2, y2⟩ := sc6
      rw [e6] at g2
      cases g2
      rw [d6] at d2
      cases d2
      exact ⟨z2, y2⟩
    have ne0 : ea ≠ X.env.locals := fun z => by
      obtain ⟨m, ⟨o, _, _, ho, hd, _⟩, _⟩ := J6.loc
      rw [← z] at ho
      rw [e6] at ho
      cases ho
      rw [d6] at hd
      cases hd
    have J7 : Inv X pins σ' (upd H1 ea (oo ea cls od)) { s1 with heap := h6 } := by
      refine J6.track hn ?_ ne0 (fun y c e z => ?_) (fun p hp z => ?_) (hoo ⟨oe, vs, e6, c6, d6, z6.1, z6.2⟩)
      · cases hz : X.s₀.heap.get? ea with
        | none => rfl
        | some o =>
          obtain ⟨o', q⟩ := I0.base.there ea o hz (show ea ∉ X.ex by rw [hexs]; simp)
          rw [new0] at q
          cases q
      · obtain ⟨v, o, ho, hd⟩ := J6.cell y c e
        rw [z, e6] at ho
        cases ho
        rw [d6] at hd
        cases hd
      · have q := (I0.pin p (List.mem_append_left _ hp)).1
        rw [z, new0] at q
        cases q
    have J8 : Inv { X with A := X.A.mark (some (.ref ea)), calm := false, pn := X.pn, xe := fun _ _ => False } pins (List.replicate X.N.length none) (upd H1 ea (oo ea cls od)) { s1 with heap := h6 } := by
      have z : Inv X pins (List.replicate X.N.length none) (upd H1 ea (oo ea cls od)) { s1 with heap := h6 } := J7.weak (by rw [List.length_replicate, J7.len]) fun j v e => by
        rw [List.getElem?_replicate] at e
        split at e <;> cases e
      exact z.recx hfm (fun z => nomatch z) fun p hp => hp
    refine store_ok (X := { X with A := X.A.mark (some (.ref ea)), calm := false, pn := X.pn, xe := fun _ _ => False }) (v := .ref ea) J8 hN hi (.inl hx) rfl (fun s9 J9 => ?_) (.inr hx)
    refine wpAny_mono (hh _ _ pins s9 _ _ _ J9 (hth ea hn)) (fun f s10 q => ?_) fun _ _ z => z.elim
    cases f with
    | next =>
      obtain ⟨σ2, H2, J10, q⟩ := q
      have J11 : Inv X pins σ2 H2 s10 := by
        have z := J10.recx (A' := X.A) (cm := X.calm) (pn' := X.pn) (pins' := pins) (xe' := X.xe) hfm.symm I.ok.hd fun p hp => hp
        exact z
      exact unname_ok J11 hN hi hx fun s12 J12 => ⟨_, H2, J12, q⟩
    | brk => obtain ⟨_, _, _, q⟩ := q; exact q.elim
    | cont => obtain ⟨_, _, _, q⟩ := q; exact q.elim
    | ret u => obtain ⟨_, _, _, _, _, q⟩ := q; exact q.elim
theorem ps_tryX {x n : Str} {i : Nat} {C : Addr} {body rest : List Stmt} {b0 : Stmt} {np hpos pos : Pos} {tb : XK → TS} {th : Addr → TS} (K : PySem.W.Frag) (hst : X.stack = X.env :: X.outer) (hf : X.env.frame = some X.env.locals) (hexs : X.ex = []) (hN : X.N.Nodup) (hi : X.N[i]? = some n)
    (hx : X.env.scope.names.lookup n = some .local) (hg : Gl X x) (hm : X.mg x = some (.ref C))
    (hb : ∀ E pn xe, Passes (CX1 X.prog X.w) { X with pn := pn, xe := xe } E → PSs { X with pn := pn, xe := xe } body (tb E))
    (hh : ∀ ea pn, PSs { X with A := X.A.mark (some (.ref ea)), calm := false, pn := pn, xe := fun _ _ => False } (b0 :: rest) (th ea)) (hK : X.K = K := by rfl) (hdb : (x == ("__debug__" : Str)) = false := by decide) :
    PS X (.Try body [.ExceptHandler (some (.Name x np)) (some n) (b0 :: rest) hpos] [] [] pos) (tTryX K C i X.N.length tb th) := ps_tryG ExcX (fun q => excX_ok q) K hst hf hexs hN hi hx hg hm hb hh hK hdb
end
end L2

namespace L2
open PySem PySem.Spec PySem.Calls PyProof.Rows PySem.W PySem.Builtin PySem.Builtin.ObjectAttr PySem.Builtin.Getset_descriptor

structure ExcCls (K : Frag) (D : Addr) : Prop where
  ga : findIn K (.ref D) "__getattribute__" = some (some (.builtin "BaseException.__getattribute__"))
  gh : findIn K (.ref D) "__getattr__" = some none
  cl : findIn K (.ref D) "__class__" = some (some (.builtin "object.__class__"))
  gt : specialIn K (.builtin "object.__class__") "__get__" = some (some (.builtin "getset_descriptor.__get__"))
  tk : takesIn K (.builtin "object.__class__") = some true
  mr : mroIn K D (.type "object") = some true
  mb : mroIn K D (.type "BaseException") = some true
  is_ : (clsIn K D).isSome = true
def ExcAt (x : Addr) (D : Value) (h : Heap) : Prop := ∃ ox, h.get? x = some ox ∧ ox.cls = D
section
variable {K : Frag} {x D : Addr}
theorem ExcAt.ty {M : Model} {h : Heap} {V : Value} (q : ExcAt x V h) : Looks M h (typeOf (.ref x)) V := by
  obtain ⟨ox, e, c⟩ := q
  exact c ▸ (Looks.ld e).andThen .now
theorem looks_data {M : Model} {h : Heap} {C : Addr} {name : Str} {at_ g : Value} (X : K.In h) (ha : findIn K (.ref C) name = some (some at_)) (hg : specialIn K at_ "__get__" = some (some g)) (hd : takesIn K at_ = some true) :
    Looks M h (find (.ref x) (.ref C) name) (.bind g at_) := by
  refine (looks_findIn X ha).andThen (Looks.andThen (show Looks M h (getOf (some at_)) (some g) from looks_specialIn X hg) ?_)
  have L3 := looks_takesIn (M := M) X hd
  have L4 : Looks M h (dataDescriptor? (some at_) (some g)) (some (g, at_)) := L3.andThen .now
  exact L4.andThen (Looks.tag .now)
section
variable {prog : Program} {w : World} {A : Around} {E : Value → Shared → Prop} {s : Shared}
theorem check_bexc {M : Model} {nameV : Value} {Q : Unit → Shared → Prop} {hh : Heap} {gg : Array GenState} {dd : Drawn} {tt : Nat} {oo : OsState} (S : Looks M hh (isInstance (.ref x) (.type "BaseException")) true) (hq : Q () ⟨hh, gg, dd, tt, oo⟩) :
    wpAny M A (checkBuiltinCall "BaseException.__getattribute__" ⟨[.ref x, nameV], []⟩) Q E ⟨hh, gg, dd, tt, oo⟩ := by
  have hk : builtinKind "BaseException.__getattribute__" = some .slot := by decide +kernel
  have hsplit : splitId "BaseException.__getattribute__" = some ("BaseException", "__getattribute__") := by decide +kernel
  have ha := F.args_bexc_ga (.ref x) nameV
  simp only [checkBuiltinCall, hk, hsplit]
  refine wpAny_bind (S.at ?_)
  repeat (first | wp_step)
  exact hq
theorem exc_class {Q : Option Value → Shared → Prop} (C : ExcCls K D) (X : K.In s.heap) (q : ExcAt x (.ref D) s.heap) (h : Q (some (.ref D)) { s with toks := s.toks + 1 }) : wpAny (model prog w) A (getAttr? (.ref x) "__class__") Q E s := by
  obtain ⟨hh, gg, dd, tt, oo⟩ := s
  have L0 := q.ty (M := model prog w)
  have L1 := looks_findIn (M := model prog w) X C.ga
  have L2 := looks_data (M := model prog w) (x := x) X C.cl C.gt C.tk
  have L3 := looks_findIn (M := model prog w) X C.gh
  have L4 := looks_mroIn (M := model prog w) X C.mr
  have L5 := looks_mroIn (M := model prog w) X C.mb
  have S5 : Looks (model prog w) hh (isInstance (.ref x) (.type "BaseException")) true := L0.andThen L5
  unfold getAttr? getAttrBy? getAttrBy
  refine wpAny_bind (wpAny_mkText (wpAny_bind (wpAny_attempt (wpAny_holding (wpAny_bind (L0.at (wpAny_bind (L1.at ?_))))))))
  show wpAny _ _ (getAttrByItsOwn (.ref x) (.str "__class__" tt) (.ref D) (.builtin "BaseException.__getattribute__") false false) _ _ _
  unfold getAttrByItsOwn
  refine wpAny_bind (Looks.at (show Looks (model prog w) hh (hookBefore (.ref D)) none from L3) ?_)
  refine wpAny_bind (wpAny_attempt (wpAny_holding ?_))
  show wpAny _ _ (boundAndCalled _ _ _) _ _ _
  unfold boundAndCalled
  rw [F.attrBase_ValueError.ga.bind (.ref x)]
  refine wpAny_bind (wpAny_pure ?_)
  show wpAny _ _ (call (.builtin "BaseException.__getattribute__") [.ref x, .str "__class__" tt]) _ _ _
  refine wpAny_call (codeAny_call_builtin F.attrBase_ValueError.ga.plain F.entry_bexc_ga ?_)
  refine check_bexc S5 ?_
  refine wpAny_bind (wpAny_pure (wpAny_bind (wpAny_pure (wpAny_bind (L0.at (wpAny_bind (L2.at ?_)))))))
  show wpAny _ _ (holding [_] (call (.builtin "getset_descriptor.__get__") [.builtin "object.__class__", .ref x, .ref D]) >>= ret) _ _ _
  refine wpAny_bind (wpAny_holding (wpAny_call ?_))
  refine codeAny_call_builtin KF.slot_gs.plain KF.entry_gs (KF.slot_gs.check _ _ _ _ _ _ _ _ KF.type_class (KF.args_gs _ _ _) ?_)
  (unfold Builtin.«getset_descriptor.__get__» descrGet; rw [dga_obj])
  refine wpAny_bind (wpAny_pure ?_)
  (unfold descrGetter descrCheckInstance descrNameAndClass isInstance; simp only [KF.owner_class])
  repeat lk
  refine ⟨Code.quiet_builtin _ (by decide +kernel), codeAny_builtin KF.entry_class ?_⟩
  (unfold Builtin.«object.__class__» shownTypeOf)
  repeat lk
  exact h
end
theorem kitx_exc (C : ExcCls K D) : KitX K (.ref x) (.ref D) (ExcAt x (.ref D)) where
  ty := fun _ _ _ q => q.ty
  it := fun M h X _ => by
    have z := C.is_
    unfold clsIn at z
    split at z
    · rename_i ho
      intro A1 Q1 E1 s1 k q
      (unfold isType; unfold loadHead)
      exact wpAny_bind (wpAny_loadPart (k _ _ (X _ _ ho)) (wpAny_pure q))
    · cases z
  ne := fun h tp dd its n sl X htp => by
    have z := C.is_
    refine Bool.eq_false_iff.mpr fun q => ?_
    cases Value.ref.inj (beq_iff_eq.mp q)
    unfold clsIn at z
    split at z
    · rename_i ho
      cases (X _ _ ho).symm.trans htp
    · cases z
  ca := fun X q k => exc_class C X q k
end
end L2

namespace L2
open PySem PySem.Spec PyProof.Rows
section
variable {X : Cx}
theorem op_mulB : OpR X (binaryOp .Mult) (rI IntMulOk fun i j => .int (i * j)) := opI fun _ _ _ _ _ _ _ hc q => mul_int q hc
theorem mulOk_of {i j : Int} (hi : i.natAbs < 2 ^ 1000) (hj : j.natAbs < 2 ^ 1000) : IntMulOk i j := by
  have bits : ∀ k : Int, k.natAbs < 2 ^ 1000 → Builtin.Int.intBits k ≤ 2 ^ 20 := fun k hk => by
    unfold Builtin.Int.intBits
    by_cases h0 : k.natAbs = 0
    · simp only [h0]
      split <;> decide
    · have h1 : k.natAbs.log2 < 1000 := (Nat.log2_lt h0).mpr hk
      split <;> (first | lia | omega)
  exact IntMulOk.of_bits (bits i hi) (bits j hj)
def rCatL (K : PySem.W.Frag) : R2 := fun x y H Q => ∃ l b xs zs, x = .ref l ∧ y = .ref b ∧ SqL K H l xs ∧ SqL K H b zs ∧ xs.length + zs.length ≤ sizeLine ∧ ∀ p, H p = none → Q (.ref p) (upd H p (.lst (xs ++ zs)))
theorem catL (K : PySem.W.Frag) (hK : X.K = K := by rfl) : OpR X (binaryOp .Add) (rCatL K) := by
  subst hK
  intro pins s σ H x y v u Q I rx ry h
  obtain ⟨l, b, xs, zs, rfl, rfl, hH, hB, hz, q⟩ := h
  cases rx
  cases ry
  obtain ⟨its, r, pl, _⟩ := I.list hH
  obtain ⟨its2, r2, pl2, _⟩ := I.list hB
  obtain ⟨⟨cls, dd, data, sl⟩, n, e, hc, _, hd⟩ := pl
  obtain ⟨⟨cls2, dd2, data2, sl2⟩, n2, e2, hc2, _, hd2⟩ := pl2
  simp only at hc hd hc2 hd2
  subst hc hd hc2 hd2
  have l1 := r.length
  have l2 := r2.length
  have ea : its.toArray ++ its2.toArray = (its ++ its2).toArray := by simp
  refine concat_meets ⟨_, e, rfl⟩ ⟨_, e2, rfl⟩ noFill_list_add seq_list_add PySem.F.slot_list_add PySem.F.entry_list_add (PySem.F.args_list_add_2 _ _)
    (list_addW l b its.toArray its2.toArray n n2 dd dd2 sl sl2 (by rw [List.size_toArray, List.size_toArray]; (first | lia | omega))) ⟨e, e2, ?_⟩
  rw [ea]
  exact ⟨.ref _, _, I.lnew (t' := s.toks) (r.append r2) (by rw [List.length_append]; (first | lia | omega)), rfl, q _ I.fresh⟩
end
section
variable {X : Cx} {tg : Expr}
end
theorem pe_cls {X : Cx} {x : Str} {C : Addr} {pos : Pos} (hg : Gl X x) (hm : X.mg x = some (.ref C)) (hd : (x == ("__debug__" : Str)) = false := by decide) : PE X (.Name x pos) (tC (.ref C)) := pe_glob hg hm rfl hd
theorem own_of {K : PySem.W.Frag} {h : Heap} {mg : Str → Option Value} {x : Str} {C : Addr} {bmB : List Value} {newId : String} (X : K.In h) (G : h.Ns mainGlobals mg) (e : PySem.W.nsIn K mainGlobals x = some (some (.ref C))) (q : PySem.W.excIn K C bmB newId = true) :
    OwnCls x C bmB newId mg h := by
  refine ⟨PySem.W.mg_of X G e, ?_⟩
  unfold PySem.W.excIn at q
  split at q
  · rename_i od cd sl look
    split at q
    · rename_i Cx bm j0 j1 j2 j3 nw j5 hmro hsl
      simp only [Bool.and_eq_true, beq_iff_eq, Bool.not_eq_true'] at q
      obtain ⟨⟨⟨⟨⟨rfl, rfl⟩, hdel⟩, ht⟩, hok⟩, hni⟩ := q
      obtain ⟨nm, bs, mro, ns, qn, hd, sn, sub, ab, col, del⟩ := cd
      (dsimp only at hmro hdel hok hni; subst hmro hdel)
      have hs2 : sl = #[j0, j1, j2, j3, some (.builtin nw), j5] := by
        obtain ⟨l⟩ := sl
        simp only at hsl
        rw [hsl]
      subst hs2
      exact ⟨bm, ns, nm, qn, bs, hd, sn, sub, ab, col, od, j0, j1, j2, j3, j5, _, X _ _ look, .of_isNs (PySem.W.isNs_of_in X hok), PySem.W.nsMap_none_of_in X hok hni, PySem.W.tail_of_in X ht⟩
    · cases q
  · cases q
end L2
namespace L2
theorem exc_is {K : PySem.W.Frag} {C : PySem.Addr} (h : PySem.W.hasDictIn K C = true) : (PySem.W.clsIn K C).isSome = true := by
  obtain ⟨cd, e, _⟩ := PySem.W.any_some h
  rw [e]
  rfl
end L2
namespace L2
theorem len1 {α : Type} : ∀ us : List α, us.length = 1 → ∃ a, us = [a]
  | [_], _ => ⟨_, rfl⟩
theorem len2 {α : Type} : ∀ us : List α, us.length = 2 → ∃ a b, us = [a, b]
  | [_, _], _ => ⟨_, _, rfl⟩
theorem len3 {α : Type} : ∀ us : List α, us.length = 3 → ∃ a b c, us = [a, b, c]
  | [_, _, _], _ => ⟨_, _, _, rfl⟩
end L2

namespace L2
open PySem PySem.Spec PyProof.Rows

section
variable {X : Cx} {ea : Addr} {k : Nat} {f : Addr} {fd : FuncData} {ps : List Str} {sp : Sp} {dvs : List V} {ds : List Value} {x : Str} {p pos : Pos} {e : Expr} {es : List Expr} {t : TA}
end
section
variable {prog : Program} {w : World} {A : Around} {E : Value → Shared → Prop} {s : Shared}
end
end L2

namespace L2
open PySem PySem.Spec PyProof.Rows
section
variable {X : Cx} {pins : List (Addr × Obj)} {σ : St} {H : Hp} {s : Shared} {h' : Heap}
theorem Inv.yields {t' : Nat} {wr : List Addr} {T : Addr} {o : HO} (I : Inv X pins σ H s) (k : ∀ b u, b ∉ wr → s.heap.get? b = some u → h'.get? b = some u) (hf : ∀ b ∈ wr, FpOk X pins H b) (hT : s.heap.objs.size ≤ T)
    (new : ObjOk X.prog X.w (upd H T o) h' T o) : Inv X pins σ (upd H T o) { s with heap := h', toks := t' } := by
  have hTn : H T = none := I.hok.fresh hT
  have nT : ∀ b u, H b = some u → b ≠ T := fun b u e => ne_of_none e hTn
  have nw : ∀ b u, H b = some u → b ∉ wr := fun b u e hb => by rw [(hf b hb).1] at e; cases e
  refine I.step (g' := s.gens) (d' := s.drawn) (ch := wr) (fun b hb => ?_) (fun b o _ _ hc e _ => k b o hc e) (fun b o _ _ hc e _ => ⟨o.slots, k b o hc e⟩) (fun b u hc e n => ?_)
    (fun b o hc e => ⟨o, k b o hc e⟩) (fun b xs e => ?_) (fun b ob xs e => ?_) (fun b ps e => ⟨#[], ?_⟩) (fun m hm => ?_) (fun b u e => ?_) I.bare
  · obtain ⟨_, f1, _, f3, f4, f5⟩ := hf b hb
    exact ⟨f3, f1, f4, f5⟩
  · rw [upd_ne (Nat.ne_of_lt (Nat.lt_of_lt_of_le (Heap.lt_size e) hT))]; exact n
  · rw [upd_ne (nT b _ e)]; exact e
  · rw [upd_ne (nT b _ e)]; exact e
  · rw [upd_ne (nT b _ e), e]; simp
  · obtain ⟨o, es, ep, ho, r⟩ := hm
    exact ⟨o, es, ep, k _ o (fun hb => (hf _ hb).2.1 rfl) ho, r⟩
  · by_cases hb : b = T
    · subst hb; rw [upd_same] at e; cases e; exact new
    · rw [upd_ne hb] at e
      refine (I.hok b u e).stay (fun c v hc q => k c v ?_ q) (fun c q => by rw [upd_ne (nT c _ q)]; exact q) fun c xs q => by rw [upd_ne (nT c _ q)]; exact q
      rcases hc with z | z
      · rw [z]; exact nw b u e
      · exact nw c _ z
end
def Ite (K : PySem.W.Frag) (a : Addr) : It :=
  ⟨fun i H => ∃ xs x, SqL K H a xs ∧ xs[i]? = some x, fun i H v H' => ∃ T x, v = .ref T ∧ H T = none ∧ H' = upd H T (.tup [.int (i : Int), x]) ∧ ∀ xs, SqL K H a xs → xs[i]? = some x, fun i H => ∃ xs, SqL K H a xs ∧ xs.length ≤ i⟩
theorem turn_enum {P : Program} {w : World} {K : PySem.W.Frag} {elts : List Expr} {k : Nat} {pos : Pos} (a e it : Addr) (hne : e ≠ it) :
    Turn P w K (.Tuple elts k pos) (Ite K a) [e, it] e (fun i h => (∃ old, IsEnum h e it (i : Int) old) ∧ h.IsListIter it a i) where
  mem := by simp
  obj := fun i h st b hb => by
    obtain ⟨⟨old, he⟩, o, ho, c, d⟩ := st
    have hb' : b = e ∨ b = it := by simpa using hb
    rcases hb' with rfl | rfl
    · exact ⟨_, he, fun v z => by cases z⟩
    · exact ⟨o, ho, fun v z => by rw [d] at z; cases z⟩
  keep := fun i h h' st k => by
    obtain ⟨⟨old, he⟩, hit⟩ := st
    exact ⟨⟨old, k e (by simp) _ he⟩, hit.at fun o x => k it (by simp) o x⟩
  item := by
    intro X hP hw hK hc i pins s σ H E I hf st hg
    subst hP hw hK
    obtain ⟨xs, x, hq, hx⟩ := hg
    obtain ⟨its, rv, p, hz⟩ := I.list hq
    obtain ⟨u, hu, ru⟩ := rv.get hx
    obtain ⟨⟨old, he⟩, hit⟩ := st
    refine wpAny_pyNext_enum_item he hit p.isList (x := u) (by simpa using hu) hne fun h1 ho hit1 hT hsz hk => ?_
    refine ⟨_, rfl, wpAny_letOwnedTupleGo_enum ho fun h2 he2 hs2 => ?_⟩
    have hTe : s.heap.objs.size ≠ e := Nat.ne_of_gt (Heap.lt_size he)
    have hT2 : h2.get? s.heap.objs.size = some { cls := .type "tuple", data := .seq #[.int i s.toks, u] } := (hs2.2 _ hTe).trans hT
    refine ⟨.ref s.heap.objs.size, upd H s.heap.objs.size (.tup [.int (i : Int), x]), I.yields (wr := [e, it]) (t' := s.toks + 1) (fun b o hb q => ?_) hf (Nat.le_refl _) ?_, rfl, ⟨_, x, rfl, I.fresh, rfl, fun ys hy => by rw [I.list_inj hy hq]; exact hx⟩, ⟨⟨u, by simpa using he2⟩, ?_⟩, fun b hb => ?_⟩
    · have h1' : b ≠ e := fun z => hb (by simp [z])
      have h2' : b ≠ it := fun z => hb (by simp [z])
      exact (hs2.2 b h1').trans (hk b o h1' h2' q)
    · exact ⟨dl rfl, [.int i s.toks, u], .cons ⟨_, rfl⟩ (.cons ru .nil), ⟨_, hT2, rfl, _, rfl⟩⟩
    · exact hit1.at fun o q => (hs2.2 it (Ne.symm hne)).trans q
    · rw [upd_ne]
      · exact (hf b hb).1
      · have hb' : b = e ∨ b = it := by simpa using hb
        rcases hb' with rfl | rfl
        · exact Ne.symm hTe
        · obtain ⟨o, q, _⟩ := hit
          exact Nat.ne_of_lt (Heap.lt_size q)
  done := by
    intro X hP hw hK hc i pins s σ H E I hf st hg
    subst hP hw hK
    obtain ⟨xs, hq, hx⟩ := hg
    obtain ⟨its, rv, p, hz⟩ := I.list hq
    obtain ⟨⟨old, he⟩, hit⟩ := st
    obtain ⟨f0, f1, f2, f3, f4, f5⟩ := hf it (by simp)
    have hl := rv.length
    exact wpAny_pyNext_enum_end (I.ok.hd hc) he hit p.isList (by simp; (first | lia | omega)) fun h' eb => ⟨rfl, I.turned (t' := s.toks) (fun b o hb e => eb b o hb e) f0 f1 f3 f4 f5⟩
  self := fun _ _ _ _ _ st h => by
    obtain ⟨⟨old, he⟩, _⟩ := st
    exact wpAny_pyIter_enum he h
section
variable {X : Cx} {elts : List Expr} {n : Nat} {tp : Pos}
def iEnum (K : PySem.W.Frag) (ta : TA) : TI := fun σ H R => ta σ H fun vs H1 => ∃ a, vs = [.ref a] ∧ (∃ xs, SqL K H1 a xs) ∧ R (Ite K a) H1
theorem pi_enum (K : PySem.W.Frag) {a : Expr} {ta : TA} {p pos : Pos} (hg : Gl X "enumerate") (hm : X.mg "enumerate" = none) (ha : PA X [a] ta) (hs : starEach [a] X.env = [(false, eval a X.env)] := by rfl) (hK : X.K = K := by rfl) :
    PI X (.Tuple elts n tp) (.Call (.Name "enumerate" p) [a] [] pos) (iEnum K ta) := by
  subst hK
  intro pins s σ H R I h
  refine Call_ (ld_blt I hg hm boot_enumerate (PyProof.Rows.callWith_type1 (thn (ha pos pins s σ H _ I h) fun us s1 ⟨vs, H1, I1, r1, q1⟩ => ?_) hs rfl))
  obtain ⟨a, e, ⟨xs, hq⟩, q⟩ := q1
  subst e
  cases r1 with
  | cons r rr =>
    cases rr
    cases r
    obtain ⟨its, rv, pl, hz⟩ := I1.list hq
    refine call_enumerate_list pl.isList fun h' he hit hsz hk => ?_
    have I2 : Inv X pins σ H1 { s1 with heap := h' } := I1.kept (t' := s1.toks) hk
    refine wpAny_pyIter_enum he ⟨_, [s1.heap.objs.size + 1, s1.heap.objs.size], _, _, H1, rfl, I2, turn_enum a _ _ (Nat.succ_ne_self _), ⟨⟨_, he⟩, hit⟩, fun b hb => ?_, q⟩
    have hb' : b = s1.heap.objs.size + 1 ∨ b = s1.heap.objs.size := by simpa using hb
    have hbs : s1.heap.objs.size ≤ b := by
      rcases hb' with rfl | rfl
      · exact Nat.le_succ _
      · exact Nat.le_refl _
    exact I1.fpOk hbs (I1.hok.fresh hbs)
end
section
variable {K : PySem.W.Frag} {a b : Addr} {xs ys : List V} {g : TG} {tt : TT} {te : TE} {n : Nat} {fr : St} {D : Addr} {Q : Hp → Prop} {H1 : Hp}
theorem for_enum {tb : TS} {D : Ends} {σ : St} {H : Hp} (Pv : Nat → St → Hp → Prop) (h0 : Pv 0 σ H) (hl : ∀ i σ H, i ≤ xs.length → Pv i σ H → SqL K H a xs)
    (hs : ∀ i x T σ H, xs[i]? = some x → Pv i σ H → H T = none → g (.ref T) σ (upd H T (.tup [.int (i : Int), x])) fun σ2 H2 => tb { D with nx := Pv (i + 1), ct := Pv (i + 1), bk := D.nx } σ2 H2) (hd : ∀ σ H, Pv xs.length σ H → D.nx σ H) :
    ∃ W : Nat → Nat → St → Hp → Prop, (∃ m, W 0 m σ H) ∧ ∀ i m σ H, W i m σ H →
      ((Ite K a).stop i H ∧ D.nx σ H) ∨ ((Ite K a).go i H ∧ ∃ N : St → Hp → Prop, (∀ σ' H', N σ' H' → ∃ m', m' < m ∧ W (i + 1) m' σ' H') ∧ ∀ x H', (Ite K a).yld i H x H' → g x σ H' fun σ2 H2 => tb { D with nx := N, ct := N, bk := D.nx } σ2 H2) := by
  refine ⟨fun i m σ H => m = xs.length - i ∧ i ≤ xs.length ∧ Pv i σ H, ⟨xs.length, by simp, Nat.zero_le _, h0⟩, ?_⟩
  rintro i m σ H ⟨rfl, hi, p⟩
  have q := hl i σ H hi p
  by_cases hlt : i < xs.length
  · refine .inr ⟨⟨xs, xs[i], q, by simp [hlt]⟩, Pv (i + 1), fun σ' H' p' => ⟨xs.length - (i + 1), by (first | lia | omega), rfl, hlt, p'⟩, fun v H' y => ?_⟩
    obtain ⟨T, x, rfl, hT, rfl, y⟩ := y
    exact hs i x T σ _ (y xs q) p hT
  · have e : i = xs.length := by (first | lia | omega)
    subst e
    exact .inl ⟨⟨xs, q, Nat.le_refl _⟩, hd σ H p⟩
end
end L2

namespace L2
open PySem PySem.Spec PyProof.Rows
section
variable {X : Cx}
end
end L2

namespace L2
open PySem PySem.Spec PyProof.Rows
section
variable {X : Cx}
end
end L2

namespace L2
open PySem PySem.Spec PyProof.Rows
section
variable {X : Cx}
end
end L2
namespace HT
open PySem PyProof.Rows
section
variable {prog : Program} {w : World} {A : Around} {E : Value → Shared → Prop} {s : Shared}
end
end HT
namespace L2
open PySem PySem.Spec PyProof.Rows
section
variable {X : Cx}
end
end L2

namespace Ring
open PySem
abbrev Tie := Int × Int × Int
end Ring

namespace Ring
open PySem L2
def tieV (t : Tie) : List V := [.int t.1, .int t.2.1, .int t.2.2]
def TupAt (H : Hp) (x : V) (t : Tie) : Prop := ∃ b, x = .ref b ∧ H b = some (.tup (tieV t))
structure WebAt (H : Hp) (w : Addr) (p : Nat) (ts : List Tie) : Prop where
  ex : ∃ b xs, H w = some (.tup [.int (p : Int), .ref b]) ∧ H b = some (.tup xs) ∧ Paired (TupAt H) xs ts
theorem TupAt.tups {H H' : Hp} (s : Tups H H') {x : V} {t : Tie} (h : TupAt H x t) : TupAt H' x t := by
  obtain ⟨b, e, h⟩ := h
  exact ⟨b, e, s _ _ h⟩
theorem WebAt.tups {H H' : Hp} {w : Addr} {p : Nat} {ts : List Tie} (s : Tups H H') (h : WebAt H w p ts) : WebAt H' w p ts := by
  obtain ⟨b, xs, h1, h2, h3⟩ := h.ex
  exact ⟨b, xs, s _ _ h1, s _ _ h2, Paired.imp' (fun _ _ z => z.tups s) h3⟩
theorem WebAt.same {H H' : Hp} {w : Addr} {p : Nat} {ts : List Tie} (s : Same H H') (h : WebAt H w p ts) : WebAt H' w p ts := h.tups s.tups
def natsV (l : List Nat) : List V := l.map fun k => V.int ((k : Nat) : Int)
theorem natsV_snoc (l : List Nat) (k : Nat) : natsV (l ++ [k]) = natsV l ++ [.int (k : Int)] := by unfold natsV; rw [List.map_append]; rfl
theorem natsV_len (l : List Nat) : (natsV l).length = l.length := by unfold natsV; rw [List.length_map]
theorem natsV_get {l : List Nat} {i : Nat} {x : V} (h : (natsV l)[i]? = some x) : ∃ k, l[i]? = some k ∧ x = .int (k : Int) := by
  unfold natsV at h
  rw [List.getElem?_map] at h
  obtain ⟨k, e, q⟩ := Option.map_eq_some_iff.mp h
  exact ⟨k, e, q.symm⟩
section
variable {f : Nat → Bool} {H H2 H3 : Hp} {D : Addr} {i : Nat} {acc : List V}
end
def intsV (l : List Int) : List V := l.map V.int
def natD (k : Nat) : PyData := .int (k : Int)
theorem nats_dat {K : PySem.W.Frag} {H : Hp} : ∀ l : List Nat, DatVs K H (natsV l) (l.map natD)
  | [] => .nil
  | _ :: r => .cons (.int _) (nats_dat r)
theorem lay_nats : ∀ l : List Nat, PyData.canLayAll0 (l.map natD) = true
  | [] => rfl
  | _ :: r => by
    have ih := lay_nats r
    simp only [List.map_cons, PyData.canLayAll0, ih, Bool.and_true]
    rfl
theorem deep_nats : ∀ l : List Nat, PyData.depthAll (l.map natD) = 0
  | [] => rfl
  | _ :: r => by
    have ih := deep_nats r
    show max (PyData.depth (PyData.int _)) (PyData.depthAll (r.map _)) = 0
    rw [ih]
    rfl
theorem shaped_nats (l : List Nat) : SeqAt.shaped (.list (l.map natD)) = true := by
  unfold SeqAt.shaped
  have e : (PyData.list (l.map natD)).canLay0 = PyData.canLayAll0 (l.map natD) := by simp [PyData.canLay0]
  rw [e, lay_nats, Bool.true_and]
  refine decide_eq_true ?_
  have e2 : PyData.depth (PyData.list (l.map natD)) = PyData.depthAll (l.map natD) + 1 := by simp [PyData.depth]
  rw [e2, deep_nats]
  decide
end Ring

namespace Ring
open PySem L2
structure GoodTie (p : Int) (t : Tie) : Prop where
  a0 : 0 ≤ t.1
  a1 : t.1 < p
  b0 : 0 ≤ t.2.1
  b1 : t.2.1 < p
  ne : t.1 ≠ t.2.1
  l0 : 1 ≤ t.2.2
  l1 : t.2.2 ≤ 1000000000000000000000000000000
structure GoodWeb (p : Nat) (ts : List Tie) : Prop where
  p1 : 1 ≤ p
  p2 : p ≤ 10
  len : ts.length ≤ 24
  ties : ∀ t ∈ ts, GoodTie (p : Int) t
def Ties (p : Int) (H : Hp) (D : Addr) (n : Nat) (H2 : Hp) : Prop := Same H H2 ∧ ∃ acc ts, H2 D = some (.lst acc) ∧ Paired (TupAt H2) acc ts ∧ acc.length = n ∧ ∀ t ∈ ts, GoodTie p t
section
variable {p : Int} {H H2 H3 : Hp} {D b : Addr} {n : Nat} {t : Tie}
theorem Ties.start (hD : H D = none) : Ties p H D 0 (upd H D (.lst [])) := ⟨Same.new hD, [], [], upd_same, .nil, rfl, fun t ht => nomatch ht⟩
theorem Ties.push (h : Ties p H D n H2) (hD : H D = none) (s : Same H2 H3) (g : GoodTie p t) (hb : H3 b = some (.tup (tieV t))) :
    ∃ acc, H3 D = some (.lst acc) ∧ acc.length = n ∧ Ties p H D (n + 1) (upd H3 D (.lst (acc ++ [.ref b]))) := by
  obtain ⟨s2, acc, ts, hd, pr, hn, gt⟩ := h
  have hd3 : H3 D = some (.lst acc) := s _ _ hd
  refine ⟨acc, hd3, hn, (s2.trans s).put hD, acc ++ [.ref b], ts ++ [t], upd_same, ?_, by rw [List.length_append, List.length_singleton, hn], fun u hu => ?_⟩
  · exact Paired.snoc (Paired.imp' (fun _ _ z => z.tups (s.tups.trans (Tups.put hd3))) pr) ⟨b, rfl, Tups.put hd3 _ _ hb⟩
  · rcases List.mem_append.mp hu with hu | hu
    · exact gt u hu
    · cases List.mem_singleton.mp hu
      exact g
theorem Ties.fin {q : Nat} (h : Ties (q : Int) H D n H2) : ∃ acc ts, H2 D = some (.lst acc) ∧ ts.length = n ∧ (∀ t ∈ ts, GoodTie (q : Int) t) ∧ ∀ l, H2 l = none → ∀ w, upd H2 l (.tup acc) w = none →
    Same H (upd (upd H2 l (.tup acc)) w (.tup [.int (q : Int), .ref l])) ∧ WebAt (upd (upd H2 l (.tup acc)) w (.tup [.int (q : Int), .ref l])) w q ts := by
  obtain ⟨s2, acc, ts, hd, pr, hn, gt⟩ := h
  refine ⟨acc, ts, hd, by rw [← pr.length, hn], gt, fun l hl w hw => ?_⟩
  have n1 : Same H2 (upd H2 l (.tup acc)) := Same.new hl
  have n2 := n1.trans (Same.new (o := .tup [.int (q : Int), .ref l]) hw)
  refine ⟨s2.trans n2, l, acc, upd_same, ?_, Paired.imp' (fun _ _ z => z.tups n2.tups) pr⟩
  rw [upd_ne (ne_of_none upd_same hw), upd_same]
end
theorem other_ne {p o r : Int} (h : 0 ≤ o) (h1 : o < p) (r0 : 0 ≤ r) (r1 : r < p - 1) : 0 ≤ (o + 1 + r) % p ∧ (o + 1 + r) % p < p ∧ o ≠ (o + 1 + r) % p := by
  have hp : 0 < p := by (first | lia | omega)
  refine ⟨Int.emod_nonneg _ (by (first | lia | omega)), Int.emod_lt_of_pos _ hp, ?_⟩
  by_cases hlt : o + 1 + r < p
  · rw [Int.emod_eq_of_lt (by (first | lia | omega)) hlt]
    (first | lia | omega)
  · have e : (o + 1 + r) % p = o + 1 + r - p := by
      rw [← Int.sub_emod_right, Int.emod_eq_of_lt (by (first | lia | omega)) (by (first | lia | omega))]
    rw [e]
    (first | lia | omega)
theorem small24 {n : Nat} (h : n ≤ 24) : n ≤ sizeLine := Nat.le_of_lt (small1000 (by (first | lia | omega)))
theorem smallL {n : Nat} (h : n ≤ 900) : n < sizeLine := small1000 (by (first | lia | omega))
theorem ints_at {ns : List Int} {k : Nat} (h : k < ns.length) : (ns.map V.int)[k]? = some (.int (ns.getD k 0)) := by
  rw [List.getElem?_map, List.getD_eq_getElem?_getD]
  simp [h]
theorem emod2 (x m : Int) (h : 0 < m) : 0 ≤ x % m ∧ x % m < m := ⟨Int.emod_nonneg _ (by (first | lia | omega)), Int.emod_lt_of_pos _ h⟩
end Ring

namespace RM
variable (N : Net)
variable {N}
variable {S : Nat → Bool}
end RM

namespace RM
variable {N : Net} {S : Nat → Bool}
end RM

namespace Ring
open PySem L2
section
variable {f : Nat → Nat} {H H2 H3 : Hp} {D : Addr} {i : Nat} {acc : List V} {v : V}
end
end Ring

namespace RM
end RM
namespace Ring
open PySem L2
def pieceOf (L : Nat → Nat) (p s : Nat) : List Nat := (List.range p).filter fun x => decide (L x = s)
section
variable {L : Nat → Nat} {p i : Nat} {H H2 H3 : Hp} {D b : Addr}
end
end Ring

namespace RM
variable {N : Net} {S : Nat → Bool}
variable {pt r j : Nat} {l : List Nat}
end RM
namespace Ring
open PySem L2
end Ring

namespace RM
variable {N : Net}
end RM
namespace Ring
open PySem L2
section
variable {p : Nat} {ts : List Tie} {g : GoodWeb p ts}
end
end Ring

namespace Ring
open PySem L2
section
variable {f : Nat → Bool} {l : List Nat} {H H2 H3 : Hp} {D : Addr} {i k : Nat} {acc : List V}
end
section
variable {f : Nat → Int} {l : List Nat} {H H2 H3 : Hp} {D : Addr} {i k : Nat} {acc : List V} {v : V}
end
end Ring

namespace RM
end RM
namespace Ring
open PySem L2
section
variable {p : Nat} {ts : List Tie} (g : GoodWeb p ts)
include g
end
section
variable {p : Nat} {ts : List Tie}
end
end Ring

namespace L2
open PySem PySem.Spec PyProof.Rows
end L2

namespace Ring
open PySem L2
end Ring

namespace RM
variable {N : Net}
section
variable {m s : Nat}
end
end RM

namespace Ring
open PySem L2
theorem eqv_two : ∀ l l' : List Nat, PyData.eqvAll (l.map natD) (l'.map natD) = decide (l = l')
  | [], [] => rfl
  | [], _ :: _ => rfl
  | _ :: _, [] => rfl
  | x :: l, y :: l' => by
    show (((x : Int) == (y : Int)) && PyData.eqvAll (l.map natD) (l'.map natD)) = decide (x :: l = y :: l')
    rw [eqv_two l l', Bool.eq_iff_iff]
    simp
    (first | lia | omega)
theorem eqv_lists (l l' : List Nat) : PyData.eqv (.list (l.map natD)) (.list (l'.map natD)) = decide (l = l') := eqv_two l l'
section
variable {f : List Nat → Bool} {ls : List (List Nat)} {H H2 H3 : Hp} {D : Addr} {i : Nat} {acc : List V} {y : V} {l : List Nat}
end
end Ring

namespace L2
open PySem PySem.Spec PyProof.Rows
section
variable {prog : Program} {w : World} {A : Around} {E : Value → Shared → Prop} {s : Shared}
end
open AutoSeq1 (wpAny_loadPart') in
section
variable {prog : Program} {w : World} {A : Around} {E : Value → Shared → Prop} {s : Shared}
end
section
variable {X : Cx} {elts : List Expr} {n : Nat} {tp : Pos}
end
section
variable {K : PySem.W.Frag} {a : Addr} {xs : List V} {g : TG} {tt : TT} {te : TE} {n : Nat} {fr : St} {D : Addr} {Q : Hp → Prop} {H1 : Hp}
end
end L2

namespace RM
variable {N : Net}
end RM

namespace Ring
end Ring
namespace RM
variable {N : Net}
section
variable {even left v : Nat} {pre ks : List Nat}
end
end RM

namespace Ring
open PySem L2
end Ring

namespace Ring
open PySem L2
end Ring

namespace L2
open PySem PySem.Spec PyProof.Rows

section
variable {κ : Type} [DecidableEq κ]
end


section
variable {P : Program} {w : World} {H : Hp} {h : Heap} {a : Addr}
end

section
variable {X : Cx} {pins : List (Addr × Obj)} {σ : St} {H : Hp} {s : Shared} {a : Addr} {y v : V} {u r : Value} {o : Option V} {A : Around} {E : Value → Shared → Prop}

end

section
variable {X : Cx} {pins : List (Addr × Obj)} {σ : St} {H : Hp} {s : Shared} {a : Addr} {kvs : List (Key × V)} {k : Key} {u : Value} {A : Around} {E : Value → Shared → Prop}
end


section
variable {X : Cx} {o i e value : Expr} {pos pos' tpos : Pos} {td ty tv : TE}
end


section
variable {X : Cx} {pos : Pos}
end

section
variable {X : Cx} {pins : List (Addr × Obj)} {σ : St} {H : Hp} {s : Shared} {a : Addr} {y d : V} {u r : Value} {o : Option V} {A : Around} {E : Value → Shared → Prop}
end

section
variable {X : Cx} {o e f : Expr} {apos cpos : Pos} {td ty tx : TE}
end

section
variable {X : Cx} {pins : List (Addr × Obj)} {σ : St} {H : Hp} {s : Shared} {a : Addr} {kvs : List (Key × V)} {A : Around} {E : Value → Shared → Prop}
end


section
variable {X : Cx} {pins : List (Addr × Obj)} {σ : St} {H : Hp} {s : Shared} {a : Addr} {y : V} {u : Value} {A : Around} {E : Value → Shared → Prop}
end
end L2
namespace L2
open PySem PySem.Spec PyProof.Rows
section
variable {X : Cx}
end
section
variable {κ : Type} [DecidableEq κ]
end
end L2

namespace L2
open PySem PySem.Spec PyProof.Rows
section
variable {prog : Program} {w : World} {A : Around} {E : Value → Shared → Prop} {s : Shared} {T : String} {r d : Addr} {n : Nat} {P : Nat → Value → Prop} {OK : Heap → Prop}
end
section
variable {X : Cx}
end
end L2

namespace Ring
open PySem L2
section
variable {p f n : Nat} {m m' : Held} {hs : List (Nat × Held)} {ds : List Deed} {t : Tie}
end
section
variable {H H' : Hp} {a b : Addr} {p f n : Nat} {m m' : Held} {es : List Ent} {t : Tie}
end
section
variable {n f : Nat} {d q : Addr}
end
section
variable {C p d q L : Addr} {H H' H2 : Hp} {n : Nat} {hs : List (Nat × Held)} {ds : List Deed} {xs ys : List V} {x : V} {r : Nat × Held}
end
section
variable {K : PySem.W.Frag}
end
end Ring

namespace L2
open PySem PySem.Spec PyProof.Rows
section
variable {X : Cx} {pins : List (Addr × Obj)} {σ : St} {H : Hp} {s : Shared}
end
section
variable {X : Cx} {tg : Expr}
end
end L2

namespace RM
variable {N : Net}
end RM

namespace Ring
open PySem L2
section
variable {p : Nat} {ts : List Tie} {g : GoodWeb p ts}
end
section
variable (p : Nat) (ts : List Tie) (g : GoodWeb p ts)
end
section
variable {p : Nat} {ts : List Tie} {g : GoodWeb p ts} {H H' : Hp} {kvs : List (Key × V)} {zs : List Nat}
end
end Ring

namespace L2
open PySem PySem.Spec PyProof.Rows
end L2

namespace Ring
end Ring

namespace Ring
open PySem L2
theorem intsV_len (l : List Int) : (intsV l).length = l.length := by unfold intsV; rw [List.length_map]
end Ring
namespace Ring
open PySem L2
end Ring

namespace Ring
open PySem L2
theorem ints_dat {K : PySem.W.Frag} {H : Hp} : ∀ l : List Int, DatVs K H (intsV l) (l.map PyData.int)
  | [] => .nil
  | _ :: r => .cons (.int _) (ints_dat r)
theorem lay_ints : ∀ l : List Int, PyData.canLayAll0 (l.map PyData.int) = true
  | [] => rfl
  | _ :: r => by
    have ih := lay_ints r
    simp only [List.map_cons, PyData.canLayAll0, ih, Bool.and_true]
    rfl
theorem deep_ints : ∀ l : List Int, PyData.depthAll (l.map PyData.int) = 0
  | [] => rfl
  | _ :: r => by
    have ih := deep_ints r
    show max (PyData.depth (PyData.int _)) (PyData.depthAll (r.map _)) = 0
    rw [ih]
    rfl
end Ring

namespace L2
open PySem PySem.Spec PyProof.Rows
section
variable {X : Cx}
end

section
variable {X : Cx} {elt iter tg : Expr} {ifs : List Expr} {scope : Scope} {xc : Str} {pos : Pos} {own frees : List Str} {js : List Nat} {wi : TI} {g : TG} {tt : TT} {te : TE}
end

def relabelS (scope osc : Scope) : Scope := { kind := scope.kind, names := scope.names.map (fun (n, k) => if (k == NameKind.free && osc.kind == .function && osc.names.lookup n == some .cell) then (n, NameKind.cell) else (n, k)), isGenerator := scope.isGenerator, isCoroutine := scope.isCoroutine, more := scope.more }
end L2

namespace L2
open PySem PySem.Spec PyProof.Rows
theorem relabel_loc {scope : Scope} {env : Env} {x : Str} : ∀ {names : List (Str × NameKind)}, names.lookup x = some .local →
    (names.map fun (n, k) => if (k == NameKind.free && env.scope.kind == .function && env.kindOf n == some .cell) then (n, NameKind.cell) else (n, k)).lookup x = some .local
  | [], h => by cases h
  | (n, j) :: r, h => by
    have ih := @relabel_loc scope env x r
    show List.lookup x ((if (j == NameKind.free && env.scope.kind == .function && env.kindOf n == some .cell) = true then (n, NameKind.cell) else (n, j)) :: _) = _
    cases hx : x == n with
    | true =>
      simp only [List.lookup_cons, hx] at h
      cases h
      rw [if_neg (by simp)]
      simp only [List.lookup_cons, hx]
    | false =>
      simp only [List.lookup_cons, hx] at h
      by_cases hc : (j == NameKind.free && env.scope.kind == .function && env.kindOf n == some .cell) = true
      · rw [if_pos hc]
        simp only [List.lookup_cons, hx]
        exact ih h
      · rw [if_neg hc]
        simp only [List.lookup_cons, hx]
        exact ih h
theorem wpAny_comprehension_x {M : Model} {A : Around} {E : Value → Shared → Prop} {s : Shared} {env : Env} {e : Expr} {scope : Scope} {pos : Pos} {newAcc first : Sem Value} {g : Comprehension} {gs : List Comprehension} {cl : List (Str × Addr)} {Q : Value → Shared → Prop}
    (hcl : clausesOf e = g :: gs) (hs : ∀ x, foldedSetIterable g.iter env x = pure x) (hc : closureFor scope env = pure cl) (hk : scope.kind = .function) (hn : ∀ x ∈ scope.names, x.2 = .local → scope.names.lookup x.1 = some .local)
    (h : wpAny M A first (fun x s₁ => wpAny M A (pyIter x) (fun it s₂ => wpAny M A newAcc (fun acc s₃ => wpAny M A (newFunctionEnv scope env.globals cl [] env.qual none .none (some env)) (fun cenv s₄ =>
      codeAny M A (.compStart e 0 it acc { cenv with scope := relabel scope env }) (fun r s' => ∃ m, s'.heap.Ns cenv.locals m ∧ ∀ h', Heap.SameBut cenv.locals s'.heap h' → match r with
        | .ok _ => Q acc { s' with heap := h' }
        | .error x => wpAny M A (PySem.passOn "comprehension.variables-let-go" x { cenv with scope := relabel scope env }) Q E { s' with heap := h' }) s₄) E s₃) E s₂) E s₁) E s) :
    wpAny M A (comprehension e scope env pos newAcc false first) Q E s := by
  simp only [comprehension, hcl, hs, pure_bind, hc]
  refine wpAny_bind (wpAny_mono h (fun x s₁ h₁ => ?_) fun _ _ z => z)
  refine wpAny_bind (wpAny_standAt ?_)
  refine wpAny_bind (wpAny_holding (wpAny_mono h₁ (fun it s₂ h₂ => ?_) fun _ _ z => z))
  rw [if_neg (by simp)]
  refine wpAny_bind (wpAny_mono h₂ (fun acc s₃ h₃ => ?_) fun _ _ z => z)
  refine wpAny_bind (wpAny_mono h₃ (fun cenv s₄ h₄ => ?_) fun _ _ z => z)
  refine wpAny_holding (wpAny_bind (wpAny_attempt (wpAny_holding (wpAny_run ?_))))
  have loc : ∀ y ∈ (List.filter (fun x => match x with | (n, k) => (k == NameKind.local || k == NameKind.cell) && n != Str.ofString ".0") scope.names).reverse, y.2 = NameKind.local → ({ cenv with scope := relabel scope env } : Env).kindOf y.1 = some NameKind.local := fun y hy hl => by
    have hm := (List.mem_filter.mp (List.mem_reverse.mp hy)).1
    exact relabel_loc (scope := scope) (hn y hm hl)
  refine codeAny_mono (show codeAny M (A.mark none) _ _ s₄ from h₄) fun r s' hr => ?_
  obtain ⟨m, hm, q⟩ := hr
  cases r with
  | ok f => exact wpAny_bind (wpAny_holding (wpAny_comp_letGo (cenv := { cenv with scope := relabel scope env }) hk _ _ m loc hm fun h' m' _ sb => wpAny_pure (q h' sb)))
  | error x => exact wpAny_bind (wpAny_holding (wpAny_comp_letGo (cenv := { cenv with scope := relabel scope env }) hk _ _ m loc hm fun h' m' _ sb => q h' sb))

def xeB (X : Cx) (N : List Str) (scope : Scope) (E : XK) (C : Addr) (s : Shared) (H : Hp) (fp : List Addr) : Value → Shared → Prop := fun e s' =>
  ∃ pins σ Hc sc, Inv (cxComp X N scope (fun _ _ => False) C s H fp) pins σ Hc sc ∧ CX1 X.prog X.w X.stack Hc sc E e s'
section
variable {X : Cx} {E : XK} {pins : List (Addr × Obj)} {σ : St} {H : Hp} {s : Shared} {N : List Str} {scope : Scope} {C : Addr} {fp : List Addr}
theorem inv_xe {xe xe' : Value → Shared → Prop} {Hc : Hp} {sc : Shared} (I : Inv (cxComp X N scope xe C s H fp) pins σ Hc sc) : Inv (cxComp X N scope xe' C s H fp) pins σ Hc sc :=
  ⟨⟨I.ok.mod, I.ok.kind, I.ok.glob, I.ok.blt, I.ok.above, I.ok.inj, I.ok.has, I.ok.cab, I.ok.hd, I.ok.frames, I.ok.stk, I.ok.exf, I.ok.bs, I.ok.bsz, I.ok.noex, I.ok.exfs, I.ok.funs, I.ok.frf⟩, I.os, I.bare, I.base, I.loc, I.cell, I.free, I.freeC, I.pin, I.hok, I.len⟩
theorem passB {P : Program} {w : World} (h1 : X.prog = P := by rfl) (h2 : X.w = w := by rfl) : Passes (CX1 P w) (cxComp X N scope (xeB X N scope E C s H fp) C s H fp) E := by
  subst h1 h2
  intro pins σ Hc sc e s' I q
  exact ⟨pins, σ, Hc, sc, inv_xe I, q⟩
theorem held_out (O : Out X E) (I : Inv X pins σ H s) {B : Heap} {ea : Addr} {cls a0 : Value} {od : Option Addr} {c : Value} (cov : Cov B X.fs X.s₀.heap H s.heap) (hd : Heap.HeldW B X.stack ea cls a0 X.env.locals s.heap) (sc : SecD od c ea s.heap) (hn : H ea = none) (q : CtxE E cls od c H) :
    X.xe (.ref ea) s := by
  refine O.xe _ _ ?_
  obtain ⟨y1, y2, y3, y4⟩ := hd
  rw [O.stk] at y3
  have y5 := y4
  obtain ⟨oe, vs, T, oT, ts, ge, ⟨hc, h0⟩, de, f1, nT, Te, gT, dT, f3⟩ := y5
  rw [leaving, noteFrame]
  simp only [O.fr]
  refine wpAny_bind (wpAny_bind (wpAny_field ge de f1 ?_))
  rw [if_pos (by simp)]
  refine wpAny_bind (wpAny_field gT dT f3 ?_)
  rw [if_pos (by simp)]
  refine wpAny_pure ?_
  refine land2 y1 y2 y3 y4 sc fun h' z1 z2 z3 => ?_
  exact fly_out O I cov (fly2 (s := { s with heap := h' }) z1) z2 z3 hn q
theorem funFrames_to {h h' B B' : Heap} : ∀ {l : List Env}, h.FunFrames B l → (∀ b ∈ frs l, ∀ o, h.get? b = some o → h'.get? b = some o) → (∀ b, B.get? b = none → B'.get? b = none) → h'.FunFrames B' l
  | [], _, _, _ => trivial
  | env :: rest, x, k, n => by
    obtain ⟨x1, ⟨L, o, x2, x3, x4, x5⟩, x6⟩ := x
    have hm : L ∈ frs (env :: rest) := List.mem_filterMap.mpr ⟨env, List.mem_cons_self, x2⟩
    refine ⟨x1, ⟨L, o, x2, n L x3, k L hm o x4, x5⟩, funFrames_to x6 (fun b hb => k b ?_) n⟩
    obtain ⟨e2, he, hb⟩ := List.mem_filterMap.mp hb
    exact List.mem_filterMap.mpr ⟨e2, List.mem_cons_of_mem _ he, hb⟩
theorem hide_one (B : Heap) (C : Addr) : (PySem.W.hideAll B [C]).get? C = none := Heap.hide_self ..
theorem block_throw {H2 : Hp} {s2 s8 : Shared} {e : Value} {cl : List (Str × Addr)} {E' : Value → Shared → Prop} {α : Type} {Qa : α → Shared → Prop} (O : Out X E) (I2 : Inv X pins σ H2 s2) (f2 : ∀ b ∈ fp, FpOk X pins H2 b) (hC : s2.heap.objs.size ≤ C) (h : xeB X N scope E C s2 H2 fp e s8) :
    wpAny (model X.prog X.w) X.A (noteFrame e (compEnvC scope cl C X.env)) (fun _ s' => ∃ m, s'.heap.Ns C m ∧ ∀ h', Heap.SameBut C s'.heap h' →
      wpAny (model X.prog X.w) X.A (PySem.passOn "comprehension.variables-let-go" e (compEnvC scope cl C X.env)) Qa X.xe { s' with heap := h' }) E' s8 := by
  obtain ⟨p, σ', Hc, sc, Ic, ea, cls, a0, od, c, H', B, rfl, os, bare, un, hok, hn, cov, fl, sec, qE⟩ := h
  have I1 : Inv (cxComp X N scope (fun _ _ => False) C s2 H2 fp) p σ' H' s8 := Ic.threw os bare un hok
  show wpAny _ _ (noteFrame (.ref ea) X.env) _ _ _
  have hfr : X.A.frames = some (X.env :: X.outer) := by rw [I2.ok.frames, O.stk]
  have fl' := fl
  rw [O.stk] at fl'
  refine note2 hfr O.fr fl' sec fun h1 x1 x2 up => ?_
  obtain ⟨m, hns, _⟩ := I1.loc
  obtain ⟨oC, es, ep, hoC, hdC, rest⟩ := id hns
  have hoC : s8.heap.get? C = some oC := hoC
  have hCsc : ∃ o, sc.heap.get? C = some o := by
    obtain ⟨_, ⟨o, _, _, z, _⟩, _⟩ := Ic.loc
    exact ⟨o, z⟩
  have frlt : ∀ b ∈ frs X.stack, b < s2.heap.objs.size := fun b hb => by
    obtain ⟨_, o, ho, _⟩ := I2.stack.mem hb
    exact Heap.lt_size ho
  have nC : C ∉ frs X.stack := fun z => absurd (frlt C z) (Nat.not_lt.mpr hC)
  have bC : B.get? C = some oC := cov C oC hoC (.inr hCsc) nC
  refine ⟨m, ⟨oC, es, ep, x1.1 C oC bC, hdC, rest⟩, fun h2 sb => ?_⟩
  have sb : Heap.SameBut C h1 h2 := sb
  obtain ⟨y1, y2, y3, oe, vs, T, oT, ts, ge, ⟨hc, h0⟩, de, f1, nT, Te, gT, dT, f3⟩ := x1
  have eC : ea ≠ C := fun z => by rw [z, bC] at y2; cases y2
  have tC : T ≠ C := fun z => by rw [z, bC] at nT; cases nT
  have ge2 : h2.get? ea = some oe := (sb.2 ea eC).trans ge
  have gT2 : h2.get? T = some oT := (sb.2 T tC).trans gT
  have z3 : 3 < ts.size := (Array.getElem?_eq_some_iff.mp f3).1
  rw [PySem.passOn]
  refine wpAny_bind (wpAny_field ge2 de f1 ?_)
  rw [if_neg (by simp)]
  refine wpAny_bind ?_
  show wpAny _ _ (setFlight (.ref ea) X.env.frame) _ _ _
  rw [O.fr, setFlight]
  refine wpAny_bind (wpAny_field ge2 de f1 ?_)
  rw [if_pos (by simp)]
  refine wpAny_setField gT2 dT z3 (wpAny_throw ?_)
  dsimp only
  have dT3 := Obj.data_mapFields dT (·.setIfInBounds 3 ((some X.env.locals : Option Addr).elim Value.none fun f => rawInt f))
  have gT3 := Heap.get?_update_self (Obj.mapFields (·.setIfInBounds 3 ((some X.env.locals : Option Addr).elim Value.none fun f => rawInt f))) gT2 (Obj.isFreed_of_fields dT3)
  have k3 : ∀ b, b ≠ C → b ≠ T → (h2.update T (Obj.mapFields (·.setIfInBounds 3 ((some X.env.locals : Option Addr).elim Value.none fun f => rawInt f)))).get? b = h1.get? b := fun b n1 n2 => (Heap.get?_update_other h2 _ (Ne.symm n2)).trans (sb.2 b n1)
  generalize h2.update T (Obj.mapFields (·.setIfInBounds 3 ((some X.env.locals : Option Addr).elim Value.none fun f => rawInt f))) = h3 at gT3 k3
  have neT : ∀ b o, B.get? b = some o → b ≠ T := fun b o e z => by rw [z, nT] at e; cases e
  have inB : ∀ b o, B.get? b = some o → b ≠ C → h3.get? b = some o := fun b o e n => (k3 b n (neT b o e)).trans (y1 b o e)
  have frT : ∀ b ∈ frs X.stack, b ≠ T := fun b hb z => by
    rw [O.stk] at hb
    obtain ⟨_, o, ho, nf⟩ := y3.mem hb
    rw [z, gT] at ho
    cases ho
    exact nf ts dT
  have frC : ∀ b ∈ frs X.stack, b ≠ C := fun b hb z => nC (z ▸ hb)
  have hB' : ∀ b o, (PySem.W.hideAll B [C]).get? b = some o → B.get? b = some o := fun b o e => PySem.W.of_hideAll _ e
  have hBn : ∀ b, B.get? b = none → (PySem.W.hideAll B [C]).get? b = none := fun b e => by
    cases z : (PySem.W.hideAll B [C]).get? b with
    | none => rfl
    | some o => rw [hB' b o z] at e; cases e
  have u8 : Un (frs X.stack) fp H2 H' s2.heap s8.heap := I1.base
  have scT : ∀ b o, s2.heap.get? b = some o → b ∉ fp → ∃ o', sc.heap.get? b = some o' := fun b o e n => Ic.base.there b o e n
  have oldC : ∀ b o, s2.heap.get? b = some o → b ≠ C := fun b o e z => absurd (Heap.lt_size e) (by rw [z]; exact Nat.not_lt.mpr hC)
  have nofs : ∀ b ∈ frs X.stack, H' b = none := fun b hb => I1.ok.stk.elim (fun _ => I1.stkFree b hb) fun _ => I1.stkFree b hb
  have un3 : Un (frs X.stack) fp H2 H' s2.heap h3 := by
    refine ⟨fun b o e n hb hx => inB b o (cov b o (u8.keep b o e n hb hx) (.inr (scT b o e hx)) hb) (oldC b o e), fun b o e n hb hx => ?_, u8.free, fun b o e hx => ?_, u8.tups, u8.frzs, u8.tbls⟩
    · obtain ⟨sl, q⟩ := u8.slot b o e n hb hx
      obtain ⟨sl', q'⟩ := up b _ q (I1.frData b hb _ q)
      exact ⟨sl', (k3 b (frC b hb) (frT b hb)).trans q'⟩
    · obtain ⟨o', q⟩ := u8.there b o e hx
      by_cases hb : b ∈ frs X.stack
      · obtain ⟨sl', q'⟩ := up b _ q (I1.frData b hb _ q)
        exact ⟨_, (k3 b (frC b hb) (frT b hb)).trans q'⟩
      · exact ⟨o', inB b o' (cov b o' q (.inr (scT b o e hx)) hb) (oldC b o e)⟩
  have trk : ∀ b u, H' b = some u → b ∉ frs X.stack ∧ b ≠ C := fun b u e => ⟨fun z => (by rw [nofs b z] at e; cases e), fun z => (by rw [z, show H' C = none from I1.free] at e; cases e)⟩
  have hok3 : HOk X.prog X.w H' h3 := fun b u e => by
    refine (hok b u e).stay (fun c v hc q => ?_) (fun _ q => q) fun _ _ q => q
    have hct : ∃ z, H' c = some z := by
      rcases hc with hc | hc
      · rw [hc]
        exact ⟨u, e⟩
      · exact ⟨_, hc⟩
    obtain ⟨z, hz⟩ := hct
    obtain ⟨t1, t2⟩ := trk c z hz
    exact inB c v (cov c v q (.inl (by rw [hz]; simp)) t1) t2
  have IX : Inv X pins σ H' { s8 with heap := h3 } := I2.call' (ch := fp) (s' := { s8 with heap := h3 }) I1.os un3 hok3 bare fun b hb => by
    obtain ⟨_, g1, _, g3, g4, g5⟩ := f2 b hb
    exact ⟨g3, g1, g4, g5⟩
  refine held_out (B := PySem.W.hideAll B [C]) (a0 := a0) O IX (fun b o e3 c n => ?_) ⟨fun b o e => inB b o (hB' b o e) fun z => ?_, hBn ea y2, ?_, ?_⟩ ?_ hn qE
  · have e3 : h3.get? b = some o := e3
    have nbC : b ≠ C := fun z => by
      rcases c with c | ⟨o', c⟩
      · exact c (by rw [z]; exact I1.free)
      · exact absurd (Nat.lt_of_lt_of_le (Heap.lt_size c) I2.sz) (by rw [z]; exact Nat.not_lt.mpr hC)
    have nbf : b ∉ frs X.stack := fun z => by
      rcases List.mem_cons.mp (I2.stkSub b z) with q | q
      · subst q
        rcases c with c | ⟨o', c⟩
        · exact c IX.free
        · exact absurd (Nat.lt_of_lt_of_le (Heap.lt_size c) I2.ok.above) (Nat.lt_irrefl _)
      · exact n q
    have nfp : ∀ o', X.s₀.heap.get? b = some o' → b ∉ fp := fun o' c z => by
      obtain ⟨_, _, _, g3, _, _⟩ := f2 b z
      rcases g3 with g | g
      · rw [O.ex] at g
        cases g
      · exact absurd (Heap.lt_size c) (Nat.not_lt.mpr g)
    have in2 : ∀ o', X.s₀.heap.get? b = some o' → ∃ o2, s2.heap.get? b = some o2 := fun o' c => I2.base.there b o' c (by rw [O.ex]; simp)
    have ht : ∃ o1, s8.heap.get? b = some o1 := by
      rcases c with c | ⟨o', c⟩
      · cases hz : H' b with
        | none => exact absurd hz c
        | some z => exact (hok b z hz).thing
      · obtain ⟨o2, q2⟩ := in2 o' c
        exact u8.there b o2 q2 (nfp o' c)
    obtain ⟨o1, q1⟩ := ht
    have q2 := cov b o1 q1 (c.imp id fun ⟨o', c⟩ => let ⟨o2, q2⟩ := in2 o' c; scT b o2 q2 (nfp o' c)) nbf
    have q3 := inB b o1 q2 nbC
    rw [e3] at q3
    rw [Option.some.inj q3]
    exact PySem.W.hideAll_get _ q2 (by simpa using nbC)
  · rw [z, hide_one] at e
    cases e
  · rw [← O.stk] at y3
    exact funFrames_to y3 (fun b hb o e => (k3 b (frC b hb) (frT b hb)).trans e) hBn
  · exact ⟨oe, vs, T, _, _, (k3 ea eC (Ne.symm Te)).trans ge, ⟨hc, h0⟩, de, f1, hBn T nT, Te, gT3, dT3, by simp [z3]⟩
  · obtain ⟨o2, v2, g2, d2, kk⟩ := x2
    exact ⟨o2, v2, (k3 ea eC (Ne.symm Te)).trans g2, d2, kk⟩
end
section
variable {X : Cx} {EE : XK} {elt iter tg : Expr} {ifs : List Expr} {scope : Scope} {pos : Pos} {own frees : List Str} {js : List Nat} {wi : TI} {g : TG} {tt : TT} {te : TE}
theorem comp_blockE {pins : List (Addr × Obj)} {σ : St} {H2 : Hp} {s2 : Shared} {it : Addr} {fp : List Addr} {tn : Nat → Heap → Prop} {J : It} {E : Value → Shared → Prop} {RR : Value → Env → Result → Shared → Prop} {QQ : Addr → Hp → Prop}
    (O : Out X EE) (T : CompText X scope own frees js)
    (hg : ∀ C s H fp, PG (cxComp X (own ++ frees) scope (fun _ _ => False) C s H fp) tg g)
    (ht : ∀ C s H fp, PTs (cxComp X (own ++ frees) scope (fun _ _ => False) C s H fp) ifs tt)
    (he : ∀ C s H fp, PE (cxComp X (own ++ frees) scope (xeB X (own ++ frees) scope EE C s H fp) C s H fp) elt te)
    (I2 : Inv X pins σ H2 s2) (TT' : TurnX X.A X.calm X.prog X.w X.K tg J fp it tn) (st2 : tn 0 s2.heap) (f2 : ∀ b ∈ fp, FpOk X pins H2 b)
    (hl : ∀ D, H2 D = none → CompLoop J g tt te own.length (takeSt σ js) D (QQ D) (upd H2 D (.lst [])))
    (hRR : ∀ D C σ' H' s', s2.heap.objs.size ≤ C → Inv (cxComp X (own ++ frees) scope (fun _ _ => False) C s2 H2 fp) [] σ' H' s' → QQ D H' → RR (.ref D) (newEnv scope C X.env.globals (closOf X.env.cells scope.names []) X.env.qual none .none (some X.env) builtinsNs) (.ok .next) s')
    (hER : ∀ D C e s8, s2.heap.objs.size ≤ C → xeB X (own ++ frees) scope EE C s2 H2 fp e s8 → notedBy (model X.prog X.w) X.A (compEnvC scope (closOf X.env.cells scope.names []) C X.env) (fun e s' => RR D (newEnv scope C X.env.globals (closOf X.env.cells scope.names []) X.env.qual none .none (some X.env) builtinsNs) (.error e) s') e s8) :
    wpAny (model X.prog X.w) X.A (newList []) (fun acc s₃ => wpAny (model X.prog X.w) X.A (newFunctionEnv scope X.env.globals (closOf X.env.cells scope.names []) [] X.env.qual none .none (some X.env)) (fun cenv s₄ =>
      codeAny (model X.prog X.w) X.A (.compStart (.ListComp elt [⟨tg, iter, ifs, 0⟩] scope pos) 0 (.ref it) acc { cenv with scope := relabel scope X.env }) (RR acc cenv) s₄) E s₃) E s2 := by
  refine wpAny_newObj_type (wpAny_newFunctionEnv T.nocell (by intro y hy; simp at hy) (fun h₁ hns₁ hsb₁ => ?_) T.kind)
  dsimp only at hns₁ hsb₁ ⊢
  generalize hH2 : s2.heap.push { cls := .type "list", dict := none, data := .seq ([] : List Value).toArray } = G2 at hns₁ hsb₁ ⊢
  have hC : G2.objs.size = s2.heap.objs.size + 1 := by rw [← hH2, Heap.size_push]
  have hDC : s2.heap.objs.size ≠ G2.objs.size := by rw [hC]; exact Nat.ne_of_lt (Nat.lt_succ_self _)
  have hCle : s2.heap.objs.size ≤ G2.objs.size := by rw [hC]; exact Nat.le_succ _
  have below : ∀ b, b < s2.heap.objs.size → b ≠ G2.objs.size := fun b hb => by rw [hC]; exact Nat.ne_of_lt (Nat.lt_succ_of_lt hb)
  have old : ∀ b o, s2.heap.get? b = some o → h₁.get? b = some o := fun b o e => hsb₁.extBut b o (below b (Heap.lt_size e)) (Heap.get?_push_of_some _ (hH2 ▸ Heap.get?_push_of_some _ e))
  have hacc : h₁.get? s2.heap.objs.size = some { cls := .type "list", data := .seq ([] : List Value).toArray 0 } := hsb₁.extBut _ _ hDC (Heap.get?_push_of_some _ (hH2 ▸ Heap.get?_push_size _ rfl))
  have fpo : ∀ b ∈ fp, ∃ o, s2.heap.get? b = some o := fun b hb => let ⟨o, e, _⟩ := TT'.obj _ _ st2 b hb; ⟨o, e⟩
  have st1 : tn 0 h₁ := TT'.keep _ _ _ st2 fun b _ o e => old b o e
  obtain ⟨W, ⟨m0, w0⟩, turn⟩ := hl s2.heap.objs.size (I2.hok.fresh (Nat.le_refl _))
  have hfx : ∀ {H' : Hp}, (∀ b ∈ fp, H' b = none) → ∀ b ∈ fp, FpOk (cxComp X (own ++ frees) scope (fun _ _ => False) G2.objs.size s2 H2 fp) [] H' b := fun {H'} hn b hb => by
    obtain ⟨_, f1, f2', _, f4, _⟩ := f2 b hb
    obtain ⟨o, ho⟩ := fpo b hb
    refine ⟨hn b hb, below b (Heap.lt_size ho), fun z => ?_, .inl hb, fun x c e => ?_, fun p hp => absurd (show p ∈ ([] : List (Addr × Obj)) from hp) (by simp)⟩
    · rcases List.mem_cons.mp (I2.stkSub b z) with q | q
      · exact f1 q
      · exact f2' q
    · rcases closOf_look (show (closOf X.env.cells scope.names []).lookup x = some c from e) with q | ⟨q1, q2⟩
      · cases q
      · obtain ⟨c', hc'⟩ := closure_ok I2 T x .free q1 rfl
        rw [hc'] at q2
        have q2 : c' = c := q2
        rw [← q2]
        exact f4 x c' hc'
  have fp0 : ∀ b ∈ fp, upd H2 s2.heap.objs.size (.lst []) b = none := fun b hb => by
    obtain ⟨o, ho⟩ := fpo b hb
    rw [upd_ne (Nat.ne_of_lt (Heap.lt_size ho))]
    exact (f2 b hb).1
  have back : ∀ {σ6 : St} {p6 : List (Addr × Obj)} {H6 : Hp} {s6 : Shared}, Inv (cxComp X (own ++ frees) scope (fun _ _ => False) G2.objs.size s2 H2 fp) p6 σ6 H6 s6 → σ6.drop own.length = takeSt σ js →
      Inv (cxComp X (own ++ frees) scope (fun _ _ => False) G2.objs.size s2 H2 fp) [] (List.replicate own.length none ++ takeSt σ js) H6 s6 := fun {σ6 p6 H6 s6} I6 hd => by
    have hl6 : σ6.length = (own ++ frees).length := I6.len
    have J6 := I6.pins_of (pins' := []) fun p hp => absurd hp (by simp)
    refine J6.weak ?_ fun i v e => ?_
    · have q := congrArg List.length hd
      rw [List.length_drop] at q
      rw [List.length_append] at hl6
      rw [List.length_append, List.length_replicate]
      (first | lia | omega)
    · by_cases hi : i < own.length
      · rw [List.getElem?_append_left (by simpa using hi), List.getElem?_replicate, if_pos hi] at e
        cases e
      · rw [List.getElem?_append_right (by simpa using hi), List.length_replicate, ← hd, List.getElem?_drop] at e
        rw [show own.length + (i - own.length) = i by (first | lia | omega)] at e
        exact e
  have loop : ∀ s₃ : Shared, s₃ = { s2 with heap := h₁, toks := s2.toks + ([] : List (Str × Value)).length } →
      codeAny (model X.prog X.w) X.A (.compLoop (.ListComp elt [⟨tg, iter, ifs, 0⟩] scope pos) 0 (.ref it) (.ref s2.heap.objs.size) (compEnvC scope (closOf X.env.cells scope.names []) G2.objs.size X.env))
        (RR (.ref s2.heap.objs.size) (newEnv scope G2.objs.size X.env.globals (closOf X.env.cells scope.names []) X.env.qual none .none (some X.env) builtinsNs)) s₃ := by
    rintro s₃ rfl
    refine compLoop_any (fun n s' => ∃ i acc H', Inv (cxComp X (own ++ frees) scope (fun _ _ => False) G2.objs.size s2 H2 fp) [] (List.replicate own.length none ++ takeSt σ js) H' s' ∧ tn i s'.heap ∧ (∀ b ∈ fp, H' b = none) ∧ W i n acc H') ?_ m0
      ⟨0, [], upd H2 s2.heap.objs.size (.lst []), inv_comp I2 T f2 fpo (Nat.le_refl _) hCle hDC old hacc hns₁, st1, fp0, w0⟩
    rintro n s3 ⟨i, acc, H3, I3, st3, fr3, w3⟩
    obtain ⟨hD3, hcase⟩ := turn i n acc H3 w3
    rcases hcase with ⟨stop, qn⟩ | ⟨go, hz, NN, hNN, step⟩
    · refine wpAny_mono (TT'.done (cxComp X (own ++ frees) scope (fun _ _ => False) G2.objs.size s2 H2 fp) rfl rfl rfl rfl rfl i [] s3 _ H3 (fun _ _ => False) I3 (hfx fr3) st3 stop) (fun r s4 ⟨hr, I4⟩ => ?_) fun _ _ z => z.elim
      subst hr
      exact hRR _ _ _ H3 s4 hCle I4 qn
    · refine wpAny_mono (TT'.item (cxComp X (own ++ frees) scope (fun _ _ => False) G2.objs.size s2 H2 fp) rfl rfl rfl rfl rfl i [] s3 _ H3 (fun _ _ => False) I3 (hfx fr3) st3 go) (fun r s4 ⟨u, hr, h4⟩ => ?_) fun _ _ z => z.elim
      subst hr
      refine wpAny_mono h4 (fun _ s5 ⟨x, H5, I5, r5, y5, st5, fr5⟩ => ?_) fun _ _ z => z.elim
      have I5' := I5.pinned (hfx fr5) (TT'.obj _ _ st5)
      refine wpAny_mono (hg _ _ _ _ _ s5 _ H5 x u _ I5' r5 (step x H5 y5)) (fun _ s6 ⟨σ6, H6, I6, hd6, q6⟩ => ?_) fun _ _ z => z.elim
      refine wpAny_mono (ht _ _ _ _ _ s6 σ6 H6 _ I6 q6) (fun ok s7 ⟨H7, I7, q7⟩ => ?_) fun _ _ z => z.elim
      have again : ∀ {H8 : Hp} {s8 : Shared}, Inv (cxComp X (own ++ frees) scope (fun _ _ => False) G2.objs.size s2 H2 fp) ([] ++ pinsAt fp s5.heap) σ6 H8 s8 → tn (i + 1) s8.heap ∧ ∀ b ∈ fp, H8 b = none := fun {H8 s8} I8 => by
        refine ⟨TT'.keep _ _ _ st5 fun b hb o e => (I8.pin (b, o) (List.mem_append_right _ (List.mem_append_right _ (mem_pinsAt hb e)))).1, fun b hb => ?_⟩
        obtain ⟨o, e, d⟩ := TT'.obj _ _ st5 b hb
        exact (I8.pin (b, o) (List.mem_append_right _ (List.mem_append_right _ (mem_pinsAt hb e)))).2.1
      cases ok with
      | false =>
        rw [if_neg Bool.false_ne_true]
        obtain ⟨m', hm, w7⟩ := hNN _ _ q7
        obtain ⟨t7, n7⟩ := again I7
        exact ⟨m', hm, i + 1, acc, H7, back I7 hd6, t7, n7, w7⟩
      | true =>
        rw [if_pos rfl]
        refine wpAny_mono (he _ _ _ _ _ s7 σ6 H7 _ (inv_xe I7) q7) (fun xv s8 ⟨v, H8, I8, r8, hD8, q8⟩ => ?_) fun e s8 z => hER _ _ e s8 hCle z
        replace I8 := inv_xe (xe' := fun _ _ => False) I8
        obtain ⟨m', hm, w8⟩ := hNN _ _ q8
        refine wpAny_mono (mt_append (X := cxComp X (own ++ frees) scope (fun _ _ => False) G2.objs.size s2 H2 fp) _ s8 σ6 H8 (.ref s2.heap.objs.size) [v] (.ref s2.heap.objs.size) [xv] (fun y H9 => y = .non ∧ H9 = upd H8 s2.heap.objs.size (.lst (acc ++ [v]))) I8 rfl (.cons r8 .nil) ⟨_, acc, v, rfl, rfl, hD8, hz, rfl, rfl⟩)
          (fun _ s9 ⟨y, H9, I9, _, _, e9⟩ => ?_) fun _ _ z => z.elim
        subst e9
        obtain ⟨t9, n9⟩ := again I9
        exact ⟨m', hm, i + 1, acc ++ [v], _, back I9 hd6, t9, n9, w8⟩
  exact codeAny_compStart_list (loop _ rfl) (TT'.self _ 0 _ _ _ st1 (loop _ rfl))

theorem pe_compE (O : Out X EE) (T : CompText X scope own frees js) (hc : X.calm = true) (hi : PI X tg iter wi)
    (hg : ∀ C s H fp, PG (cxComp X (own ++ frees) scope (fun _ _ => False) C s H fp) tg g)
    (ht : ∀ C s H fp, PTs (cxComp X (own ++ frees) scope (fun _ _ => False) C s H fp) ifs tt)
    (he : ∀ C s H fp, PE (cxComp X (own ++ frees) scope (xeB X (own ++ frees) scope EE C s H fp) C s H fp) elt te)
    (hs : ∀ x, foldedSetIterable iter X.env x = pure x := by intro _; rfl) :
    PE X (.ListComp elt [⟨tg, iter, ifs, 0⟩] scope pos) (tComp wi g tt te own.length js) := by
  intro pins s σ H Q I h
  rw [eval_ListComp]
  refine wpAny_comprehension_x rfl hs (closure_is (closure_ok I T)) T.kind T.names ?_
  refine wpAny_mono (hi pins s σ H _ I h) (fun v s1 h1 => wpAny_mono h1 (fun itv s2 h2 => ?_) fun _ _ z => z) fun _ _ z => z
  obtain ⟨it, fp, tn, J, H2, e, I2, TT', st2, f2, hl⟩ := h2
  subst e
  refine comp_blockE (QQ := fun D H' => Q (.ref D) H') O T hg ht he I2 (TT'.x hc) st2 f2 hl (fun D C σ' H' s' hC J' q => ?_) fun D C e s8 hC z => ?_
  · obtain ⟨m, hn, _⟩ := J'.loc
    exact ⟨m, hn, fun h' sb => ⟨.ref D, H', inv_comp_back I2 f2 hC J' sb, rfl, q⟩⟩
  · exact block_throw O I2 f2 hC z
end
end L2

namespace L2
open PySem PySem.Spec PyProof.Rows
section
variable {X : Cx}
end
end L2

namespace Ring
open PySem L2
def listT (t : Tie) : List Int := [t.1, t.2.1, t.2.2]
def GoodT (p : Int) (ns : List Int) : Prop := ∃ t, ns = listT t ∧ GoodTie p t
def GoodW (p : Int) (nss : List (List Int)) : Prop := 1 ≤ p ∧ p ≤ 10 ∧ nss.length ≤ 24 ∧ ∀ ns ∈ nss, GoodT p ns
def TieS (H : Hp) (x : V) (ns : List Int) : Prop := ∃ b, x = .ref b ∧ (H b = some (.lst (intsV ns)) ∨ H b = some (.tup (intsV ns)))
def TupI (H : Hp) (x : V) (ns : List Int) : Prop := ∃ b, x = .ref b ∧ H b = some (.tup (intsV ns))
theorem TupI.tie {H : Hp} {x : V} {ns : List Int} (h : TupI H x ns) : TieS H x ns := let ⟨b, e, z⟩ := h; ⟨b, e, .inr z⟩
theorem TupI.tups {H H' : Hp} (s : Tups H H') {x : V} {ns : List Int} (h : TupI H x ns) : TupI H' x ns := let ⟨b, e, z⟩ := h; ⟨b, e, s _ _ z⟩
theorem TupI.same {H H' : Hp} (s : Same H H') {x : V} {ns : List Int} (h : TupI H x ns) : TupI H' x ns := h.tups s.tups
theorem TieS.same {H H' : Hp} (s : Same H H') {x : V} {ns : List Int} (h : TieS H x ns) : TieS H' x ns := let ⟨b, e, z⟩ := h; ⟨b, e, z.imp (s _ _) (s _ _)⟩
theorem good_of {p : Int} {x y z : Int} (h : GoodT p [x, y, z]) : GoodTie p (x, y, z) := by
  obtain ⟨⟨a, b, c⟩, e, g⟩ := h
  have e1 : x = a := (List.cons.inj e).1
  have e2 : y = b := (List.cons.inj (List.cons.inj e).2).1
  have e3 : z = c := (List.cons.inj (List.cons.inj (List.cons.inj e).2).2).1
  rw [e1, e2, e3]
  exact g
theorem good_len {p : Int} {ns : List Int} (h : GoodT p ns) : ns.length = 3 := by
  obtain ⟨t, rfl, _⟩ := h
  rfl
theorem paired_list {H : Hp} : ∀ {xs : List V} {ts : List Tie}, Paired (TupAt H) xs ts → Paired (TupI H) xs (ts.map listT)
  | _, _, .nil => .nil
  | _, _, .cons h r => .cons h (paired_list r)
end Ring

namespace L2
open PySem PySem.Spec PySem.Calls PyProof.Rows PySem.W PySem.Builtin PySem.Builtin.ObjectAttr

abbrev BMV : List Value := [.type "ValueError", .type "Exception", .type "BaseException", .type "object"]
structure XInit (K : Frag) (C R f : Addr) (name : Str) : Prop where
  obj : ∃ nm q N bs hd sn sub ab col dd k0 k1 k2 k3 k5, K.lookup C = some (excClassObj nm q C N bs (.ref R :: BMV) hd sn sub ab col dd k0 k1 k2 k3 k5 "ValueError.__new__")
  init : findIn K (.ref C) "__init__" = some (some (.ref f))
  fn : isFn K (.ref f) = true
  kp : keepIn K (.ref C) = true
  sa : findIn K (.ref C) "__setattr__" = some (some (.builtin "object.__setattr__"))
  tk : takerIn K C name = some none
  hd : hasDictIn K C = true
  no : findIn K (.ref C) name = some none
  rd : readsIn K R (.type "type") = true
  ri : findCls K (.ref R) (.type "type") "__init__" = some (.val (.builtin "ValueError.__init__"))
  rg : specialIn K (.ref R) "__getattribute__" = some (some (.builtin "type.__getattribute__"))
def ExcN (ea : Addr) (cls : Value) (od : Option Addr) : HO := .ext fun h => ∃ t sl, h.get? ea = some { cls := cls, dict := od, data := .fields #[.ref t, .none, .none, .none, .bool false, .none], slots := sl }
theorem excN_ok {P : Program} {w : World} {H : Hp} {h : Heap} {ea : Addr} {cls : Value} {od : Option Addr} (q : ∃ t sl, h.get? ea = some { cls := cls, dict := od, data := .fields #[.ref t, .none, .none, .none, .bool false, .none], slots := sl }) : ObjOk P w H h ea (ExcN ea cls od) :=
  ⟨q, let ⟨_, _, e⟩ := q; ⟨_, e⟩, fun h1 h2 ⟨t, sl, e⟩ k => ⟨t, sl, k _ e⟩⟩
def del (H : Hp) (a : Addr) : Hp := fun b => if b = a then none else H b
theorem del_same {H : Hp} {a : Addr} : del H a a = none := by unfold del; rw [if_pos rfl]
theorem del_ne {H : Hp} {a b : Addr} (h : b ≠ a) : del H a b = H b := by unfold del; rw [if_neg h]
theorem upd_id {H : Hp} {a : Addr} {o : HO} (h : H a = some o) : upd H a o = H := by
  funext b
  by_cases e : b = a
  · rw [e, upd_same, h]
  · rw [upd_ne e]
theorem tail_own {y : Str} {R : Addr} {mg : Str → Option Value} {h : Heap} (O : OwnCls y R BMV "ValueError.__new__" mg h) : OwnTail h BMV (.ref R :: BMV) := by
  obtain ⟨bm, N, nm, q, bs, hdct, sn, sub, ab, col, dd, k0, k1, k2, k3, k5, mN, hC, hN, hni, _⟩ := O.obj
  exact .own hC hN hni .base
section
variable {prog : Program} {w : World} {A : Around} {E : Value → Shared → Prop} {K : Frag} {C R f : Addr} {name : Str}
section
variable {hp : Heap} {gn : Array GenState} {dr : Drawn} {tk : Nat} {os : OsState}
theorem exc_type {us : List Value} {Q : Fin → Shared → Prop} (X : K.In hp) (XI : XInit K C R f name) (T : OwnTail hp BMV (.ref R :: BMV)) (hl : us.length ≤ sizeLine)
    (go : ∀ h' e, Heap.MadeExcOf hp h' e (.ref C) us → wpAny (model prog w) A (call (.ref f) (.ref e :: us)) (fun r s' => r = .none ∧ Q (.done (.ret (.ref e))) s') E ⟨h', gn, dr, tk, os⟩) :
    wpAny (model prog w) A (Builtin.«type.__call__» ⟨.ref C :: us, []⟩) Q E ⟨hp, gn, dr, tk, os⟩ := by
  have F := PySem.F.excBase_ValueError
  obtain ⟨nm, q, N, bs, hd, sn, sub, ab, col, dd, k0, k1, k2, k3, k5, lk⟩ := XI.obj
  have hC := X _ _ lk
  repeat (first | with_reducible refine wpAny_madeBy_exc hC ?_ | with_reducible refine wpAny_loadPart_at hC ?_ | wp_step)
  refine codeAny_call_builtin_code (Code.quiet_builtin _ F.quiet) (wpAny_check_new_subT F T hC (codeAny_exc_new_subT F T hC ?_ hl))
  show wpAny _ _ _ _ _ ⟨_, _, _, _, _⟩
  generalize hp2 : (hp.push { cls := .type "tuple", data := .seq us.toArray }).push { cls := .ref C, data := .fields #[.ref hp.objs.size, .none, .none, .none, .bool false, .none] } = h2
  have kk : ∀ b o, hp.get? b = some o → h2.get? b = some o := fun b o e => by rw [← hp2]; exact Heap.get?_push_of_some _ (Heap.get?_push_of_some _ e)
  have X2 : K.In h2 := X.keeps kk
  have hC2 := kk _ _ hC
  have he : h2.get? (hp.objs.size + 1) = some { cls := .ref C, data := .fields #[.ref hp.objs.size, .none, .none, .none, .bool false, .none] } := by rw [← hp2]; heap_get
  have hcC : (Value.ref C :: Value.ref R :: BMV).contains (.ref C) = true := by simp
  unfold isInstance
  repeat (first | with_reducible refine wpAny_loadPart_at he ?_ | (with_reducible refine wpAny_isSubtype_exc hC2 ?_; rw [hcC]) | wp_step)
  show wpAny _ _ (typeLookup (.ref C) _) _ _ ⟨_, _, _, _, _⟩
  refine Looks.here (s := ⟨h2, gn, dr, tk, os⟩) (looks_findIn X2 XI.init) ?_
  refine wpAny_holding (wpAny_bind (Looks.here (s := ⟨h2, gn, dr, tk, os⟩) (bind_fn X2 (.ref (hp.objs.size + 1)) (beq_iff_eq.mp XI.fn)) ?_))
  refine wpAny_bind (wpAny_mono (go h2 (hp.objs.size + 1) ⟨kk, Heap.get?_none_of_le (Nat.le_succ _), hp.objs.size, he, Heap.get?_none_of_le (Nat.le_refl _), ?_⟩) (fun r s' z => ?_) fun _ _ z => z)
  · rw [← hp2]
    exact Heap.get?_push_of_some _ (Heap.get?_push_at rfl rfl)
  · obtain ⟨rfl, z⟩ := z
    wp_walk
    exact z
theorem exc_call {us : List Value} {Q : Value → Shared → Prop} (X : K.In hp) (XI : XInit K C R f name) (T : OwnTail hp BMV (.ref R :: BMV)) (hl : us.length ≤ sizeLine)
    (go : ∀ h' e, Heap.MadeExcOf hp h' e (.ref C) us → wpAny (model prog w) (A.under (.builtin "type.__call__" ⟨.ref C :: us, []⟩)) (call (.ref f) (.ref e :: us)) (fun r s' => r = .none ∧ Q (.ref e) s') E ⟨h', gn, dr, tk, os⟩) :
    wpAny (model prog w) A (call (.ref C) us) Q E ⟨hp, gn, dr, tk, os⟩ := by
  obtain ⟨nm, q, N, bs, hd, sn, sub, ab, col, dd, k0, k1, k2, k3, k5, lk⟩ := XI.obj
  have hC := X _ _ lk
  have e1 := tc_lookup
  have e2 := tc_bind (.ref C)
  have e3 : (⟨hp, gn, dr, tk, os⟩ : Shared).TypeIs (.ref C) "type" := ⟨_, hC, rfl⟩
  refine wpAny_call (codeAny_of_tree ?_)
  show wpAny _ _ (callAny (.ref C) _) _ _ ⟨_, _, _, _, _⟩
  repeat (any_goals (first | assumption | wp_step | with_reducible refine wpAny_loadPart_at hC ?_))
  refine ⟨rfl, codeAny_call_builtin_at (Code.quiet_builtin _ (by decide +kernel)) entry_typeCall (wpAny_check_type_call_sub hC (exc_type X XI T hl go))⟩
end
theorem raise_made {M : Model} {env : Env} {s : Shared} {x : Sem Value} {Q : Flow → Shared → Prop} (XI : XInit K C R f name) (hh : A.handled = none)
    (h : wpAny M A x (fun v s1 => ∃ e t od sl, v = .ref e ∧ K.In s1.heap ∧ s1.heap.get? e = some { cls := .ref C, dict := od, data := .fields #[.ref t, .none, .none, .none, .bool false, .none], slots := sl } ∧ E (.ref e) s1) E s) :
    wpAny M A (raiseStmt env (some x) none) Q E s := by
  obtain ⟨nm, q, N, bs, hd, sn, sub, ab, col, dd, k0, k1, k2, k3, k5, lk⟩ := XI.obj
  have hcB : (Value.ref C :: Value.ref R :: BMV).contains (.type "BaseException") = true := rfl
  unfold raiseStmt
  refine wpAny_bind (wpAny_mono h (fun v s1 h1 => ?_) fun _ _ z => z)
  obtain ⟨e, t, od, sl, rfl, X, he, hE⟩ := h1
  have hC := X _ _ lk
  obtain ⟨hp, gn, dr, tk, os⟩ := s1
  repeat (first | (with_reducible refine wpAny_isSubtype_exc hC ?_; rw [hcB]) | with_reducible refine wpAny_loadPart_at he ?_ | with_reducible refine wpAny_loadPart_at hC ?_ | wp_step)
  exact wpAny_raiseNew_none hh hE
end
section
variable {X : Cx} {pins : List (Addr × Obj)} {σ : St} {H : Hp} {s : Shared}
theorem Inv.untrack {ea : Addr} {φ : Heap → Prop} (I : Inv X pins σ H s) (h : H ea = some (.ext φ)) (h0 : X.s₀.heap.get? ea = none) : Inv X pins σ (del H ea) s := by
  have ne : ∀ b u, H b = some u → (∀ ψ, u ≠ .ext ψ) → b ≠ ea := fun b u e z y => by
    subst y
    rw [h] at e
    exact z φ (Option.some.inj e).symm
  have none_of : ∀ b, H b = none → del H ea b = none := fun b e => by
    by_cases z : b = ea
    · rw [z]; exact del_same
    · rw [del_ne z]; exact e
  refine ⟨I.ok, I.os, I.bare, ⟨I.base.keep, I.base.slot, fun b ob e n hx => none_of b (I.base.free b ob e n hx), I.base.there, fun b xs e => ?_, fun b ob u e => ?_, fun b ps e => ?_⟩, I.loc, I.cell, none_of _ I.free, fun x c e => none_of _ (I.freeC x c e), fun p hp => ?_, fun b u e => ?_, I.len⟩
  · have q := I.base.tups b xs e
    rw [del_ne (ne b _ q (fun ψ z => by cases z))]
    exact q
  · have q := I.base.frzs b ob u e
    rw [del_ne (ne b _ q (fun ψ z => by cases z))]
    exact q
  · obtain ⟨more, q⟩ := I.base.tbls b ps e
    exact ⟨more, by rw [del_ne (ne b _ q (fun ψ z => by cases z))]; exact q⟩
  · obtain ⟨a1, a2, a3⟩ := I.pin p hp
    exact ⟨a1, none_of _ a2, a3⟩
  · have hb : b ≠ ea := fun z => by rw [z, del_same] at e; cases e
    rw [del_ne hb] at e
    exact (I.hok b u e).stay (fun _ _ _ q => q) (fun c q => by rw [del_ne (ne c _ q (fun ψ z => by cases z))]; exact q) fun c xs q => by rw [del_ne (ne c _ q (fun ψ z => by cases z))]; exact q
end
def tRaiseI (C : Addr) (sp : Sp) (E : XK) (t : TA) : TS := fun _ σ H => t σ H fun vs H1 => vs.length ≤ sizeLine ∧ ∀ x, H1 x = none →
  sp (.ref x :: vs) (upd H1 x (ExcN x (.ref C) none)) (fun v H2 => v = .non ∧ ∃ od, H2 x = some (ExcN x (.ref C) od) ∧ E (.ref C) od (del H2 x)) fun _ _ _ => False
section
variable {X : Cx} {E : XK} {C R f : Addr} {name : Str}
theorem ps_raiseI {k : Nat} {fd : FuncData} {ps : List Str} {sp : Sp} {x y : Str} {e : Expr} {es : List Expr} {ta : TA} {np cpos pos : Pos} (O : Out X E) (hc : X.calm = true) (hg : Gl X x) (hm : X.mg x = some (.ref C)) (XI : XInit X.K C R f name)
    (OR : ∀ h, X.K.In h → h.Ns mainGlobals X.mg → OwnCls y R BMV "ValueError.__new__" X.mg h) (G : FnOk X.prog X.w X.K X.mg X.base CX0 k f fd ps sp) (hr : Room (k + 1) X.A) (hb : Binds X.K fd ps []) (ha : PA X (e :: es) ta)
    (he : starEach (e :: es) X.env = (false, eval e X.env) :: starEach es X.env := by rfl) (hpl : (backTo cpos (starEach es X.env)).any (·.1) = false := by rfl) (hd : (x == ("__debug__" : Str)) = false := by decide) :
    PS X (.Raise (some (.Call (.Name x np) (e :: es) [] cpos)) none pos) (tRaiseI C sp E ta) := by
  intro pins s σ H D I h
  rw [arm_exec_Raise]
  refine wpAny_bind (wpAny_standAt (raise_made XI (I.ok.hd hc) ?_))
  refine wpAny_bind (wpAny_mono (wpAny_Call_Name_kw (ld_glob I hg hm (PySem.W.callWith_K (h₀ := X.base) I.ok.mod.kin XI.kp (thn (ha cpos pins s σ H _ I h) fun us s1 ⟨vs, H1, I1, r, hl, q⟩ => ⟨I1.kIn, ?_⟩) he hpl) hd)) (fun v s3 z => wpAny_bind (wpAny_standAt (wpAny_pure z))) fun _ _ z => z)
  obtain ⟨hp, gn, dr, tk, os⟩ := s1
  refine exc_call I1.kIn XI (tail_own (OR _ I1.kIn (I1.mod.glob.keeps I1.bk))) (by show us.length ≤ _; rw [← r.length]; exact hl) fun h' x mk => ?_
  have new : hp.get? x = none := mk.new
  have nx : H1 x = none := by
    cases hz : H1 x with
    | none => rfl
    | some z =>
      obtain ⟨ob, e⟩ := (I1.hok x z hz).thing
      rw [show hp.get? x = some ob from e] at new
      cases new
  have new0 : X.s₀.heap.get? x = none := by
    cases hz : X.s₀.heap.get? x with
    | none => rfl
    | some o =>
      obtain ⟨o', e⟩ := I1.base.there x o hz (by rw [O.ex]; simp)
      rw [show hp.get? x = some o' from e] at new
      cases new
  obtain ⟨t, gx, _, _⟩ := mk.there
  have I2 : Inv X pins σ H1 ⟨h', gn, dr, tk, os⟩ := I1.kept (t' := tk) mk.keeps
  have I3 : Inv X pins σ (upd H1 x (ExcN x (.ref C) none)) ⟨h', gn, dr, tk, os⟩ := by
    refine I2.track nx new0 (fun z => ?_) (fun y c e z => ?_) (fun p hp' z => ?_) (excN_ok ⟨t, #[], gx⟩)
    · obtain ⟨m, ⟨o, _, _, ho, _⟩, _⟩ := I1.loc
      rw [← z, show hp.get? x = none from new] at ho
      cases ho
    · obtain ⟨v, o, ho, _⟩ := I1.cell y c e
      rw [z, show hp.get? x = none from new] at ho
      cases ho
    · have q := (I1.pin p hp').1
      rw [z, show hp.get? x = none from new] at q
      cases q
  have r2 : Vals (V.ref x :: vs) (Value.ref x :: us) := .cons rfl r
  have hq := q x nx
  have hl2 : (Value.ref x :: us ++ []).length = ps.length := by
    have e := r2.length
    rw [G.len _ _ _ _ hq] at e
    rw [List.append_nil]
    exact e.symm
  have hb2 := hb ⟨h', gn, dr, tk, os⟩ (Value.ref x :: us) I3.kIn hl2
  rw [List.append_nil] at hb2
  refine wpAny_call (codeAny_mono (G.run _ X.stack _ _ ⟨Value.ref x :: us, []⟩ (Value.ref x :: us) _ _ _ (hr.make C us []) (I3.env0.make C us []) hb2 r2 hq) fun r s' z => ?_)
  cases r with
  | error e => exact False.elim z
  | ok fl =>
    cases fl with
    | ret u =>
      obtain ⟨v, H', I4, rv, ev, od, hx, qE⟩ := I3.after z
      subst ev
      obtain ⟨⟨t2, sl, g2⟩, _⟩ := (show ObjOk X.prog X.w H' s'.heap x (ExcN x (.ref C) od) from I4.hok x _ hx)
      refine ⟨rv, x, t2, od, sl, rfl, I4.kIn, g2, ?_⟩
      exact O.thrG (I4.untrack hx new0) g2 rfl rfl rfl rfl del_same new0 ⟨_, rfl⟩ qE
    | next => exact False.elim z
    | brk => exact False.elim z
    | cont => exact False.elim z
end
def tXI (C : Addr) (t : TA) : TE := fun σ H Q => t σ H fun vs H1 => ∃ x od ws, vs = .ref x :: ws ∧ ws.length ≤ sizeLine ∧ H1 x = some (ExcN x (.ref C) od) ∧ ∀ H2, H2 = upd H1 x (ExcN x (.ref C) od) → Q .non H2
section
variable {X : Cx} {C R f : Addr} {name : Str}
theorem pe_xinit {y z : Str} {e : Expr} {es : List Expr} {t : TA} {np apos pos : Pos} {pl : Sem Bool} (XI : XInit X.K C R f name) (OR : ∀ h, X.K.In h → h.Ns mainGlobals X.mg → OwnCls z R BMV "ValueError.__new__" X.mg h) (hg : Gl X y) (hm : X.mg y = some (.ref R)) (ha : PA X (e :: es) t)
    (hst : starEach (e :: es) X.env = (false, eval e X.env) :: starEach es X.env := by rfl) (hpl : (backTo pos (starEach es X.env)).any (·.1) = false := by rfl) (hd : (y == ("__debug__" : Str)) = false := by decide)
    (ht : eval (.Call (.Attribute (.Name y np) "__init__" apos) (e :: es) [] pos) X.env = (do
      let ov ← eval (.Name y np) X.env
      standAt apos.atName
      let (f, first) ← holding [ov] (getMethod ov "__init__" pl)
      callWith pos f first (backTo pos (starEach (e :: es) X.env)) (backToKw pos (keywordEach [] X.env))) := by rfl) :
    PE X (.Call (.Attribute (.Name y np) "__init__" apos) (e :: es) [] pos) (tXI C t) := by
  intro pins s σ H Q I h
  refine PySem.W.methodCall_KW (pl := pl) (ld_glob I hg hm (method_cls I.kIn XI.rg (cls_value I.kIn XI.rd XI.ri (by rfl) ?_)) hd) ht
  have It : Inv X pins σ H { s with toks := s.toks + 1 } := I.tok _
  have hA := ha pos pins _ σ H _ It h
  rw [hst] at hA ⊢
  refine Calls.callWith_builtin (by show (false || (backTo pos (starEach es X.env)).any (·.1)) = false; rw [hpl]; rfl) (Calls.evalArgs_plain (thn hA fun us s2 ⟨vs, H2, I2, r2, x, od, ws, ev, hl, hx, q⟩ => ?_))
  subst ev
  obtain ⟨u0, us1, rfl, r1, r3⟩ : ∃ u0 us1, us = u0 :: us1 ∧ RelV (.ref x) u0 ∧ Vals ws us1 := by
    cases r2 with
    | cons r1 r3 => exact ⟨_, _, rfl, r1, r3⟩
  cases (show u0 = Value.ref x from r1)
  have F := PySem.F.excBase_ValueError
  have T := tail_own (OR _ I2.kIn (I2.mod.glob.keeps I2.bk))
  obtain ⟨nm, q', N, bs, hd, sn, sub, ab, col, dd, k0, k1, k2, k3, k5, lk⟩ := XI.obj
  obtain ⟨⟨t0, sl, gx⟩, _⟩ := (show ObjOk X.prog X.w H2 s2.heap x (ExcN x (.ref C) od) from I2.hok x _ hx)
  have hC := I2.kIn _ _ lk
  obtain ⟨hp, gn, dr, tk, os⟩ := s2
  have hz : us1.length ≤ sizeLine := by rw [← r3.length]; exact hl
  refine wpAny_call (codeAny_call_builtin F.init.plain F.initEntry (wpAny_check_init_subT F T hC gx rfl ?_))
  have gx1 := Heap.get?_push_of_some (h := hp) { cls := .type "tuple", data := .seq us1.toArray } gx
  wp_walk
  refine ⟨.non, _, ?_, rfl, q _ rfl⟩
  have hxs : hp.objs.size ≠ x := Nat.ne_of_gt (Heap.lt_size gx)
  refine Inv.write (e := x) I2 (by rw [hx]; exact True.intro) (.inl rfl) (fun b u hb e => ?_) ?_ ?_
  · rw [Heap.get?_update_other _ _ (Ne.symm hb)]
    exact Heap.get?_push_of_some _ e
  · exact ⟨_, Heap.get?_update_self _ gx1 rfl⟩
  · exact excN_ok ⟨hp.objs.size, sl, Heap.get?_update_self _ gx1 rfl⟩
end
def sXSet (C : Addr) (ta tv : TE) (f : Str) : TS := fun D σ H => tv σ H fun y H1 => ta σ H1 fun x H2 => ∃ a, x = .ref a ∧ H2 a = some (ExcN a (.ref C) none) ∧ ∀ d, H2 d = none → d ≠ a → D.nx σ (upd (upd H2 a (ExcN a (.ref C) (some d))) d (.xd [(f, y)]))
section
variable {prog : Program} {w : World} {A : Around} {E : Value → Shared → Prop} {K : Frag} {C R f : Addr} {name : Str}
theorem exc_store {s : Shared} {x t : Addr} {sl : Array (Option Value)} {v : Value} {Q : Unit → Shared → Prop} (X : K.In s.heap) (XI : XInit K C R f name)
    (hx : s.heap.get? x = some { cls := .ref C, dict := none, data := .fields #[.ref t, .none, .none, .none, .bool false, .none], slots := sl })
    (go : ∀ h' tk, h'.get? x = some { cls := .ref C, dict := some s.heap.objs.size, data := .fields #[.ref t, .none, .none, .none, .bool false, .none], slots := sl } → h'.Ns1 s.heap.objs.size (fun y => if y = name then some v else none) →
      (∀ b o, b ≠ x → s.heap.get? b = some o → h'.get? b = some o) → Q () { s with heap := h', toks := tk }) : wpAny (model prog w) A (setAttr (.ref x) name v) Q E s := by
  have I : InstAt s.heap x { cls := .ref C, dict := none, data := .fields #[.ref t, .none, .none, .none, .bool false, .none], slots := sl } C none := ⟨hx, rfl, rfl, trivial⟩
  have SF := PySem.F.store_ValueError
  have SO := PySem.F.store_object
  obtain ⟨nm, q', N, bs, hd, sn, sub, ab, col, dd, k0, k1, k2, k3, k5, lk⟩ := XI.obj
  refine set_plain X I XI.sa ?_
  have hcl : clsIn K C = some { name := nm, bases := bs, mro := .ref C :: .ref R :: BMV, ns := N, qualname := q', hasDict := hd, slotNames := sn, subclasses := sub, abstract := ab, collection := col, hasDel := false } := by
    unfold clsIn
    rw [lk]
  have hdt : hd = true := by
    have z := XI.hd
    unfold hasDictIn at z
    rw [hcl] at z
    exact z
  subst hdt
  have L0 := I.type (M := model prog w)
  have hm : Looks (model prog w) s.heap (mroOf (.ref C)) (.ref C :: .ref R :: BMV) := (looks_clsIn X hcl).andThen .now
  have sb : Looks (model prog w) s.heap (isInstance (.ref x) (.type "object")) true := L0.andThen (looks_mroIn X (by unfold mroIn; rw [hcl]; rfl))
  obtain ⟨attr, hat, hr⟩ := Option.bind_eq_some_iff.mp XI.tk
  have L3 : Looks (model prog w) s.heap (storeTaker? attr) none := by
    cases attr with
    | none => exact .now
    | some a =>
      obtain ⟨b, hb, z⟩ := Option.map_eq_some_iff.mp hr
      refine (looks_takesIn X hb).andThen ?_
      cases b with
      | true => cases z
      | false => exact .now
  refine codeAny_call_builtin SO.slot.plain SO.entry (@check_slot (model prog w) _ _ { s with toks := s.toks + 1 } "object.__setattr__" "object" "__setattr__" (.ref x) [.str name s.toks, v] [] _ SO.kind SO.split sb (SO.args (.ref x) (.str name s.toks) v) ?_)
  rw [osa_eq, refuse_eq]
  refine wpAny_bind (wpAny_bind (Looks.here (s := { s with toks := s.toks + 1 }) L0 (wpAny_bind (Looks.here (s := { s with toks := s.toks + 1 }) hm ?_))))
  rw [refuseLoop_ref, refuseLoop_ref, SF.passes]
  refine wpAny_pure (wpAny_bind (Looks.here (s := { s with toks := s.toks + 1 }) L0 (wpAny_bind (Looks.here (s := { s with toks := s.toks + 1 }) (looks_findIn X hat) (wpAny_bind (Looks.here (s := { s with toks := s.toks + 1 }) L3 ?_))))))
  refine wpAny_bind (wpAny_pure (wpAny_bind (wpAny_bind (wpAny_loadPart hx (wpAny_bind (Looks.here (s := { s with toks := s.toks + 1 }) (looks_clsIn X hcl) ?_))))))
  have hx1 : (s.heap.push { cls := .type "dict", data := .dict #[] }).get? x = some { cls := .ref C, dict := none, data := .fields #[.ref t, .none, .none, .none, .bool false, .none], slots := sl } := Heap.get?_push_of_some _ hx
  have hxs : x ≠ s.heap.objs.size := Nat.ne_of_lt (Heap.lt_size hx)
  refine wpAny_bind (wpAny_alloc' (wpAny_bind (wpAny_update' hx1 (wpAny_pure ?_))))
  generalize hh2 : ((s.heap.push { cls := .type "dict", data := .dict #[] }).update x fun o => { o with dict := some s.heap.objs.size }) = h2
  have hd2 : h2.get? s.heap.objs.size = some { cls := .type "dict", data := .dict #[] } := by
    rw [← hh2]
    exact (Heap.get?_update_ne _ _ _ _ hxs.symm).trans (Heap.get?_push_at rfl rfl)
  have hx2 : h2.get? x = some { cls := .ref C, dict := some s.heap.objs.size, data := .fields #[.ref t, .none, .none, .none, .bool false, .none], slots := sl } := by
    rw [← hh2]
    exact Heap.get?_update_self _ hx1 rfl
  have kk : ∀ b o, b ≠ x → s.heap.get? b = some o → h2.get? b = some o := fun b o n e => by
    rw [← hh2]
    exact (Heap.get?_update_ne _ _ _ _ n).trans (Heap.get?_push_of_some _ e)
  have hnd : h2.Ns s.heap.objs.size (fun _ => none) := ⟨_, #[], _, hd2, rfl, fun e he => absurd he (by simp), fun _ => rfl⟩
  show wpAny _ _ (storeInDict s.heap.objs.size (.str name s.toks) name v) _ _ _
  unfold storeInDict newKeyGuard
  refine wpAny_bind (wpAny_pure (wpAny_bind (wpAny_nsSet1 (Heap.Ns1.of_empty hnd) fun h' hn' hs => ?_)))
  obtain ⟨oD, esD, epD, hoD, hdD, hcD⟩ := hn'.count (Within.cons name v Within.nil)
  refine wpAny_bind (wpAny_lookBehind hoD (by rw [hdD]; exact pastItsLine_dict (Nat.le_trans hcD (by rw [List.length_cons, List.length_nil, sizeLine_eq]; (first | lia | omega)))) ?_)
  refine wpAny_pure (go h' _ ((hs.2 x hxs).trans hx2) hn' fun b o n e => ?_)
  exact (hs.2 b (Nat.ne_of_lt (Heap.lt_size e))).trans (kk b o n e)
end
section
variable {X : Cx} {C R f : Addr} {name : Str} {o value : Expr} {pos pos' : Pos} {ta tv : TE}
theorem ps_xset (XI : XInit X.K C R f name) (ha : PE X o ta) (hv : PE X value tv) (hs : swapsWith value (some (.Attribute o name pos')) pos.line X.env = pure false := by rfl) : PS X (.Assign [.Attribute o name pos'] value pos) (sXSet C ta tv name) := by
  intro pins s σ H D I h
  refine plainObj_wpAny_Assign_Attribute (thn (hv pins s σ H _ I h) fun u s1 ⟨y, H1, I1, ry, q⟩ => thn (ha pins s1 σ H1 _ I1 q) fun ov s2 ⟨x, H2, I2, rx, a, ex, hx, q2⟩ => ?_) hs
  subst ex
  cases (show ov = Value.ref a from rx)
  obtain ⟨⟨t, sl, gx⟩, _⟩ := (show ObjOk X.prog X.w H2 s2.heap a (ExcN a (.ref C) none) from I2.hok a _ hx)
  refine exc_store I2.kIn XI gx fun h' tk gx' nd kk => ?_
  have fr : H2 s2.heap.objs.size = none := I2.hok.fresh (Nat.le_refl _)
  have ne : s2.heap.objs.size ≠ a := Nat.ne_of_gt (Heap.lt_size gx)
  have I3 : Inv X pins σ (upd H2 a (ExcN a (.ref C) (some s2.heap.objs.size))) { s2 with heap := h', toks := tk } :=
    Inv.write (e := a) I2 (by rw [hx]; exact True.intro) (.inl rfl) (fun b u hb e => kk b u hb e) ⟨_, gx'⟩ (excN_ok ⟨t, sl, gx'⟩)
  refine ⟨σ, _, I3.track (ea := s2.heap.objs.size) (o := .xd [(name, y)]) (by rw [upd_ne ne]; exact fr) ?_ ?_ ?_ ?_ ⟨_, nd, fun g => ?_⟩, q2 _ fr ne⟩
  · cases hz : X.s₀.heap.get? s2.heap.objs.size with
    | none => rfl
    | some ob => exact absurd (Nat.lt_of_lt_of_le (Heap.lt_size hz) I2.sz) (Nat.lt_irrefl _)
  · exact Nat.ne_of_gt I2.lt
  · intro y' c e z
    obtain ⟨v, ob, ho, _⟩ := I2.cell y' c e
    rw [z] at ho
    exact absurd (Heap.lt_size ho) (Nat.lt_irrefl _)
  · intro p hp z
    have q := (I2.pin p hp).1
    rw [z] at q
    exact absurd (Heap.lt_size q) (Nat.lt_irrefl _)
  · show RelO (List.lookup g [(name, y)]) (if g = name then some u else none)
    by_cases z : g = name
    · have hb : (g == name) = true := beq_iff_eq.mpr z
      rw [if_pos z]
      simp only [List.lookup, hb]
      exact ry
    · have hb : (g == name) = false := beq_eq_false_iff_ne.mpr z
      rw [if_neg z]
      simp only [List.lookup, hb]
      exact True.intro
end
end L2

namespace L2
open PySem PySem.Spec PySem.Calls PyProof.Rows PySem.W PySem.Builtin PySem.Builtin.ObjectAttr

section
variable {prog : Program} {w : World} {A : Around} {E : Value → Shared → Prop} {K : Frag} {C R f x d : Addr} {name : Str} {s : Shared}
theorem exc_get {ox : Obj} {vs : Array Value} {mA : Str → Option Value} {v : Value} {b : Bool} {Q : Value → Shared → Prop} (X : K.In s.heap) (XC : ExcCls K C) (XI : XInit K C R f name) (hx : s.heap.get? x = some ox) (hc : ox.cls = .ref C) (hd : ox.data = .fields vs) (hdx : ox.dict = some d)
    (nd : s.heap.Ns1 d mA) (hv : mA name = some v) (hh : handedIn v = true) (q : Q v { s with toks := s.toks + 1 }) : wpAny (model prog w) A (getAttr (.ref x) name b) Q E s := by
  obtain ⟨hp, gn, dr, tk, os⟩ := s
  obtain ⟨od, ho, hl⟩ := lookIn_ns nd
  have I : InstAt hp x ox C (some od) := by
    refine ⟨hx, hc, ?_, ?_⟩
    · unfold notCls
      rw [hd]
    · rw [hdx]
      exact ho
  have L0 := I.type (M := model prog w)
  have L1 := looks_findIn (M := model prog w) X XC.ga
  have L3 := looks_findIn (M := model prog w) X XC.gh
  have S5 : Looks (model prog w) hp (isInstance (.ref x) (.type "BaseException")) true := L0.andThen (looks_mroIn (M := model prog w) X XC.mb)
  have L2 : Looks (model prog w) hp (find (.ref x) (.ref C) name) (.value v) := by
    obtain ⟨cd, hcl, hdd⟩ := any_some XI.hd
    have Lo := looks_own (M := model prog w) (name := name) (r := some v) X I hcl (by unfold PySem.W.ownOf; rw [if_pos hdd]; exact (hl name).trans (by rw [hv]))
    have Lc : Looks (model prog w) hp (ownThenClass (.ref x) name none none) (.value v) := Lo.andThen (Looks.tag .now)
    exact (looks_findIn X XI.no).andThen (Looks.andThen (a := none) .now (Looks.andThen (a := none) .now Lc))
  unfold getAttr getAttrBy
  refine wpAny_bind (wpAny_mkText (wpAny_holding (wpAny_bind (L0.at (wpAny_bind (L1.at ?_))))))
  show wpAny _ _ (getAttrByItsOwn (.ref x) (.str name tk) (.ref C) (.builtin "BaseException.__getattribute__") true b) _ _ _
  unfold getAttrByItsOwn
  refine wpAny_bind (Looks.at (show Looks (model prog w) hp (hookBefore (.ref C)) none from L3) (wpAny_bind (wpAny_attempt (wpAny_holding ?_))))
  unfold callGetattribute
  rw [if_neg (by rw [show onTheHeap (Value.builtin "BaseException.__getattribute__") = false from rfl, Bool.and_false]; decide)]
  unfold boundAndCalled
  rw [F.attrBase_ValueError.ga.bind (.ref x)]
  refine wpAny_bind (wpAny_pure ?_)
  show wpAny _ _ (call (.builtin "BaseException.__getattribute__") [.ref x, .str name tk]) _ _ _
  refine wpAny_call (codeAny_call_builtin F.attrBase_ValueError.ga.plain F.entry_bexc_ga (check_bexc S5 ?_))
  refine wpAny_bind (wpAny_pure (wpAny_bind (wpAny_pure (wpAny_bind (L0.at (wpAny_bind (L2.at (wpAny_pure ?_))))))))
  show wpAny _ _ (handedOut v) _ _ _
  rw [handedOut_of hh]
  exact wpAny_pure q
end
def tXFld (K : PySem.W.Frag) (ta : TE) (f : Str) : TE := fun σ H Q => ta σ H fun x H1 => ∃ a C R g d fs v, x = .ref a ∧ H1 a = some (ExcX a (.ref C) (some d)) ∧ H1 d = some (.xd fs) ∧ fs.lookup f = some v ∧ ExcCls K C ∧ XInit K C R g f ∧ Q v H1
def rIsiXD (K : Frag) : List V → Hp → VK → Prop := fun xs H Q => ∃ x c D od u b, xs = [.ref x, c] ∧ clsV c = some u ∧ H x = some (ExcX x (.ref D) od) ∧ ExcCls K D ∧ kitOne K (.ref D) u = some b ∧ Q (.bl b) H
section
variable {X : Cx}
theorem pe_xfld (K : PySem.W.Frag) {e : Expr} {f : Str} {pos : Pos} {ta : TE} (he : PE X e ta) (hb : attributeBase e f X.env (eval e X.env) = eval e X.env := by rfl) (hK : X.K = K := by rfl) : PE X (.Attribute e f pos) (tXFld K ta f) := by
  subst hK
  intro pins s σ H Q I h
  refine attr_of hb (thn (he pins s σ H _ I h) fun u s1 ⟨x, H1, I1, rx, a, C, R, g, d, fs, v, ex, ha, hd, hl, XC, XI, q⟩ => ?_)
  subst ex
  cases (show u = Value.ref a from rx)
  obtain ⟨⟨oe, vs, e1, e2, e3, _, e5⟩, _⟩ := (show ObjOk X.prog X.w H1 s1.heap a (ExcX a (.ref C) (some d)) from I1.hok a _ ha)
  obtain ⟨mA, nd, r⟩ := (show ObjOk X.prog X.w H1 s1.heap d (.xd fs) from I1.hok d _ hd)
  obtain ⟨u, hu, ru⟩ := RelO.some_of (v := v) (o := mA f) (by rw [← hl]; exact r f)
  exact exc_get I1.kIn XC XI e1 e2 e3 e5 nd hu (handed_of ru) ⟨v, H1, I1.tok _, ru, q⟩
theorem isiXD (K : Frag) (hK : X.K = K := by rfl) : CallR X (.builtin "isinstance") (rIsiXD K) := by
  subst hK
  intro pins s σ H xs us Q I r h
  obtain ⟨x, c, D, od, u, b, rfl, rc, ty, C, e, q⟩ := h
  obtain ⟨u0, u1, rfl, r1, r2⟩ : ∃ u0 u1, us = [u0, u1] ∧ RelV (.ref x) u0 ∧ RelV c u1 := by
    cases r with
    | cons r1 r2 =>
      cases r2 with
      | cons r2 r3 =>
        cases r3
        exact ⟨_, _, rfl, r1, r2⟩
  cases clsV_of rc r2
  cases (show u0 = Value.ref x from r1)
  obtain ⟨⟨oe, vs, e1, e2, _⟩, _⟩ := (show ObjOk X.prog X.w H s.heap x (ExcX x (.ref D) od) from I.hok x _ ty)
  exact kia_one (kitx_exc C) I.kIn ⟨oe, e1, e2⟩ e (fun z => nomatch z) fun tk => ⟨.bl b, H, I.tok tk, rfl, q⟩
end
end L2

namespace L2
open PySem PySem.Spec PyProof.Rows
theorem vals_strs : ∀ {ss : List Str} {its : List Value}, Vals (ss.map V.str) its → ∃ l : List (Str × Tok), its = strValues l ∧ l.map (·.1) = ss
  | [], _, .nil => ⟨[], rfl, rfl⟩
  | x :: ss, _, .cons r rr => by
    obtain ⟨t, rfl⟩ := r
    obtain ⟨l, rfl, h⟩ := vals_strs rr
    exact ⟨(x, t) :: l, rfl, by rw [List.map_cons, h]⟩
theorem strs_vals : ∀ (l : List (Str × Tok)), Vals ((l.map (·.1)).map V.str) (strValues l)
  | [] => .nil
  | (x, t) :: l => .cons ⟨t, rfl⟩ (strs_vals l)
section
variable {X : Cx}
def rJoin (K : PySem.W.Frag) : V → List V → Hp → VK → Prop := fun x vs H Q => ∃ (sep : Str) (p : Addr) (ss : List Str), x = .str sep ∧ vs = [.ref p] ∧ SqL K H p (ss.map V.str) ∧ PySem.JoinOk sep ss = true ∧ Q (.str (Txt.join sep ss)) H
theorem mt_join (K : PySem.W.Frag) (hK : X.K = K := by rfl) : MtR X "str.join" (rJoin K) := by
  subst hK
  intro pins s σ H x xs v us Q I rx rs h
  obtain ⟨sep, p, ss, rfl, rfl, hq, ok, q⟩ := h
  obtain ⟨t, rfl⟩ := rx
  obtain ⟨u, rfl, ru⟩ := vals1 rs
  cases ru
  obtain ⟨its, rv, pl, hz⟩ := I.list hq
  obtain ⟨l, rfl, hl⟩ := vals_strs rv
  exact SC.join pl.isList hl ok fun t' k => ⟨.str _, H, I.tok _, ⟨t', rfl⟩, q⟩
def rSplit : V → List V → Hp → VK → Prop := fun x vs H Q => ∃ z sep : Str, x = .str z ∧ vs = [.str sep] ∧ (sep.length == 0) = false ∧ z.length ≤ sizeLine ∧ (Txt.split z sep).length ≤ sizeLine ∧ ∀ D, H D = none → Q (.ref D) (upd H D (.lst ((Txt.split z sep).map V.str)))
theorem Inv.strs {pins : List (Addr × Obj)} {σ : St} {H : Hp} {s : Shared} {l : List (Str × Tok)} {k : Nat} (I : Inv X pins σ H s) (hz : l.length ≤ sizeLine) :
    Inv X pins σ (upd H s.heap.objs.size (.lst ((l.map (·.1)).map V.str))) { s with toks := k, heap := s.heap.push { cls := .type "list", data := .seq (strValues l).toArray } } := by
  refine I.laid (t' := k) (fun b u e => Heap.get?_push_of_some _ e) (Nat.le_refl _) ⟨by rw [List.length_map, List.length_map]; exact hz, strValues l, 0, strs_vals l, Heap.get?_push_size _ rfl⟩
theorem mt_split : MtR X "str.split" rSplit := by
  intro pins s σ H x xs v us Q I rx rs h
  obtain ⟨z, sep, rfl, rfl, hy, hz, hz2, q⟩ := h
  obtain ⟨t, rfl⟩ := rx
  obtain ⟨u, rfl, t', rfl⟩ := vals1 rs
  have hD := I.hok.fresh (Nat.le_refl s.heap.objs.size)
  have one : Txt.split z sep = [z] → ∀ k, EP X pins σ Q (.ref s.heap.objs.size) { s with toks := k, heap := s.heap.push { cls := .type "list", data := .seq (strValues [(z, t)]).toArray } } := fun e k =>
    ⟨.ref _, _, I.strs (l := [(z, t)]) (by show 1 ≤ sizeLine; decide), rfl, by have r := q _ hD; rw [e] at r; exact r⟩
  by_cases h1 : (decide (z.length < sep.length) || decide (Builtin.Str.strKind z < Builtin.Str.strKind sep)) = true
  · exact call_meets F.slot_str_split (typeIs_str _ _ _) F.entry_str_split (F.args_str_split_2 _ _) (meets_str_split_cannot_occur z sep t t' h1) (one (if_pos h1) _)
  have h1 := Bool.eq_false_iff.mpr h1
  by_cases h2 : (Builtin.Str.occurrences z sep 0 z.length (z.length + 1)).isEmpty = true
  · exact call_meets F.slot_str_split (typeIs_str _ _ _) F.entry_str_split (F.args_str_split_2 _ _) (meets_str_split_not_found z sep t t' h1 hy h2) (one ((if_neg (ne_true_of_eq_false h1)).trans (if_pos h2)) _)
  have h2 := Bool.eq_false_iff.mpr h2
  have e : Txt.split z sep = Builtin.Str.partsBetween z (Builtin.Str.occurrences z sep 0 z.length (z.length + 1)) sep.length := (if_neg (ne_true_of_eq_false h1)).trans (if_neg (ne_true_of_eq_false h2))
  rw [e] at hz2 q
  refine call_meets F.slot_str_split (typeIs_str _ _ _) F.entry_str_split (F.args_str_split_2 _ _) (meets_str_split_sep z sep t t' h1 hy h2 hz hz2) ?_
  show wants _ _ _ { s with toks := _, heap := s.heap.push { cls := .type "list", data := .seq (strsFrom s.toks (Builtin.Str.partsBetween z (Builtin.Str.occurrences z sep 0 z.length (z.length + 1)) sep.length)).toArray } }
  rw [strsFrom_eq]
  have tx := numbered_texts s.toks (Builtin.Str.partsBetween z (Builtin.Str.occurrences z sep 0 z.length (z.length + 1)) sep.length)
  refine ⟨.ref _, _, I.strs (l := numbered s.toks _) ?_, rfl, ?_⟩
  · have := congrArg List.length tx
    rw [List.length_map] at this
    rw [this]
    exact hz2
  · rw [tx]
    exact q _ hD
theorem call_int_text : CallR X (.type "int") (fun xs H Q => ∃ (x : Str) (n : Int), xs = [.str x] ∧ PySem.intText? x = some n ∧ x.length ≤ 640 ∧ Q (.int n) H) := by
  intro pins s σ H xs us Q I r h
  obtain ⟨x, n, rfl, hn, hl, q⟩ := h
  obtain ⟨u, rfl, t, rfl⟩ := vals1 r
  exact PySem.W.KIN.call_text hn hl ⟨.int _, H, I.tok _, ⟨_, rfl⟩, q⟩
theorem vals_bl : ∀ {bs : List Bool} {its : List Value}, Vals (bs.map V.bl) its → its = bs.map Value.bool
  | [], _, .nil => rfl
  | b :: bs, _, .cons r rr => by
    cases r
    rw [vals_bl rr]
    rfl
theorem range_alls : ∀ bs : List Bool, ((List.range bs.length).all fun i => (bs[i]?).getD true) = bs.all id := fun bs => by
  rw [Bool.eq_iff_iff, List.all_eq_true, List.all_eq_true]
  constructor
  · intro h b hb
    obtain ⟨i, hi, e⟩ := List.getElem_of_mem hb
    have := h i (List.mem_range.mpr hi)
    rw [List.getElem?_eq_getElem hi, e] at this
    exact this
  · intro h i hi
    have hi := List.mem_range.mp hi
    rw [List.getElem?_eq_getElem hi]
    exact h _ (List.getElem_mem hi)
theorem allK (K : PySem.W.Frag) (hc : X.calm = true) (hK : X.K = K := by rfl) : CallR X (.builtin "all") (fun xs H Q => ∃ (p : Addr) (bs : List Bool), xs = [.ref p] ∧ SqL K H p (bs.map V.bl) ∧ Q (.bl (bs.all id)) H) := by
  subst hK
  intro pins s σ H xs us Q I r h
  obtain ⟨p, bs, rfl, hq, q⟩ := h
  obtain ⟨u, rfl, rx⟩ := vals1 r
  cases rx
  obtain ⟨its, rv, pl, hz⟩ := I.list hq
  obtain rfl := vals_bl rv
  have lt : p < s.heap.objs.size := by obtain ⟨_, e, _⟩ := pl.isList; exact Heap.lt_size e
  refine call_all_walk (wpAny_pyIter_list pl.isList ⟨_, [_, p], [_], _, _, _, fun i => (bs[i]?).getD true, rfl, Walks.list (A := X.A.in1) (I.ok.hd hc) _ p (Nat.ne_of_lt lt) _,
    ⟨⟨_, Heap.get?_push_size _ rfl, rfl, rfl⟩, pl.isList.push _⟩, fun i v s' Q' E' hP hQ => ?_, fun h' tk hk => ?_⟩)
  · have hP : (bs.map Value.bool)[i]? = some v := by simpa using hP
    rw [List.getElem?_map] at hP
    obtain ⟨b, e, rfl⟩ := Option.map_eq_some_iff.mp hP
    simp only [e, Option.getD_some] at hQ
    exact wpAny_truthy_bool hQ
  · have z : (bs.map Value.bool).toArray.size = bs.length := by simp
    rw [z, range_alls]
    refine ⟨.bl _, H, I.kept fun b o e => hk b o (fun hm => ?_) (Heap.get?_push_of_some _ e), rfl, q⟩
    rw [List.mem_singleton.mp hm] at e
    exact Nat.lt_irrefl _ (Heap.lt_size e)
end
def signV (x : Str) (i : Nat) : V := .str ⟨#[x.cps.getD i 0]⟩
def Its (x : Str) : It := ⟨fun i _ => i < x.length, fun i H v H' => H' = H ∧ v = signV x i, fun i _ => x.length ≤ i⟩
theorem turn_str {P : Program} {w : World} {K : PySem.W.Frag} {tg : Expr} (x : Str) (it : Addr) (n : String) (t : Tok) (hn : n = "str_ascii_iterator" ∨ n = "str_iterator") : Turn P w K tg (Its x) [it] it (fun i h => h.IsStrIter it n x t i) where
  mem := by simp
  obj := fun i h st b hb => by
    have e : b = it := by simpa using hb
    subst e
    obtain ⟨o, e, c, d⟩ := st
    exact ⟨o, e, fun v z => by rw [d] at z; cases z⟩
  keep := fun i h h' st k => let ⟨o, ho, r⟩ := st; ⟨o, k it (by simp) o ho, r⟩
  item := by
    intro X hP hw hK hc i pins s σ H E I hf st hg
    subst hP hw hK
    obtain ⟨f0, f1, f2, f3, f4, f5⟩ := hf it (by simp)
    have hg : i < x.cps.size := hg
    have hx : x.cps[i]? = some (x.cps.getD i 0) := by simp [hg]
    rcases hn with rfl | rfl
    · refine wpAny_pyNext_ascii_item st hx fun h' st' sb => ?_
      have I1 : Inv X pins σ H { s with heap := h', toks := s.toks + 1 } := I.turned (fun b o hb e => (sb.2 b hb).trans e) f0 f1 f3 f4 f5
      obtain ⟨o, e, c, d⟩ := id st'
      exact ⟨_, rfl, go_of (s := { s with heap := h', toks := s.toks + 1 }) e c d (by decide) ⟨signV x i, H, I1, ⟨_, rfl⟩, ⟨rfl, rfl⟩, st', fun b hb => (hf b hb).1⟩⟩
    · refine wpAny_pyNext_wide_item st hx fun h' st' sb => ?_
      have I1 : Inv X pins σ H { s with heap := h', toks := s.toks + 1 } := I.turned (fun b o hb e => (sb.2 b hb).trans e) f0 f1 f3 f4 f5
      obtain ⟨o, e, c, d⟩ := id st'
      exact ⟨_, rfl, go_of (s := { s with heap := h', toks := s.toks + 1 }) e c d (by decide) ⟨signV x i, H, I1, ⟨_, rfl⟩, ⟨rfl, rfl⟩, st', fun b hb => (hf b hb).1⟩⟩
  done := by
    intro X hP hw hK hc i pins s σ H E I hf st hg
    subst hP hw hK
    obtain ⟨f0, f1, f2, f3, f4, f5⟩ := hf it (by simp)
    have hg : x.cps.size ≤ i := hg
    have hx : x.cps[i]? = none := by simp [hg]
    rcases hn with rfl | rfl
    · exact wpAny_pyNext_ascii_end (I.ok.hd hc) st hx fun h' eb => ⟨rfl, I.turned (t' := s.toks) (fun b o hb e => eb b o hb e) f0 f1 f3 f4 f5⟩
    · exact wpAny_pyNext_wide_end (I.ok.hd hc) st hx fun h' eb => ⟨rfl, I.turned (t' := s.toks) (fun b o hb e => eb b o hb e) f0 f1 f3 f4 f5⟩
  self := fun _ _ _ _ _ st h => by
    rcases hn with rfl | rfl
    · exact wpAny_pyIter_striter_ascii st h
    · exact wpAny_pyIter_striter_wide st h
section
variable {X : Cx} {tg : Expr}
def iStr (te : TE) : TI := fun σ H R => te σ H fun v H1 => ∃ x, v = .str x ∧ R (Its x) H1
theorem pi_str {l : Expr} {tl : TE} (hl : PE X l tl) : PI X tg l (iStr tl) := by
  intro pins s σ H R I h
  refine thn (hl pins s σ H _ I h) fun v s1 ⟨x, H1, I1, r, q⟩ => ?_
  obtain ⟨y, rfl, q⟩ := q
  obtain ⟨t, rfl⟩ := r
  refine wpAny_pyIter_strU ?_
  have hn : strIterType y = "str_ascii_iterator" ∨ strIterType y = "str_iterator" := by
    unfold strIterType
    split
    · exact .inl rfl
    · exact .inr rfl
  refine ⟨s1.heap.objs.size, [s1.heap.objs.size], _, _, H1, rfl, I1.kept (t' := s1.toks) fun b o e => Heap.get?_push_of_some _ e, turn_str y _ _ t hn, ⟨_, Heap.get?_push_size _ rfl, rfl, rfl⟩, fun b hb => ?_, q⟩
  have e : b = s1.heap.objs.size := by simpa using hb
  subst e
  exact I1.fpOk (Nat.le_refl _) (I1.hok.fresh (Nat.le_refl _))
end
theorem comp_str {x : Str} {g : TG} {tt : TT} {te : TE} {n : Nat} {fr : St} {D : Addr} {Q : Hp → Prop} {H1 : Hp} (Pv : Nat → List V → Hp → Prop) (h0 : Pv 0 [] H1) (hl : ∀ i acc H, i ≤ x.length → Pv i acc H → H D = some (.lst acc) ∧ acc.length ≤ i) (hz : x.length ≤ sizeLine)
    (hs : ∀ i acc H, i < x.length → Pv i acc H → g (signV x i) (List.replicate n none ++ fr) H fun σ2 H2 => σ2.drop n = fr ∧ tt σ2 H2 fun b H3 =>
      if b = true then te σ2 H3 fun v H4 => H4 D = some (.lst acc) ∧ Pv (i + 1) (acc ++ [v]) (upd H4 D (.lst (acc ++ [v]))) else Pv (i + 1) acc H3)
    (hd : ∀ acc H, Pv x.length acc H → Q H) : CompLoop (Its x) g tt te n fr D Q H1 := by
  refine ⟨fun i k acc H => k = x.length - i ∧ i ≤ x.length ∧ Pv i acc H, ⟨x.length, by simp, Nat.zero_le _, h0⟩, ?_⟩
  rintro i k acc H ⟨rfl, hi, p⟩
  obtain ⟨hD, ha⟩ := hl i acc H hi p
  refine ⟨hD, ?_⟩
  by_cases hlt : i < x.length
  · refine .inr ⟨hlt, by (first | lia | omega), Pv (i + 1), fun acc' H' p' => ⟨x.length - (i + 1), by (first | lia | omega), rfl, hlt, p'⟩, fun v H' y => ?_⟩
    obtain ⟨e, y⟩ := y
    subst e y
    exact hs i acc _ hlt p
  · have e : i = x.length := by (first | lia | omega)
    subst e
    exact .inl ⟨Nat.le_refl _, hd acc H p⟩
section
variable {X : Cx}
theorem pe_gstr {x v : Str} {pos : Pos} (hg : Gl X x) (h : ∃ t, X.mg x = some (.str v t)) (hd : (x == ("__debug__" : Str)) = false := by decide) : PE X (.Name x pos) (tC (.str v)) := by
  obtain ⟨t, e⟩ := h
  exact pe_glob hg e ⟨t, rfl⟩ hd
theorem ixStr (_ : PySem.W.Frag) : IxR X rIxS := ix_str
theorem pi_strK (_ : PySem.W.Frag) {tg l : Expr} {tl : TE} (hl : PE X l tl) : PI X tg l (iStr tl) := pi_str hl
end
end L2

namespace L2
open PySem PySem.Spec PyProof.Rows
open AutoSeq1 (wpAny_loadPart')
set_option maxRecDepth 100000 in
theorem enum_new1 (l : Addr) (items : Array Value) (n : Nat) (dct : Option Addr) (sl : Array (Option Value)) (t : Tok) :
    Meets (Builtin.«enumerate.__new__» ⟨[.type "enumerate", .ref l], [(Str.ofString "start", .int 1 t)]⟩) (fun _ R s => s.heap.get? l = some { cls := .type "list", dict := dct, data := .seq items n, slots := sl } ∧
      R (.ok (.ret (.ref (s.heap.push { cls := .type "list_iterator", data := .fields #[.ref l, .int 0 0] }).objs.size)))
        { s with heap := (s.heap.push { cls := .type "list_iterator", data := .fields #[.ref l, .int 0 0] }).push { cls := .type "enumerate", data := .fields #[.none, .bool false, .ref s.heap.objs.size, rawInt 1, .none, .none] } }) :=
  .of_wp fun prog w A R s h => by
    obtain ⟨hp, g, d, tk, os⟩ := s
    obtain ⟨hl, h⟩ := h
    have hsub := sub_enumerate
    have isL : Heap.IsList (Shared.heap ⟨hp, g, d, tk, os⟩) l items := ⟨_, hl, rfl, n, rfl⟩
    wp_walk using wpAny_loadPart' hl
    refine wpAny_stack_any fun st => wpAny_pure ?_
    split
    · rename_i c _ _ _ _ _
      cases (c == Value.type "enumerate") <;> (wp_walk using wpAny_loadPart' hl, wpAny_pyIter_list isL) <;> exact ⟨_, rfl, h⟩
    · wp_walk using wpAny_loadPart' hl, wpAny_pyIter_list isL
      exact ⟨_, rfl, h⟩
theorem enum_type1 (a : Value) (t : Tok) : checkTypeCall "enumerate" ⟨[a], [(Str.ofString "start", .int 1 t)]⟩ = pure () := by kernel_rfl
theorem enum_call1 (a : Value) (t : Tok) : checkBuiltinCall "enumerate.__new__" ⟨[.type "enumerate", a], [(Str.ofString "start", .int 1 t)]⟩ = pure () := by kernel_rfl
end L2
namespace L2
open PySem PySem.Spec PyProof.Rows
theorem enum_init1 (obj a : Value) (t : Tok) : argsOk "object.__init__" ⟨[obj, a], [(Str.ofString "start", .int 1 t)]⟩ := by
  unfold argsOk
  kernel_rfl
theorem enum_initm (self a : Value) (t : Tok) : Meets (Builtin.«object.__init__» ⟨[self, a], [(Str.ofString "start", .int 1 t)]⟩) (fun _ R s => s.TypeIs self "enumerate" ∧ R (.ok (.ret .none)) s) := by
  refine Meets.of_wp fun prog w A R s hs => ?_
  obtain ⟨hT, hq⟩ := hs
  have hl := F.called_enumerate.init.lookup
  have hm := F.called_enumerate.made
  have hne : (some "enumerate.__new__" != some "object.__new__") = true := by decide
  repeat (any_goals (first | assumption | wp_step))
  exact ⟨_, rfl, hq⟩
section
variable {prog : Program} {w : World} {A : Around} {E : Value → Shared → Prop} {s : Shared}
theorem call_enum1 {l : Addr} {items : Array Value} {t : Tok} {Q : Value → Shared → Prop} (hL : s.heap.IsList l items)
    (h : ∀ h', IsEnum h' (s.heap.objs.size + 1) s.heap.objs.size 1 .none → h'.IsListIter s.heap.objs.size l 0 → (∀ b o, s.heap.get? b = some o → h'.get? b = some o) → Q (.ref (s.heap.objs.size + 1)) { s with heap := h' }) :
    wpAny (model prog w) A (call (.type "enumerate") [.ref l] [(Str.ofString "start", .int 1 t)]) Q E s := by
  obtain ⟨⟨c, dct, dt, sl⟩, hl, hc, n, hd⟩ := hL
  have hc : c = .type "list" := hc
  have hd : dt = .seq items n := hd
  subst hc hd
  obtain ⟨c, tl, hmro⟩ := F.called_enumerate.mro
  have hmade := F.called_enumerate.made
  have hsub := F.called_enumerate.sub
  refine wpAny_call (codeAny_of_tree ?_)
  show wpAny _ _ (callAny (.type "enumerate") _) _ _ _
  refine wpAny_pure ⟨Code.quiet_builtin _ (by decide +kernel), codeAny_builtin F.entry_type_call ?_⟩
  rw [Around.under_plain (weight_type_call_type "enumerate" [.ref l] [(Str.ofString "start", .int 1 t)]) (units_type_call_type "enumerate" [.ref l] [(Str.ofString "start", .int 1 t)])]
  have h1 := F.called_enumerate.notType
  have h2 := F.called_enumerate.canCreate
  have hct := enum_type1 (.ref l) t
  repeat (any_goals (first | assumption | wp_step))
  have sz : (s.heap.push { cls := .type "list_iterator", data := .fields #[.ref l, .int 0 0] }).objs.size = s.heap.objs.size + 1 := Heap.size_push ..
  refine codeAny_mono (codeAny_call_builtin F.called_enumerate.plain F.entry_enumerate_new (wpAny_of_eq (enum_call1 (.ref l) t) (enum_new1 l items n dct sl t prog w A.in1 (wants (fun obj s₁ => s₁.TypeIs obj "enumerate" ∧ Q obj s₁) E) s ⟨hl, ?_⟩))) fun r s₁ hr => ?_
  · have he : IsEnum ((s.heap.push { cls := .type "list_iterator", data := .fields #[.ref l, .int 0 0] }).push { cls := .type "enumerate", data := .fields #[.none, .bool false, .ref s.heap.objs.size, rawInt 1, .none, .none] }) (s.heap.objs.size + 1) s.heap.objs.size 1 .none := sz ▸ Heap.get?_push_size _ rfl
    rw [sz]
    exact ⟨⟨_, he, rfl⟩, h _ he ⟨_, Heap.get?_push_of_some _ (Heap.get?_push_size _ rfl), rfl, rfl⟩ fun b o q => Heap.get?_push_of_some _ (Heap.get?_push_of_some _ q)⟩
  cases r with
  | error e => exact hr
  | ok fl =>
    cases fl with
    | ret obj =>
      obtain ⟨hT, hq⟩ := hr
      have hli := F.called_enumerate.init.lookup
      have hbi := F.called_enumerate.init.bind obj
      repeat (any_goals (first | assumption | wp_step))
      refine codeAny_mono (codeAny_call_builtin F.called_enumerate.init.plain F.entry_object_init (F.called_enumerate.init.check _ _ _ _ _ _ _ _ hT (enum_init1 obj (.ref l) t) (enum_initm obj (.ref l) t prog w A.in1 (wants (fun r s₂ => r = .none ∧ Q obj s₂) E) s₁ ⟨hT, rfl, hq⟩))) fun r₂ s₂ hr₂ => ?_
      cases r₂ with
      | error e => exact hr₂
      | ok fl₂ =>
        cases fl₂ with
        | ret r =>
          obtain ⟨rfl, hq⟩ := hr₂
          repeat (any_goals (first | assumption | wp_step))
        | _ => exact hr₂.elim
    | _ => exact hr.elim
end
section
variable {prog : Program} {w : World} {A : Around} {E : Value → Shared → Prop} {s : Shared}
set_option maxHeartbeats 1000000 in
theorem enum_step {ee iz ll : Addr} {i : Nat} {c : Int} {its : Array Value} {xv ow : Value} {Q : Value → Shared → Prop}
    (en : IsEnum s.heap ee iz c ow) (li : s.heap.IsListIter iz ll i) (ls : s.heap.IsList ll its) (xat : its[i]? = some xv) (apart : ee ≠ iz)
    (kk : ∀ h', IsEnumOut h' ee iz (c + 1) xv s.heap.objs.size → h'.IsListIter iz ll (i + 1) → h'.get? s.heap.objs.size = some { cls := .type "tuple", data := .seq #[.int c s.toks, xv] } → h'.objs.size = s.heap.objs.size + 1 →
      (∀ b o, b ≠ ee → b ≠ iz → s.heap.get? b = some o → h'.get? b = some o) → Q (.ref s.heap.objs.size) { s with heap := h', toks := s.toks + 1 }) :
    wpAny (model prog w) A (Builtin.«enumerate.__next__» ⟨[.ref ee], []⟩) (fun fin s' => ∃ v, fin = .done (.ret v) ∧ Q v s') E s := by
  obtain ⟨m0, g, d, tk, os⟩ := s
  have below : ee < m0.objs.size := Heap.lt_size en
  have b2 : iz < m0.objs.size := by obtain ⟨_, q, _⟩ := li; exact Heap.lt_size q
  show wpAny _ _ (field (.ref ee) 2 >>= _) _ _ _
  refine wpAny_bind (wpAny_field en rfl rfl (wpAny_bind (wpAny_nextOf_list_item li ls xat fun m1 li1 sb1 => ?_)))
  have sz1 : m1.objs.size = m0.objs.size := sb1.1
  have en1 : m1.get? ee = _ := (sb1.2 ee apart).trans en
  refine wpAny_bind (wpAny_field en1 rfl rfl ?_)
  refine wpAny_bind (wpAny_field en1 rfl rfl ?_)
  refine wpAny_bind (wpAny_mkInt (wpAny_bind (wpAny_setField_rec en1 (by simp) fun m2 en2 sb2 => wpAny_bind (wpAny_setField_rec en2 (by simp) fun m3 en3 sb3 => wpAny_bind (wpAny_newTuple ?_)))))
  have sb13 : Heap.SameBut ee m1 m3 := Heap.SameBut.trans sb2 sb3
  have sz3 : m3.objs.size = m0.objs.size := sb13.1.trans sz1
  have en4 := Heap.get?_push_of_some ({ cls := .type "tuple", data := .seq #[.int c tk, xv] } : Obj) en3
  unfold Builtin.SmallTypes.ownedTupleIsFree Builtin.SmallTypes.ownedTupleHandOut
  refine wpAny_bind (wpAny_bind (wpAny_field en4 rfl rfl (wpAny_pure ?_)))
  refine wpAny_bind (wpAny_rule (wpAny_bind (wpAny_field en4 rfl rfl (wpAny_bind (wpAny_setField_rec en4 (by simp) fun m5 en5 sb5 => wpAny_bind (wpAny_bind (wpAny_setField_rec en5 (by simp) fun m6 en6 sb6 => wpAny_setField_rec en6 (by simp) fun m7 en7 sb7 => wpAny_bind (wpAny_letGo (wpAny_pure ⟨_, rfl, ?_⟩)))))))))
  have sb47 : Heap.SameBut ee _ m7 := (Heap.SameBut.trans sb5 sb6).trans sb7
  have old : ∀ b o, b ≠ ee → m1.get? b = some o → m7.get? b = some o := fun b o n q => (sb47.2 b n).trans (Heap.get?_push_of_some _ ((sb13.2 b n).trans q))
  have en8 : IsEnumOut m7 ee iz (c + 1) xv m3.objs.size := en7
  rw [sz3] at en8
  show Q (.ref m3.objs.size) _
  rw [sz3]
  refine kk m7 en8 ?_ ?_ ?_ fun b o n1 n2 q => old b o n1 ((sb1.2 b n2).trans q)
  · obtain ⟨oi, g1, c1, d1⟩ := id li1
    exact ⟨oi, old iz oi (Ne.symm apart) g1, c1, d1⟩
  · refine (sb47.2 _ (Nat.ne_of_gt below)).trans ?_
    show (m3.push _).get? m0.objs.size = _
    rw [← sz3]
    exact Heap.get?_push_size _ rfl
  · rw [sb47.1]
    show (m3.push _).objs.size = _
    rw [Heap.size_push, sz3]
theorem enum_item {ee iz ll : Addr} {i : Nat} {c : Int} {its : Array Value} {xv ow : Value} {Q : Option Value → Shared → Prop}
    (en : IsEnum s.heap ee iz c ow) (li : s.heap.IsListIter iz ll i) (ls : s.heap.IsList ll its) (xat : its[i]? = some xv) (apart : ee ≠ iz)
    (kk : ∀ h', IsEnumOut h' ee iz (c + 1) xv s.heap.objs.size → h'.IsListIter iz ll (i + 1) → h'.get? s.heap.objs.size = some { cls := .type "tuple", data := .seq #[.int c s.toks, xv] } → h'.objs.size = s.heap.objs.size + 1 →
      (∀ b o, b ≠ ee → b ≠ iz → s.heap.get? b = some o → h'.get? b = some o) → Q (some (.ref s.heap.objs.size)) { s with heap := h', toks := s.toks + 1 }) : wpAny (model prog w) A (pyNext (.ref ee)) Q E s := by
  have ty : s.TypeIs (.ref ee) "enumerate" := ⟨_, en, rfl⟩
  rw [pyNext]
  exact wpAny_bind (wpAny_attempt (wpAny_callSpecial?_slot (name := Str.ofString "__next__") ty F.slot_enumerate_next (wpAny_call_entry F.slot_enumerate_next ty F.entry_enumerate_next (enum_step en li ls xat apart fun h' b1 b2 b3 b4 b5 => wpAny_pure (kk h' b1 b2 b3 b4 b5)) (F.args_enumerate_next_1 _))))
theorem enum_end {ee iz ll : Addr} {i : Nat} {c : Int} {its : Array Value} {ow : Value} {Q : Option Value → Shared → Prop} (hh : A.handled = none) (en : IsEnum s.heap ee iz c ow) (li : s.heap.IsListIter iz ll i) (ls : s.heap.IsList ll its) (off : its[i]? = none)
    (kk : ∀ h', Heap.ExtBut iz s.heap h' → Q none { s with heap := h' }) : wpAny (model prog w) A (pyNext (.ref ee)) Q E s := by
  have ty : s.TypeIs (.ref ee) "enumerate" := ⟨_, en, rfl⟩
  rw [pyNext]
  refine wpAny_bind (wpAny_attempt (wpAny_callSpecial?_slot (name := Str.ofString "__next__") ty F.slot_enumerate_next (wpAny_call_entry F.slot_enumerate_next ty F.entry_enumerate_next ?_ (F.args_enumerate_next_1 _))))
  show wpAny _ _ (field (.ref ee) 2 >>= _) _ _ _
  refine wpAny_bind (wpAny_field en rfl (x := .ref iz) rfl (wpAny_bind (wpAny_nextOf_list_end hh li ls off fun h' ex q1 q2 => ?_)))
  obtain ⟨o, ho, hc⟩ := q2
  exact wpAny_bind (wpAny_isInstance (T := "StopIteration") (b := true) ⟨o, ho, hc⟩ isSubtype_stop (wpAny_pure (kk _ q1)))
end
def IteS (K : PySem.W.Frag) (a : Addr) : It :=
  ⟨fun i H => ∃ xs x, SqL K H a xs ∧ xs[i]? = some x, fun i H v H' => ∃ T x, v = .ref T ∧ H T = none ∧ H' = upd H T (.tup [.int ((i : Int) + 1), x]) ∧ ∀ xs, SqL K H a xs → xs[i]? = some x, fun i H => ∃ xs, SqL K H a xs ∧ xs.length ≤ i⟩
theorem turn_enumS {P : Program} {w : World} {K : PySem.W.Frag} {elts : List Expr} {k : Nat} {pos : Pos} (a e it : Addr) (hne : e ≠ it) :
    Turn P w K (.Tuple elts k pos) (IteS K a) [e, it] e (fun i h => (∃ old, IsEnum h e it ((i : Int) + 1) old) ∧ h.IsListIter it a i) where
  mem := by simp
  obj := fun i h st b hb => by
    obtain ⟨⟨old, he⟩, o, ho, c, d⟩ := st
    have hb' : b = e ∨ b = it := by simpa using hb
    rcases hb' with rfl | rfl
    · exact ⟨_, he, fun v z => by cases z⟩
    · exact ⟨o, ho, fun v z => by rw [d] at z; cases z⟩
  keep := fun i h h' st k => by
    obtain ⟨⟨old, he⟩, hit⟩ := st
    exact ⟨⟨old, k e (by simp) _ he⟩, hit.at fun o x => k it (by simp) o x⟩
  item := by
    intro X hP hw hK hc i pins s σ H E I hf st hg
    subst hP hw hK
    obtain ⟨xs, x, hq, hx⟩ := hg
    obtain ⟨its, rv, p, hz⟩ := I.list hq
    obtain ⟨u, hu, ru⟩ := rv.get hx
    obtain ⟨⟨old, he⟩, hit⟩ := st
    refine enum_item he hit p.isList (xv := u) (by simpa using hu) hne fun h1 ho hit1 hT hsz hk => ?_
    refine ⟨_, rfl, wpAny_letOwnedTupleGo_enum ho fun h2 he2 hs2 => ?_⟩
    have hTe : s.heap.objs.size ≠ e := Nat.ne_of_gt (Heap.lt_size he)
    have hT2 : h2.get? s.heap.objs.size = some { cls := .type "tuple", data := .seq #[.int ((i : Int) + 1) s.toks, u] } := (hs2.2 _ hTe).trans hT
    refine ⟨.ref s.heap.objs.size, upd H s.heap.objs.size (.tup [.int ((i : Int) + 1), x]), I.yields (wr := [e, it]) (t' := s.toks + 1) (fun b o hb q => ?_) hf (Nat.le_refl _) ?_, rfl, ⟨_, x, rfl, I.fresh, rfl, fun ys hy => by rw [I.list_inj hy hq]; exact hx⟩, ⟨⟨u, by simpa using he2⟩, ?_⟩, fun b hb => ?_⟩
    · have h1' : b ≠ e := fun z => hb (by simp [z])
      have h2' : b ≠ it := fun z => hb (by simp [z])
      exact (hs2.2 b h1').trans (hk b o h1' h2' q)
    · exact ⟨dl rfl, [.int ((i : Int) + 1) s.toks, u], .cons ⟨_, rfl⟩ (.cons ru .nil), ⟨_, hT2, rfl, _, rfl⟩⟩
    · exact hit1.at fun o q => (hs2.2 it (Ne.symm hne)).trans q
    · rw [upd_ne]
      · exact (hf b hb).1
      · have hb' : b = e ∨ b = it := by simpa using hb
        rcases hb' with rfl | rfl
        · exact Ne.symm hTe
        · obtain ⟨o, q, _⟩ := hit
          exact Nat.ne_of_lt (Heap.lt_size q)
  done := by
    intro X hP hw hK hc i pins s σ H E I hf st hg
    subst hP hw hK
    obtain ⟨xs, hq, hx⟩ := hg
    obtain ⟨its, rv, p, hz⟩ := I.list hq
    obtain ⟨⟨old, he⟩, hit⟩ := st
    obtain ⟨f0, f1, f2, f3, f4, f5⟩ := hf it (by simp)
    have hl := rv.length
    exact enum_end (I.ok.hd hc) he hit p.isList (by simp; (first | lia | omega)) fun h' eb => ⟨rfl, I.turned (t' := s.toks) (fun b o hb e => eb b o hb e) f0 f1 f3 f4 f5⟩
  self := fun _ _ _ _ _ st h => by
    obtain ⟨⟨old, he⟩, _⟩ := st
    exact wpAny_pyIter_enum he h
section
variable {X : Cx} {elts : List Expr} {n : Nat} {tp : Pos}
def iEnumS (K : PySem.W.Frag) (ta : TA) : TI := fun σ H R => ta σ H fun vs H1 => ∃ a, vs = [.ref a] ∧ (∃ xs, SqL K H1 a xs) ∧ R (IteS K a) H1
theorem callWith_enum1 {M : Model} {A : Around} {E : Value → Shared → Prop} {s : Shared} {env : Env} {pos cp kp : Pos} {cj} {e : Expr} {Q : Value → Shared → Prop}
    (h : wpAny M A (spliced (backTo pos (starEach [e] env))) (fun vs s1 => ∀ t, wpAny M A (call (.type "enumerate") vs [(Str.ofString "start", .int 1 t)]) Q E { s1 with toks := s1.toks + 1 }) E s)
    (hs : starEach [e] env = [(false, eval e env)] := by rfl) :
    wpAny M A (callWith pos (.type "enumerate") [] (backTo pos (starEach [e] env)) (backToKw pos (keywordEach [⟨some (Str.ofString "start"), .Constant (.int 1) cj cp, kp⟩] env))) Q E s := by
  unfold callWith
  refine wpAny_bind (wpAny_holding (wpAny_mono (Q := fun a s1 => wpAny M A (call (.type "enumerate") a.pos a.kw) Q E s1) ?_ (fun a s1 h1 => wpAny_bind (wpAny_standAt ?_)) fun _ _ q => q))
  · rw [hs] at h ⊢
    refine PyProof.Rows.evalArgs_kwB rfl (wpAny_mono h (fun vs s1 h1 => PyProof.Rows.kws_cons (wpAny_Constant_int (PyProof.Rows.kws_nil (h1 _)))) fun _ _ q => q)
  · rw [hs]
    refine wpAny_bind (wpAny_pure ?_)
    exact wpAny_bind (wpAny_mono h1 (fun r s2 hr => wpAny_bind (wpAny_holding (wpAny_point (wpAny_pure hr)))) fun _ _ q => q)
theorem pi_enumS (K : PySem.W.Frag) {a : Expr} {ta : TA} {p pos cp kp : Pos} {cj} (hg : Gl X "enumerate") (hm : X.mg "enumerate" = none) (ha : PA X [a] ta) (hs : starEach [a] X.env = [(false, eval a X.env)] := by rfl) (hK : X.K = K := by rfl) :
    PI X (.Tuple elts n tp) (.Call (.Name "enumerate" p) [a] [⟨some (Str.ofString "start"), .Constant (.int 1) cj cp, kp⟩] pos) (iEnumS K ta) := by
  subst hK
  intro pins s σ H R I h
  refine wpAny_Call_Name_kw (ld_blt I hg hm boot_enumerate (callWith_enum1 (thn (ha pos pins s σ H _ I h) fun us s1 ⟨vs, H1, I1, r1, q1⟩ t => ?_) hs))
  obtain ⟨a, e, ⟨xs, hq⟩, q⟩ := q1
  subst e
  cases r1 with
  | cons r rr =>
    cases rr
    cases r
    obtain ⟨its, rv, pl, hz⟩ := I1.list hq
    refine call_enum1 (s := { s1 with toks := s1.toks + 1 }) pl.isList fun h' he hit hk => ?_
    have I2 : Inv X pins σ H1 { s1 with heap := h', toks := s1.toks + 1 } := I1.kept (t' := s1.toks + 1) hk
    refine wpAny_pyIter_enum he ⟨_, [s1.heap.objs.size + 1, s1.heap.objs.size], _, _, H1, rfl, I2, turn_enumS a _ _ (Nat.succ_ne_self _), ⟨⟨_, he⟩, hit⟩, fun b hb => ?_, q⟩
    have hbs : s1.heap.objs.size ≤ b := by
      rcases (show b = s1.heap.objs.size + 1 ∨ b = s1.heap.objs.size by simpa using hb) with z | z
      · rw [z]; exact Nat.le_succ _
      · rw [z]; exact Nat.le_refl _
    exact I1.fpOk hbs (I1.hok.fresh hbs)
end
section
variable {K : PySem.W.Frag} {a b : Addr} {xs ys : List V} {g : TG}
theorem for_enumS {tb : TS} {D : Ends} {σ : St} {H : Hp} (Pv : Nat → St → Hp → Prop) (h0 : Pv 0 σ H) (hl : ∀ i σ H, i ≤ xs.length → Pv i σ H → SqL K H a xs)
    (hs : ∀ i x T σ H, xs[i]? = some x → Pv i σ H → H T = none → g (.ref T) σ (upd H T (.tup [.int ((i : Int) + 1), x])) fun σ2 H2 => tb { D with nx := Pv (i + 1), ct := Pv (i + 1), bk := D.nx } σ2 H2) (hd : ∀ σ H, Pv xs.length σ H → D.nx σ H) :
    ∃ W : Nat → Nat → St → Hp → Prop, (∃ m, W 0 m σ H) ∧ ∀ i m σ H, W i m σ H →
      ((IteS K a).stop i H ∧ D.nx σ H) ∨ ((IteS K a).go i H ∧ ∃ N : St → Hp → Prop, (∀ σ' H', N σ' H' → ∃ m', m' < m ∧ W (i + 1) m' σ' H') ∧ ∀ x H', (IteS K a).yld i H x H' → g x σ H' fun σ2 H2 => tb { D with nx := N, ct := N, bk := D.nx } σ2 H2) := by
  refine ⟨fun i m σ H => m = xs.length - i ∧ i ≤ xs.length ∧ Pv i σ H, ⟨xs.length, by simp, Nat.zero_le _, h0⟩, ?_⟩
  rintro i m σ H ⟨rfl, hi, p⟩
  have q := hl i σ H hi p
  by_cases hlt : i < xs.length
  · refine .inr ⟨⟨xs, xs[i], q, by simp [hlt]⟩, Pv (i + 1), fun σ' H' p' => ⟨xs.length - (i + 1), by (first | lia | omega), rfl, hlt, p'⟩, fun v H' y => ?_⟩
    obtain ⟨T, x, rfl, hT, rfl, y⟩ := y
    exact hs i x T σ _ (y xs q) p hT
  · have e : i = xs.length := by (first | lia | omega)
    subst e
    exact .inl ⟨⟨xs, q, Nat.le_refl _⟩, hd σ H p⟩
end
end L2

namespace Tx
open PySem
theorem str_ext {a b : Str} (h : a.cps.toList = b.cps.toList) : a = b := by
  cases a; cases b
  exact congrArg Str.mk (Array.toList_inj.mp h)
def numS (n : Nat) : Str := Str.ofString (toString (n : Int))
theorem num_signs (n : Nat) : (numS n).cps.toList = (Nat.toDigits 10 n).map Char.toNat := PySem.W.KIN.signs_num n
theorem digit_in {c : Nat} {n : Nat} (h : c ∈ (numS n).cps.toList) : 48 ≤ c ∧ c ≤ 57 := by
  rw [num_signs] at h
  obtain ⟨ch, hch, e⟩ := List.mem_map.mp h
  rw [← e]
  exact PyProof.Rows.digit_range (Nat.isDigit_of_mem_toDigits (by decide) (by decide) hch)
theorem num_len (n : Nat) : 1 ≤ (numS n).length := by
  have h : (numS n).length = (numS n).cps.toList.length := by simp [Str.length]
  rw [h, num_signs, List.length_map]
  exact PyProof.Rows.tDigits_len_ge 10 n
theorem num_len_le {n k : Nat} (hk : 1 ≤ k) (h : n < 10 ^ k) : (numS n).length ≤ k := by
  have e : (numS n).length = (numS n).cps.toList.length := by simp [Str.length]
  rw [e, num_signs, List.length_map]
  exact PyProof.Rows.digits10_le hk h
theorem num_read {n : Nat} (h : n < 10 ^ 60) : PySem.intText? (numS n) = some (n : Int) := by
  have hl := num_len_le (k := 60) (by decide) h
  have hd : PySem.NumText.AllDigits (numS n).cps.toList := fun c hc => digit_in hc
  have hne : (numS n).cps.toList ≠ [] := fun e => by
    have z := num_len n
    have y : (numS n).length = (numS n).cps.toList.length := by simp [Str.length]
    rw [y, e] at z
    exact absurd z (by decide)
  have e := PySem.intText_digits hd hne (Nat.le_trans hl (by decide))
  rw [num_signs, PySem.W.KIN.val_back] at e
  exact e
theorem num_first (n : Nat) : (numS n).cps.toList[0]? = some 48 → n = 0 := by
  rw [num_signs, List.getElem?_map]
  induction n using Nat.strongRecOn with
  | _ m ih =>
    by_cases h : m < 10
    · rw [Nat.toDigits_of_lt_base h]
      intro q
      have q : (Nat.digitChar m).toNat = 48 := by simpa using q
      have : ∀ d : Nat, d < 10 → (Nat.digitChar d).toNat = 48 → d = 0 := by decide
      exact this m h q
    · have hm : m % 10 < 10 := Nat.mod_lt m (by decide)
      have t : Nat.toDigits 10 (m / 10) ++ Nat.toDigits 10 (m % 10) = Nat.toDigits 10 (10 * (m / 10) + m % 10) := Nat.toDigits_append_toDigits (by decide) (by (first | lia | omega)) hm
      rw [Nat.div_add_mod] at t
      rw [← t]
      intro q
      have hl := PyProof.Rows.tDigits_len_ge 10 (m / 10)
      rw [List.getElem?_append_left (by (first | lia | omega))] at q
      have := ih (m / 10) (by (first | lia | omega)) q
      (first | lia | omega)
theorem num_zero : numS 0 = Str.ofString "0" := by decide +kernel
def joinL (c : Nat) : List (List Nat) → List Nat
  | [] => []
  | [x] => x
  | x :: y :: r => x ++ c :: joinL c (y :: r)
theorem join_signs (c : Nat) : ∀ ss : List Str, (Str.join ⟨#[c]⟩ ss).cps.toList = joinL c (ss.map (·.cps.toList))
  | [] => rfl
  | [x] => rfl
  | x :: y :: r => by
    show ((x ++ ⟨#[c]⟩ ++ Str.join ⟨#[c]⟩ (y :: r)) : Str).cps.toList = _
    rw [PySem.W.KT.app_list, PySem.W.KT.app_list, join_signs c (y :: r)]
    show (x.cps.toList ++ [c]) ++ _ = x.cps.toList ++ c :: _
    rw [List.append_assoc]
    rfl
theorem first_part {c : Nat} : ∀ {x y r s : List Nat}, c ∉ x → c ∉ y → x ++ c :: r = y ++ c :: s → x = y ∧ r = s
  | [], [], _, _, _, _, h => ⟨rfl, (List.cons.inj h).2⟩
  | [], b :: y, _, _, _, hy, h => absurd (by rw [(List.cons.inj h).1]; exact List.mem_cons_self) hy
  | a :: x, [], _, _, hx, _, h => absurd (by rw [← (List.cons.inj h).1]; exact List.mem_cons_self) hx
  | a :: x, b :: y, _, _, hx, hy, h => by
    obtain ⟨h1, h2⟩ := List.cons.inj h
    obtain ⟨h3, h4⟩ := first_part (fun z => hx (List.mem_cons_of_mem _ z)) (fun z => hy (List.mem_cons_of_mem _ z)) h2
    exact ⟨by rw [h1, h3], h4⟩
theorem free_not {c : Nat} {x y r : List Nat} (hy : c ∉ y) (h : x ++ c :: r = y) : False := hy (by rw [← h]; exact List.mem_append_right _ List.mem_cons_self)
theorem joinL_inj {c : Nat} : ∀ {ps qs : List (List Nat)}, ps ≠ [] → qs ≠ [] → (∀ p ∈ ps, c ∉ p) → (∀ q ∈ qs, c ∉ q) → joinL c ps = joinL c qs → ps = qs
  | [], _, h, _, _, _, _ => absurd rfl h
  | _ :: _, [], _, h, _, _, _ => absurd rfl h
  | [p], [q], _, _, _, _, h => by rw [show p = q from h]
  | [p], q :: q' :: qs, _, _, hp, _, h => (free_not (hp p List.mem_cons_self) (show q ++ c :: joinL c (q' :: qs) = p from h.symm)).elim
  | p :: p' :: ps, [q], _, _, _, hq, h => (free_not (hq q List.mem_cons_self) (show p ++ c :: joinL c (p' :: ps) = q from h)).elim
  | p :: p' :: ps, q :: q' :: qs, _, _, hp, hq, h => by
    obtain ⟨h1, h2⟩ := first_part (hp p List.mem_cons_self) (hq q List.mem_cons_self) (show p ++ c :: joinL c (p' :: ps) = q ++ c :: joinL c (q' :: qs) from h)
    rw [h1, joinL_inj (by simp) (by simp) (fun x hx => hp x (List.mem_cons_of_mem _ hx)) (fun x hx => hq x (List.mem_cons_of_mem _ hx)) h2]
theorem map_inj : ∀ {a b : List Str}, a.map (·.cps.toList) = b.map (·.cps.toList) → a = b
  | [], [], _ => rfl
  | [], _ :: _, h => nomatch h
  | _ :: _, [], h => nomatch h
  | x :: a, y :: b, h => by
    obtain ⟨h1, h2⟩ := List.cons.inj h
    rw [str_ext h1, map_inj h2]
theorem split_some (x y : Str) : Txt.split x y ≠ [] := fun h => by
  have e := PySem.StrLaws.join_split x y
  unfold Txt.split at h
  split at h
  · cases h
  · split at h
    · cases h
    · unfold Builtin.Str.partsBetween at h
      have z := congrArg List.length h
      rw [List.length_map, List.length_zip] at z
      simp at z
theorem split_join {c : Nat} {ss : List Str} (hn : ss ≠ []) (hf : ∀ s ∈ ss, c ∉ s.cps.toList) : Txt.split (Txt.join ⟨#[c]⟩ ss) ⟨#[c]⟩ = ss := by
  have e : Txt.join ⟨#[c]⟩ ss = Str.join ⟨#[c]⟩ ss := PySem.StrLaws.glued_eq_join _ ss
  have h := PySem.StrLaws.join_split (Txt.join ⟨#[c]⟩ ss) ⟨#[c]⟩
  have h2 := congrArg (fun s => s.cps.toList) (h.trans e)
  simp only [join_signs] at h2
  have h3 := joinL_inj (c := c) (by simp [split_some]) (by simpa using hn) (fun p hp => by
    obtain ⟨s, hs, rfl⟩ := List.mem_map.mp hp
    exact PySem.StrLaws.split_free _ c s hs) (fun p hp => by
    obtain ⟨s, hs, rfl⟩ := List.mem_map.mp hp
    exact hf s hs) h2
  exact map_inj h3
end Tx

namespace L2
open PySem PySem.Spec PyProof.Rows
theorem Room.units65 {k : Nat} {A : Around} (r : Room k A) : A.units + 65 < cLine := by have := r.un; (first | lia | omega)
section
variable {X : Cx}
def noStar : Expr → Bool
  | .Starred _ _ => false
  | _ => true
theorem starEach_no {e : Expr} {es : List Expr} {env : Env} (h : noStar e = true) : starEach (e :: es) env = (false, eval e env) :: starEach es env := by
  cases e <;> first | rfl | cases h
theorem paN {e : Expr} {es : List Expr} {te : TE} {t : TA} (ha : PE X e te) (hr : PA X es t) (h : noStar e = true := by rfl) : PA X (e :: es) (tCons te t) := pa_cons ha hr (starEach_no h)
def rSlS : V → Option Int → Option Int → Hp → VK → Prop := fun x lo hi H Q => ∃ z : Str, x = .str z ∧ z.length ≤ sizeLine ∧ Q (.str (Txt.slice z lo hi)) H
theorem slS (_ : PySem.W.Frag) : SlR X rSlS := by
  intro pins s σ H x v vl vu lo hi sl Q I rx hs pl pu h
  obtain ⟨z, rfl, hz, q⟩ := h
  obtain ⟨t, rfl⟩ := rx
  refine ⟨"str", _, F.slot_str_getitem.lookup, typeIs_str _ _ _, ?_⟩
  have fin : ∀ t' k, EP X pins σ Q (.str (Txt.slice z lo hi) t') { s with toks := k } := fun t' k => ⟨.str _, H, I.tok _, ⟨t', rfl⟩, q⟩
  cases pl with
  | none =>
    cases pu with
    | none => exact wpAny_getItem_str_slice (l := none) (u := none) (st := none) hs rfl (post_val_or_str ⟨Nat.le_trans (Txt.slice_le z _ _) hz, fin⟩)
    | int j u => exact wpAny_getItem_str_slice (l := none) (u := some (j, u)) (st := none) hs rfl (post_val_or_str ⟨Nat.le_trans (Txt.slice_le z _ _) hz, fin⟩)
  | int i u' =>
    cases pu with
    | none => exact wpAny_getItem_str_slice (l := some (i, u')) (u := none) (st := none) hs rfl (post_val_or_str ⟨Nat.le_trans (Txt.slice_le z _ _) hz, fin⟩)
    | int j u => exact wpAny_getItem_str_slice (l := some (i, u')) (u := some (j, u)) (st := none) hs rfl (post_val_or_str ⟨Nat.le_trans (Txt.slice_le z _ _) hz, fin⟩)
def rInD (K : PySem.W.Frag) : R2 := fun x y H Q => ∃ d es, DatV K H x d ∧ DatV K H y (.tuple es) ∧ SeqAt.shaped d = true ∧ SeqAt.shaped (.tuple es) = true ∧ Q (.bl (es.any fun e => PyData.eqv e d)) H
theorem op_inD (K : PySem.W.Frag) (hu : X.A.units + 65 < cLine) (hK : X.K = K := by rfl) : OpR X (compareOp .In) (rInD K) := by
  subst hK
  intro pins s σ H x y v u Q I rx ry h
  obtain ⟨d, es, h1, h2, s1, s2, q⟩ := h
  obtain ⟨as, ra⟩ := h1.reads I rx
  obtain ⟨bs, rb⟩ := h2.reads I ry
  exact PySem.SeqAt.in_tuple_reads rb ra (show PyData.canLayAll0 es = true from SeqAt.canLay_of_shaped s2) (SeqAt.canLay_of_shaped s1) (by have e1 := SeqAt.depth_of_shaped s1; have e2 := Nat.min_le_right (PyData.depthAll es) d.depth; (first | lia | omega)) ⟨.bl _, H, I, rfl, q⟩
end
end L2
namespace Tx
open PySem
def intS (z : Int) : Str := Str.ofString (toString z)
theorem int_pos {z : Int} (h : 0 ≤ z) : intS z = numS z.toNat := by
  unfold intS numS
  rw [Int.toNat_of_nonneg h]
theorem int_neg {z : Int} (h : z < 0) : (intS z).cps.toList = 45 :: (numS (-z).toNat).cps.toList := by
  obtain ⟨n, rfl⟩ := Int.eq_negSucc_of_lt_zero h
  have e : (-(Int.negSucc n)).toNat = n + 1 := by (first | lia | omega)
  rw [e]
  unfold intS numS
  rw [Str.ofString_eq_toList, Str.ofString_eq_toList]
  show ((("-" ++ Nat.repr (n + 1)).toList).map Char.toNat) = 45 :: ((Nat.repr (n + 1)).toList.map Char.toNat)
  rw [String.toList_append, List.map_append]
  rfl
theorem int_len {z : Int} (h : z.natAbs < 10 ^ 60) : 1 ≤ (intS z).length ∧ (intS z).length ≤ 61 := by
  by_cases hz : 0 ≤ z
  · rw [int_pos hz]
    exact ⟨num_len _, Nat.le_trans (num_len_le (k := 60) (by decide) (by (first | lia | omega))) (by decide)⟩
  · have e : (intS z).length = (intS z).cps.toList.length := by simp [Str.length]
    have e2 : (numS (-z).toNat).length = (numS (-z).toNat).cps.toList.length := by simp [Str.length]
    have l := num_len_le (n := (-z).toNat) (k := 60) (by decide) (by (first | lia | omega))
    rw [e, int_neg (by (first | lia | omega)), List.length_cons, ← e2]
    (first | lia | omega)
theorem int_sign {c : Nat} {z : Int} (h : c ∈ (intS z).cps.toList) : c = 45 ∨ (48 ≤ c ∧ c ≤ 57) := by
  by_cases hz : 0 ≤ z
  · rw [int_pos hz] at h
    exact .inr (digit_in h)
  · rw [int_neg (by (first | lia | omega))] at h
    rcases List.mem_cons.mp h with e | h
    · exact .inl e
    · exact .inr (digit_in h)
theorem int_read {z : Int} (h : z.natAbs < 10 ^ 60) : PySem.intText? (intS z) = some z := by
  by_cases hz : 0 ≤ z
  · rw [int_pos hz, num_read (by (first | lia | omega)), Int.toNat_of_nonneg hz]
  · have ne : (numS (-z).toNat).cps.toList ≠ [] := fun e => by
      have y := num_len (-z).toNat
      have e2 : (numS (-z).toNat).length = (numS (-z).toNat).cps.toList.length := by simp [Str.length]
      rw [e2, e] at y
      exact absurd y (by decide)
    have e := PySem.intText_neg (int_neg (by (first | lia | omega))) (fun c hc => digit_in hc) ne (Nat.le_trans (int_len h).2 (by decide))
    rw [e, num_signs, PySem.W.KIN.val_back]
    congr 1
    (first | lia | omega)
theorem int_lenL (z : Int) (h : z < 0) : (intS z).cps.toList.length = (numS (-z).toNat).cps.toList.length + 1 := by
  rw [int_neg h, List.length_cons]
theorem int_first {z : Int} (h : z < 0) : Txt.slice (intS z) none (some 1) = ⟨#[45]⟩ := by
  show StrLaws.sliceText (intS z) none (some 1) = _
  rw [StrLaws.sliceText_to ⟨by (first | lia | omega), by rw [int_lenL z h]; (first | lia | omega)⟩, int_neg h]
  simp
theorem int_rest {z : Int} (h : z < 0) : Txt.slice (intS z) (some 1) none = numS (-z).toNat := by
  show StrLaws.sliceText (intS z) (some 1) none = _
  rw [StrLaws.sliceText_from ⟨by (first | lia | omega), by rw [int_lenL z h]; (first | lia | omega)⟩, int_neg h]
  show Str.mk (List.take (((((numS (-z).toNat).cps.toList.length + 1 : Nat)) : Int) - 1).toNat (numS (-z).toNat).cps.toList).toArray = _
  rw [show ((((((numS (-z).toNat).cps.toList.length + 1 : Nat)) : Int) - 1).toNat) = (numS (-z).toNat).cps.toList.length by (first | lia | omega), List.take_length]
end Tx

namespace L2
open PySem PySem.Spec PyProof.Rows
def tTryH (K : PySem.W.Frag) (C k : Nat) (tb : XK → TS) (th : TS) : TS := fun D σ H => ∃ E : XK, tb E D σ H ∧ ∀ cls od H', E cls od H' → PySem.W.exmOne K cls (.ref C) = some true ∧
  ∀ ea, H' ea = none → th { nx := D.nx, rt := D.rt } (List.replicate k none) (upd H' ea (ExcO ea cls))
section
variable {X : Cx}
theorem ps_tryH {x : Str} {C : Addr} {body rest : List Stmt} {b0 : Stmt} {np hpos pos : Pos} {tb : XK → TS} {th : TS} (K : PySem.W.Frag) (hst : X.stack = X.env :: X.outer) (hf : X.env.frame = some X.env.locals) (hexs : X.ex = [])
    (hg : Gl X x) (hm : X.mg x = some (.ref C))
    (hb : ∀ E pn xe, Passes (CX1 X.prog X.w) { X with pn := pn, xe := xe } E → PSs { X with pn := pn, xe := xe } body (tb E))
    (hh : ∀ ea pn, PSs { X with A := X.A.mark (some (.ref ea)), calm := false, pn := pn, xe := fun _ _ => False } (b0 :: rest) th) (hK : X.K = K := by rfl) (hdb : (x == ("__debug__" : Str)) = false := by decide) :
    PS X (.Try body [.ExceptHandler (some (.Name x np)) none (b0 :: rest) hpos] [] [] pos) (tTryH K C X.N.length tb th) := by
  subst hK
  intro pins s σ H D I h
  obtain ⟨E, htb, hE⟩ := h
  refine wpAny_Try_except ?_
  have hfr : X.A.frames = some (X.env :: X.outer) := by rw [I.ok.frames, hst]
  -- the body, in a context whose exceptions come here
  have I' : Inv { X with pn := X.pn ++ pins, xe := fun e s1 => ∃ pins' σ' H0 s0, Inv { X with pn := X.pn ++ pins } pins' σ' H0 s0 ∧ CX1 X.prog X.w X.stack H0 s0 E e s1 } [] σ H s :=
    I.recx (A' := X.A) (cm := X.calm) rfl I.ok.hd fun p hp => by simpa using hp
  have hpass : Passes (CX1 X.prog X.w) { X with pn := X.pn ++ pins, xe := fun e s1 => ∃ pins' σ' H0 s0, Inv { X with pn := X.pn ++ pins } pins' σ' H0 s0 ∧ CX1 X.prog X.w X.stack H0 s0 E e s1 } E := by
    intro pins' σ' H0 s0 e s1 J q
    exact ⟨pins', σ', H0, s0, J.recx (A' := X.A) (cm := X.calm) (pn' := X.pn ++ pins) rfl J.ok.hd fun p hp => hp, q⟩
  have toX : ∀ {pins' σ' H' s'}, Inv { X with pn := X.pn ++ pins } pins' σ' H' s' → Inv X pins σ' H' s' := fun {pins' σ' H' s'} J => by
    have z := J.recx (A' := X.A) (cm := X.calm) (pn' := X.pn) (pins' := pins) (xe' := X.xe) rfl J.ok.hd fun p hp => List.mem_append_left _ hp
    exact z
  have toX' : ∀ {pins' σ' H' s'} {xe' : Value → Shared → Prop}, Inv { X with pn := X.pn ++ pins, xe := xe' } pins' σ' H' s' → Inv X pins σ' H' s' := fun {pins' σ' H' s' xe'} J => by
    have z := J.recx (A' := X.A) (cm := X.calm) (pn' := X.pn) (pins' := pins) (xe' := X.xe) rfl J.ok.hd fun p hp => List.mem_append_left _ hp
    exact z
  refine wpAny_mono (hb E _ _ hpass [] s σ H D I' htb) (fun f s1 q => ?_) fun e s1 q => ?_
  · cases f with
    | next =>
      obtain ⟨σ', H', J, q⟩ := q
      exact wpAny_execs_nil ⟨σ', H', toX' J, q⟩
    | brk =>
      obtain ⟨σ', H', J, q⟩ := q
      exact ⟨σ', H', toX' J, q⟩
    | cont =>
      obtain ⟨σ', H', J, q⟩ := q
      exact ⟨σ', H', toX' J, q⟩
    | ret u =>
      obtain ⟨v, σ', H', J, r, q⟩ := q
      exact ⟨v, σ', H', toX' J, r, q⟩
  · obtain ⟨pins', σ', H0, s0, I0, ea, cls, a0, od, c, H1, B, rfl, os, bare, un, hok, hn, cov, fl, sc, qE⟩ := q
    rcases qE with ⟨rfl, _, qE⟩ | ⟨C9, e9, C8, rfl, rfl, rfl, _, qE⟩
    case inr => exact absurd (hE _ _ _ qE).1 (exm_no _ _ _ _)
    obtain ⟨hex, hth⟩ := hE cls od H1 qE
    have J1 : Inv { X with pn := X.pn ++ pins } pins' σ' H1 s1 := I0.threw os bare un hok
    have nof : ∀ b ∈ frs X.stack, H1 b = none := J1.stkFree
    have frd : ∀ {h' : Heap}, s1.heap.UpToSlots h' → ∀ b ∈ frs X.stack, ∀ ob, h'.get? b = some ob → ∀ vs, ob.data ≠ .fields vs := fun {h'} up b hb ob e vs z => by
      obtain ⟨_, o, ho, hnf⟩ := J1.stack.mem hb
      obtain ⟨sl, q⟩ := up b o ho hnf
      rw [e] at q
      cases q
      exact hnf vs z
    -- a station: the invariant again
    have at_ : ∀ {h' : Heap}, B.StaysIn h' → s1.heap.UpToSlots h' → Inv X pins σ' H1 { s1 with heap := h' } := fun {h'} hB up => by
      obtain ⟨u2, ok2, _⟩ := stays_un un hok nof (frd (Heap.UpToSlots.refl _)) cov hB up
      exact toX (I0.threw (s' := { s1 with heap := h' }) os bare u2 ok2)
    have eNo : ea ∉ frs X.stack := fun z => by
      obtain ⟨oe, vs, e, _, d, _⟩ := fl.first
      exact frd (Heap.UpToSlots.refl _) ea z oe e vs d
    have new0 : s0.heap.get? ea = none := by
      cases hz : s0.heap.get? ea with
      | none => rfl
      | some o =>
        obtain ⟨oe, vs, e, _⟩ := fl.first
        have q := cov ea oe e (.inr ⟨o, hz⟩) eNo
        rw [fl.2.1] at q
        cases q
    have fl' : Heap.FlyingW B (X.env :: X.outer) ea cls a0 s1.heap := by
      rw [hst] at fl
      exact fl
    refine note2 hfr hf fl' sc fun h4 held4 sc4 up4 => ?_
    obtain ⟨g1, g2, g3, g4⟩ := held4
    refine land2 (s := { s1 with heap := h4 }) g1 g2 g3 g4 sc4 fun h5 fl5 sc5 up5 => ?_
    have up15 := up4.trans up5
    have J5 := at_ fl5.1 up15
    have hfm : (X.A.mark (some (.ref ea))).frames = X.A.frames := rfl
    have J5' : Inv { X with A := X.A.mark (some (.ref ea)), calm := false, pn := X.pn, xe := fun _ _ => False } pins σ' H1 { s1 with heap := h5 } := J5.recx hfm (fun z => nomatch z) fun p hp => hp
    refine wpAny_handleBy_cons (codeAny_handlers_test (ld_glob J5' hg hm ?_ hdb)) (by intro q; cases q)
    obtain ⟨ob, hob, hobc⟩ := fl5.there
    have LT : PySem.W.Looks (model X.prog X.w) h5 (typeOf (.ref ea)) cls := hobc ▸ (PySem.W.Looks.ld hob).andThen .now
    refine PySem.W.Looks.here (s := { s1 with heap := h5 }) (PySem.W.exm_one (K := X.K) J5.kIn LT hex) ?_
    refine codeAny_handlers_suite ?_
    obtain ⟨k1, k2, k3, k4⟩ := fl5
    refine land2 (s := { s1 with heap := h5 }) k1 k2 k3 k4.at sc5 fun h6 fl6 sc6 up6 => ?_
    have up16 := up15.trans up6
    have J6 := at_ fl6.1 up16
    obtain ⟨oe, vs, e6, c6, d6, _⟩ := fl6.first
    have z6 : vs[2]? = some .none ∧ oe.dict = od := by
      obtain ⟨o2, v2, g2, d2, z2, y2⟩ := sc6
      rw [e6] at g2
      cases g2
      rw [d6] at d2
      cases d2
      exact ⟨z2, y2⟩
    have ne0 : ea ≠ X.env.locals := fun z => by
      obtain ⟨m, ⟨o, _, _, ho, hd, _⟩, _⟩ := J6.loc
      rw [← z] at ho
      rw [e6] at ho
      cases ho
      rw [d6] at hd
      cases hd
    have J7 : Inv X pins σ' (upd H1 ea (ExcO ea cls)) { s1 with heap := h6 } := by
      refine J6.track hn ?_ ne0 (fun y c e z => ?_) (fun p hp z => ?_) (excO_ok ⟨oe, vs, e6, c6, d6, z6.1⟩)
      · cases hz : X.s₀.heap.get? ea with
        | none => rfl
        | some o =>
          obtain ⟨o', q⟩ := I0.base.there ea o hz (show ea ∉ X.ex by rw [hexs]; simp)
          rw [new0] at q
          cases q
      · obtain ⟨v, o, ho, hd⟩ := J6.cell y c e
        rw [z, e6] at ho
        cases ho
        rw [d6] at hd
        cases hd
      · have q := (I0.pin p (List.mem_append_left _ hp)).1
        rw [z, new0] at q
        cases q
    have J8 : Inv { X with A := X.A.mark (some (.ref ea)), calm := false, pn := X.pn, xe := fun _ _ => False } pins (List.replicate X.N.length none) (upd H1 ea (ExcO ea cls)) { s1 with heap := h6 } := by
      have z : Inv X pins (List.replicate X.N.length none) (upd H1 ea (ExcO ea cls)) { s1 with heap := h6 } := J7.weak (by rw [List.length_replicate, J7.len]) fun j v e => by
        rw [List.getElem?_replicate] at e
        split at e <;> cases e
      exact z.recx hfm (fun z => nomatch z) fun p hp => hp
    refine wpAny_mono (hh ea _ pins _ _ _ _ J8 (hth ea hn)) (fun f s10 q => ?_) fun _ _ z => z.elim
    have back : ∀ {σ2 H2}, Inv { X with A := X.A.mark (some (.ref ea)), calm := false, pn := X.pn, xe := fun _ _ => False } pins σ2 H2 s10 → Inv X pins σ2 H2 s10 := fun {σ2 H2} J10 => by
      have z := J10.recx (A' := X.A) (cm := X.calm) (pn' := X.pn) (pins' := pins) (xe' := X.xe) hfm.symm I.ok.hd fun p hp => hp
      exact z
    cases f with
    | next =>
      obtain ⟨σ2, H2, J10, q⟩ := q
      exact ⟨σ2, H2, back J10, q⟩
    | brk => obtain ⟨_, _, _, q⟩ := q; exact q.elim
    | cont => obtain ⟨_, _, _, q⟩ := q; exact q.elim
    | ret u =>
      obtain ⟨v, σ2, H2, J10, r, q⟩ := q
      exact ⟨v, σ2, H2, back J10, r, q⟩
end
end L2

namespace Tx
open PySem
def IsN (x : Str) : Prop := ∃ n : Nat, n < 10 ^ 60 ∧ x = numS n
def IsZ (x : Str) : Prop := ∃ z : Int, z.natAbs < 10 ^ 60 ∧ x = intS z
noncomputable def isN (x : Str) : Bool := @decide (IsN x) (Classical.propDecidable _)
noncomputable def isZ (x : Str) : Bool := @decide (IsZ x) (Classical.propDecidable _)
theorem isN_t {x : Str} (h : IsN x) : isN x = true := by unfold isN; exact @decide_eq_true _ (Classical.propDecidable _) h
theorem isN_f {x : Str} (h : ¬ IsN x) : isN x = false := by unfold isN; exact @decide_eq_false _ (Classical.propDecidable _) h
theorem isZ_t {x : Str} (h : IsZ x) : isZ x = true := by unfold isZ; exact @decide_eq_true _ (Classical.propDecidable _) h
theorem isZ_f {x : Str} (h : ¬ IsZ x) : isZ x = false := by unfold isZ; exact @decide_eq_false _ (Classical.propDecidable _) h
theorem isN_of {x : Str} (h : isN x = true) : IsN x := by unfold isN at h; exact @of_decide_eq_true _ (Classical.propDecidable _) h
theorem isZ_of {x : Str} (h : isZ x = true) : IsZ x := by unfold isZ at h; exact @of_decide_eq_true _ (Classical.propDecidable _) h
theorem IsN.z {x : Str} (h : IsN x) : IsZ x := by
  obtain ⟨n, h1, h2⟩ := h
  exact ⟨(n : Int), by rw [Int.natAbs_natCast]; exact h1, h2⟩
theorem digit_back (d : Nat) (h : d < 10) : (Nat.digitChar d).toNat = 48 + d := by
  have : ∀ d : Nat, d < 10 → (Nat.digitChar d).toNat = 48 + d := by decide
  exact this d h
theorem num_of (k : Nat) : ∀ l : List Nat, l.length = k → (∀ c ∈ l, 48 ≤ c ∧ c ≤ 57) → l ≠ [] → (l[0]? = some 48 → l = [48]) → ∃ n, n < 10 ^ k ∧ l = (Nat.toDigits 10 n).map Char.toNat := by
  induction k with
  | zero => intro l e _ h; exact absurd (List.length_eq_zero_iff.mp e) h
  | succ k ih =>
    intro l e hd hne h0
    obtain ⟨l', c, rfl⟩ : ∃ l' c, l = l' ++ [c] := ⟨l.dropLast, l.getLast hne, (List.dropLast_concat_getLast hne).symm⟩
    have hc := hd c (by simp)
    obtain ⟨d, rfl⟩ : ∃ d, c = 48 + d := ⟨c - 48, by (first | lia | omega)⟩
    have e' : l'.length = k := by simpa using e
    by_cases hl : l' = []
    · subst hl
      refine ⟨d, ?_, ?_⟩
      · have : 10 ≤ 10 ^ (k + 1) := by
          rw [Nat.pow_succ]
          have := Nat.pow_pos (n := k) (show 0 < 10 by decide)
          (first | lia | omega)
        (first | lia | omega)
      · rw [Nat.toDigits_of_lt_base (by (first | lia | omega))]
        show [48 + d] = [(Nat.digitChar d).toNat]
        rw [digit_back d (by (first | lia | omega))]
    · have h1 : l'[0]? ≠ some 48 := fun z => by
        have z2 : (l' ++ [48 + d])[0]? = some 48 := by
          rw [List.getElem?_append_left (List.length_pos_iff.mpr hl)]
          exact z
        have y := congrArg List.length (h0 z2)
        rw [List.length_append] at y
        have := List.length_pos_iff.mpr hl
        simp at y
        exact hl y
      obtain ⟨m, hm, em⟩ := ih l' e' (fun c hc => hd c (List.mem_append_left _ hc)) hl fun z => absurd z h1
      have m0 : 0 < m := by
        rcases Nat.eq_zero_or_pos m with z | z
        · subst z
          exact absurd (by rw [em]; decide) h1
        · exact z
      refine ⟨10 * m + d, ?_, ?_⟩
      · rw [Nat.pow_succ]
        (first | lia | omega)
      · rw [← Nat.toDigits_append_toDigits (by decide) m0 (by (first | lia | omega)), List.map_append, ← em, Nat.toDigits_of_lt_base (by (first | lia | omega))]
        show l' ++ [48 + d] = l' ++ [(Nat.digitChar d).toNat]
        rw [digit_back d (by (first | lia | omega))]
theorem isN_of_signs {x : Str} (h1 : x.length ≤ 60) (h2 : x.cps.toList ≠ []) (h3 : ∀ c ∈ x.cps.toList, 48 ≤ c ∧ c ≤ 57) (h4 : x.cps.toList[0]? = some 48 → x = Str.ofString "0") : IsN x := by
  have e : x.length = x.cps.toList.length := by simp [Str.length]
  obtain ⟨n, hn, en⟩ := num_of x.cps.toList.length x.cps.toList rfl h3 h2 fun z => by
    rw [h4 z]
    decide +kernel
  refine ⟨n, Nat.lt_of_lt_of_le hn (Nat.pow_le_pow_right (by decide) (by (first | lia | omega))), str_ext ?_⟩
  rw [num_signs]
  exact en
theorem isZ_of_minus {x y : Str} (h : x.cps.toList = 45 :: y.cps.toList) (h0 : x ≠ Str.ofString "-0") (hy : IsN y) : IsZ x := by
  obtain ⟨n, hn, rfl⟩ := hy
  have n0 : n ≠ 0 := fun z => by
    subst z
    refine h0 (str_ext ?_)
    rw [h, num_zero]
    decide +kernel
  have hz : -(n : Int) < 0 := by (first | lia | omega)
  refine ⟨-(n : Int), by (first | lia | omega), str_ext ?_⟩
  rw [h, int_neg hz, show (-(-(n : Int))).toNat = n by (first | lia | omega)]
theorem minus_of {x : Str} (h : Txt.slice x none (some 1) = Str.ofString "-") : x.cps.toList = 45 :: (Txt.slice x (some 1) none).cps.toList := by
  have hd : Str.ofString "-" = ⟨#[45]⟩ := by decide +kernel
  rw [hd] at h
  by_cases hn : x.cps.toList.length = 0
  · exfalso
    have e : x = ⟨#[]⟩ := str_ext (List.length_eq_zero_iff.mp hn)
    rw [e] at h
    exact absurd h (by decide +kernel)
  · have e1 : Txt.slice x none (some 1) = _ := StrLaws.sliceText_to ⟨by (first | lia | omega), by (first | lia | omega)⟩
    have e2 : Txt.slice x (some 1) none = _ := StrLaws.sliceText_from ⟨by (first | lia | omega), by (first | lia | omega)⟩
    rw [e1] at h
    rw [e2]
    cases hx : x.cps.toList with
    | nil => rw [hx] at hn; exact absurd rfl hn
    | cons c r =>
      rw [hx] at h
      have h := congrArg (fun s : Str => s.cps.toList) h
      have hc : c = 45 := by simpa using h
      rw [hc]
      show 45 :: r = 45 :: (List.take _ r)
      rw [List.take_of_length_le]
      rw [List.length_cons]
      (first | lia | omega)
end Tx

namespace L2
open PySem PySem.Spec PyProof.Rows
def constOf : Expr → Option V
  | .Constant (.int i) _ _ => some (.int i)
  | .Constant (.str x) _ _ => some (.str x)
  | .BinOp (.Constant (.int i) _ _) .Pow (.Constant (.int j) _ _) _ => if decide (0 ≤ j) && decide (j ≤ 1000) && decide (i.natAbs ≤ 1000) then some (.int (i ^ j.toNat)) else none
  | _ => none
def constsOf : List Expr → Option (List V)
  | [] => some []
  | e :: es => (constOf e).bind fun v => (constsOf es).map fun vs => v :: vs
def tFront (vs : List V) (t : TA) : TA := fun σ H Q => t σ H fun us H1 => Q (vs ++ us) H1
def tPre (vs : List V) : TA := fun _ H Q => Q vs H
section
variable {X : Cx}
theorem pe_const {e : Expr} {v : V} (h : constOf e = some v) : PE X e (tC v) ∧ noStar e = true := by
  unfold constOf at h
  split at h
  · cases h; exact ⟨pe_int, rfl⟩
  · cases h; exact ⟨pe_str, rfl⟩
  · rename_i i _ _ j _ _ _
    split at h
    case isFalse => cases h
    rename_i hc
    cases h
    rw [Bool.and_eq_true, Bool.and_eq_true] at hc
    obtain ⟨⟨h1, h2⟩, h3⟩ := hc
    refine ⟨fun pins s σ H Q I q => pe_op op_pow pe_int pe_int pins s σ H Q I ⟨i, j, rfl, rfl, ?_, q⟩, rfl⟩
    exact ⟨of_decide_eq_true h1, by have := of_decide_eq_true h2; (first | lia | omega), by have := of_decide_eq_true h3; (first | lia | omega)⟩
  · cases h
theorem pa_front : ∀ (es : List Expr) {vs : List V} {es2 : List Expr} {t : TA}, constsOf es = some vs → PA X es2 t → PA X (es ++ es2) (tFront vs t)
  | [], vs, es2, t, h, hr => by
    cases h
    exact hr
  | e :: es, vs, es2, t, h, hr => by
    obtain ⟨v, h1, h2⟩ := Option.bind_eq_some_iff.mp (show (constOf e).bind _ = some vs from h)
    obtain ⟨us, h3, rfl⟩ := Option.map_eq_some_iff.mp h2
    obtain ⟨p1, p2⟩ := pe_const (X := X) h1
    exact paN p1 (pa_front es h3 hr) p2
theorem pa_frontN (n : Nat) {es : List Expr} {vs : List V} {t : TA} (h : constsOf (es.take n) = some vs) (hr : PA X (es.drop n) t) : PA X es (tFront vs t) := by
  have e := pa_front (es.take n) h hr
  rw [List.take_append_drop] at e
  exact e
theorem pa_consts {es : List Expr} {vs : List V} (h : constsOf es = some vs) : PA X es (tPre vs) := by
  have e := pa_front (X := X) es h pa_nil
  rw [List.append_nil] at e
  intro pos pins s σ H Q I q
  exact e pos pins s σ H Q I (show Q (vs ++ []) H by rw [List.append_nil]; exact q)
end
end L2
namespace Tx
open PySem
def repS (u : Str) : Nat → Str
  | 0 => ⟨#[]⟩
  | n + 1 => u ++ repS u n
theorem rep_fold (u : Str) : ∀ (n : Nat) (a : Array Nat), (List.replicate n u.cps).foldl (· ++ ·) a = a ++ (repS u n).cps
  | 0, a => by simp [repS]
  | n + 1, a => by
    rw [List.replicate_succ, List.foldl_cons, rep_fold u n]
    show a ++ u.cps ++ _ = a ++ (u.cps ++ (repS u n).cps)
    rw [Array.append_assoc]
theorem rep_len (u : Str) : ∀ n, (repS u n).length = n * u.length
  | 0 => by simp [repS, Str.length]
  | n + 1 => by
    show (u ++ repS u n).length = _
    rw [PySem.Str.length_append, rep_len u n, Nat.succ_mul]
    (first | lia | omega)
end Tx
namespace L2
open PySem PySem.Spec PyProof.Rows
section
variable {X : Cx}
theorem op_repS : OpR X (binaryOp .Mult) (fun x y H Q => ∃ (u : Str) (n : Int), x = .str u ∧ y = .int n ∧ 0 < u.length ∧ u.length ≤ 100 ∧ 0 ≤ n ∧ n ≤ 100 ∧ Q (.str (Tx.repS u n.toNat)) H) := by
  intro pins s σ H x y v w Q I rx ry h
  obtain ⟨u, n, rfl, rfl, h1, h2, h3, h4, q⟩ := h
  obtain ⟨t, rfl⟩ := rx
  obtain ⟨t', rfl⟩ := ry
  have hl : (Tx.repS u n.toNat).length ≤ sizeLine := by
    rw [Tx.rep_len]
    have : n.toNat * u.length ≤ 100 * 100 := Nat.mul_le_mul (by (first | lia | omega)) h2
    exact Nat.le_trans this (by decide)
  have fin : ∀ t k, EP X pins σ Q (.str (Tx.repS u n.toNat) t) { s with toks := k } := fun t k => ⟨.str _, H, I.tok _, ⟨t, rfl⟩, q⟩
  refine P.mul_str (by rw [decide_eq_false (by (first | lia | omega)), decide_eq_false (by (first | lia | omega))]; rfl) (fun _ _ => ?_) (fun _ _ => ?_) ?_
  · have : (100 : Int) ≤ (2 ^ 63 - 1) / n := by
      refine Int.le_ediv_of_mul_le (by (first | lia | omega)) ?_
      (first | lia | omega)
    (first | lia | omega)
  · unfold Builtin.Str.tooLong
    refine decide_eq_false ?_
    rw [Tx.rep_len, Nat.mul_comm] at hl
    (first | lia | omega)
  · by_cases hn : n < 1
    · rw [if_pos hn]
      have e : n.toNat = 0 := by (first | lia | omega)
      have f := fin s.toks (s.toks + 1)
      rw [e] at f
      exact ⟨by decide, f⟩
    · rw [if_neg hn]
      by_cases hc : (n == 1 || u.length == 0) = true
      · rw [if_pos hc]
        have e : n.toNat = 1 := by
          rw [Bool.or_eq_true] at hc
          rcases hc with hc | hc
          · have := beq_iff_eq.mp hc; (first | lia | omega)
          · have := beq_iff_eq.mp hc; (first | lia | omega)
        have f := fin t s.toks
        rw [e, show Tx.repS u 1 = u from Tx.str_ext (by show (u.cps ++ #[]).toList = _; simp)] at f
        exact f
      · rw [if_neg hc]
        have e := Tx.rep_fold u n.toNat #[]
        rw [Array.empty_append] at e
        have e2 : (⟨(List.replicate n.toNat u.cps).foldl (· ++ ·) #[]⟩ : Str) = Tx.repS u n.toNat := by rw [e]
        rw [e2]
        exact ⟨hl, fin _ _⟩
end
end L2

namespace L2
open PySem
theorem bmK {X : Cx} {e : Expr} {T : String} {r : V → List V → Hp → VK → Prop} {to : TE} {t : TA} (K : PySem.W.Frag) (p : PE X e (tBM X.K T r to t)) (h : X.K = K := by rfl) : PE X e (tBM K T r to t) := by subst h; exact p
end L2

namespace L2
open PySem
theorem ixq {K : PySem.W.Frag} {H : Hp} {a : Addr} {xs : List V} {k : Int} {v : V} {R : V → Prop} (hs : SqT K H a xs) (ha : atI xs k = some v) (q : R v) : ∃ p ys k' w, V.ref a = .ref p ∧ V.int k = .int k' ∧ SqT K H p ys ∧ atI ys k' = some w ∧ R w := ⟨a, xs, k, v, rfl, rfl, hs, ha, q⟩
theorem ixl {K : PySem.W.Frag} {H : Hp} {a : Addr} {xs : List V} {k : Int} {v : V} {R : V → Prop} (hs : SqL K H a xs) (ha : atI xs k = some v) (q : R v) : ∃ p ys k' w, V.ref a = .ref p ∧ V.int k = .int k' ∧ SqL K H p ys ∧ atI ys k' = some w ∧ R w := ⟨a, xs, k, v, rfl, rfl, hs, ha, q⟩
theorem ijq {i j : Int} {R : Int → Int → Prop} (h : R i j) : ∃ i' j', V.int i = .int i' ∧ V.int j = .int j' ∧ R i' j' := ⟨i, j, rfl, rfl, h⟩
end L2
namespace L2
open PySem
theorem lnq {K : PySem.W.Frag} {H : Hp} {a : Addr} {xs : List V} {E : Addr → Prop} {R : List V → Prop} (e : E a) (h : SqL K H a xs ∨ SqT K H a xs) (q : R xs) : ∃ p ys, E p ∧ (SqL K H p ys ∨ SqT K H p ys) ∧ R ys := ⟨a, xs, e, h, q⟩
theorem exq {α : Type} {A R : α → Prop} {x : α} (h : A x) (r : R x) : ∃ x, A x ∧ R x := ⟨x, h, r⟩
end L2

namespace L2
open PySem PySem.Spec PyProof.Rows
section
variable {P : Program} {w : World} {K : PySem.W.Frag} {mg : Str → Option Value} {base : Heap}
end
end L2

set_option Elab.async false
set_option maxRecDepth 100000
set_option maxHeartbeats 4000000
namespace K60
open PySem L2 Ring
def top (i : Nat) : Stmt := PySem.Challenge.pw_ringbase_k60_pages_refused.main.body.getD i (.Pass ⟨0, 0, 0, 0⟩)
abbrev s_made_web : Stmt := top 18
theorem sc_made_web : FnScope ["points", "ties"] ["points", "ties"] (defScope s_made_web) := ⟨rfl, rfl, rfl, by decide +kernel, rfl, by decide +kernel, by decide +kernel⟩
theorem hd_made_web {sa0 sa1 sa2 : TS} {sc0 sc1 : TT} {D : Ends} {σ : St} {H : Hp} (h : let zz0 : TS := sa0; let zz1 : TS := sa1; let zz2 : TS := (tSeq (tIfS sc0 zz1 tNext) zz0); let zz3 : TS := sa2; (tSeq (tIfS sc1 zz3 tNext) zz2) D σ H) : (tSeq (tIfS sc1 sa2 tNext) (tSeq (tIfS sc0 sa1 tNext) sa0)) D σ H := h
abbrev s_made_tie : Stmt := top 19
theorem sc_made_tie : FnScope ["points", "tie", "end"] ["points", "tie"] (defScope s_made_tie) := ⟨rfl, rfl, rfl, by decide +kernel, rfl, by decide +kernel, by decide +kernel⟩
theorem hd_made_tie {sa0 sa1 sa2 sa3 sa4 : TS} {sc0 sc1 sc2 sc3 : TT} {si0 : TI} {sg0 : TG} {D : Ends} {σ : St} {H : Hp} (h : let zz0 : TS := sa0; let zz1 : TS := sa1; let zz2 : TS := (tSeq (tIfS sc0 zz1 tNext) zz0); let zz3 : TS := sa2; let zz4 : TS := (tSeq (tIfS sc1 zz3 tNext) zz2); let zz5 : TS := sa3; let zz6 : TS := (tIfS sc2 zz5 tNext); let zz7 : TS := (tSeq (tFor si0 sg0 zz6) zz4); let zz8 : TS := sa4; (tSeq (tIfS sc3 zz8 tNext) zz7) D σ H) : (tSeq (tIfS sc3 sa4 tNext) (tSeq (tFor si0 sg0 (tIfS sc2 sa3 tNext)) (tSeq (tIfS sc1 sa2 tNext) (tSeq (tIfS sc0 sa1 tNext) sa0)))) D σ H := h
abbrev s_is_number : Stmt := top 25
theorem sc_is_number : FnScope ["word"] ["word"] (defScope s_is_number) := ⟨rfl, rfl, rfl, by decide +kernel, rfl, by decide +kernel, by decide +kernel⟩
theorem hd_is_number {sa0 sa1 : TS} {sc0 : TT} {D : Ends} {σ : St} {H : Hp} (h : let zz0 : TS := sa0; let zz1 : TS := sa1; (tSeq (tIfS sc0 zz1 tNext) zz0) D σ H) : (tSeq (tIfS sc0 sa1 tNext) sa0) D σ H := h
abbrev s_is_signed : Stmt := top 26
theorem sc_is_signed : FnScope ["word"] ["word"] (defScope s_is_signed) := ⟨rfl, rfl, rfl, by decide +kernel, rfl, by decide +kernel, by decide +kernel⟩
abbrev s_numbers_read : Stmt := top 27
theorem sc_numbers_read : FnScope ["words"] ["words"] (defScope s_numbers_read) := ⟨rfl, rfl, rfl, by decide +kernel, rfl, by decide +kernel, by decide +kernel⟩
theorem hd_numbers_read {sa0 sa1 : TS} {sc0 : TT} {D : Ends} {σ : St} {H : Hp} (h : let zz0 : TS := sa0; let zz1 : TS := sa1; (tSeq (tIfS sc0 zz1 tNext) zz0) D σ H) : (tSeq (tIfS sc0 sa1 tNext) sa0) D σ H := h
abbrev s_web_grown : Stmt := top 28
theorem sc_web_grown : FnScope ["web", "words", "numbers"] ["web", "words"] (defScope s_web_grown) := ⟨rfl, rfl, rfl, by decide +kernel, rfl, by decide +kernel, by decide +kernel⟩
theorem hd_web_grown {sa0 sa1 sa2 sa3 : TS} {sc0 : TT} {D : Ends} {σ : St} {H : Hp} (h : let zz0 : TS := sa0; let zz1 : TS := (tSeq sa1 zz0); let zz2 : TS := sa2; let zz3 : TS := (tSeq (tIfS sc0 zz2 tNext) zz1); (tSeq sa3 zz3) D σ H) : (tSeq sa3 (tSeq (tIfS sc0 sa2 tNext) (tSeq sa1 sa0))) D σ H := h
abbrev s_ascend_below : Stmt := top 29
theorem sc_ascend_below : FnScope ["numbers", "bound", "place", "number"] ["numbers", "bound"] (defScope s_ascend_below) := ⟨rfl, rfl, rfl, by decide +kernel, rfl, by decide +kernel, by decide +kernel⟩
theorem hd_ascend_below {sa0 sa1 : TS} {sc0 : TT} {si0 : TI} {sg0 : TG} {D : Ends} {σ : St} {H : Hp} (h : let zz0 : TS := sa0; let zz1 : TS := sa1; let zz2 : TS := (tIfS sc0 zz1 tNext); (tSeq (tFor si0 sg0 zz2) zz0) D σ H) : (tSeq (tFor si0 sg0 (tIfS sc0 sa1 tNext)) sa0) D σ H := h
abbrev s_ties_asked : Stmt := top 30
theorem sc_ties_asked : FnScope ["web", "words", "numbers"] ["web", "words"] (defScope s_ties_asked) := ⟨rfl, rfl, rfl, by decide +kernel, rfl, by decide +kernel, by decide +kernel⟩
theorem hd_ties_asked {sa0 sa1 sa2 : TS} {sc0 : TT} {D : Ends} {σ : St} {H : Hp} (h : let zz0 : TS := sa0; let zz1 : TS := sa1; let zz2 : TS := (tSeq (tIfS sc0 zz1 tNext) zz0); (tSeq sa2 zz2) D σ H) : (tSeq sa2 (tSeq (tIfS sc0 sa1 tNext) sa0)) D σ H := h
abbrev s_heights_asked : Stmt := top 31
theorem sc_heights_asked : FnScope ["web", "words", "rest", "row"] ["web", "words"] (defScope s_heights_asked) := ⟨rfl, rfl, rfl, by decide +kernel, rfl, by decide +kernel, by decide +kernel⟩
theorem hd_heights_asked {sa0 sa1 sa2 sa3 sa4 : TS} {sc0 sc1 : TT} {D : Ends} {σ : St} {H : Hp} (h : let zz0 : TS := sa0; let zz1 : TS := sa1; let zz2 : TS := (tSeq (tIfS sc0 zz1 tNext) zz0); let zz3 : TS := sa2; let zz4 : TS := (tSeq (tIfS sc1 zz3 tNext) zz2); let zz5 : TS := (tSeq sa3 zz4); (tSeq sa4 zz5) D σ H) : (tSeq sa4 (tSeq sa3 (tSeq (tIfS sc1 sa2 tNext) (tSeq (tIfS sc0 sa1 tNext) sa0)))) D σ H := h
abbrev s_asked_by : Stmt := top 32
theorem sc_asked_by : FnScope ["web", "words"] ["web", "words"] (defScope s_asked_by) := ⟨rfl, rfl, rfl, by decide +kernel, rfl, by decide +kernel, by decide +kernel⟩
theorem hd_asked_by {sa0 sa1 sa2 sa3 : TS} {sc0 sc1 sc2 : TT} {D : Ends} {σ : St} {H : Hp} (h : let zz0 : TS := sa0; let zz1 : TS := sa1; let zz2 : TS := (tSeq (tIfS sc0 zz1 tNext) zz0); let zz3 : TS := sa2; let zz4 : TS := (tSeq (tIfS sc1 zz3 tNext) zz2); let zz5 : TS := sa3; (tSeq (tIfS sc2 zz5 tNext) zz4) D σ H) : (tSeq (tIfS sc2 sa3 tNext) (tSeq (tIfS sc1 sa2 tNext) (tSeq (tIfS sc0 sa1 tNext) sa0))) D σ H := h
abbrev s_read_page : Stmt := top 33
theorem sc_read_page : FnScope ["text", "web", "asked", "number", "row", "words", "stands"] ["text"] (defScope s_read_page) := ⟨rfl, rfl, rfl, by decide +kernel, rfl, by decide +kernel, by decide +kernel⟩
theorem hd_read_page {sa0 sa1 sa2 sa3 sa4 sa5 sa6 sa7 sa8 : TS} {sc0 sc1 : TT} {si0 : TI} {sg0 : TG} {D : Ends} {σ : St} {H : Hp} (h : let zz0 : TS := sa0; let zz1 : TS := sa1; let zz2 : TS := (tIfS sc0 zz1 tNext); let zz3 : TS := sa2; let zz4 : TS := sa4; let zz5 : TS := (tSeq sa3 zz3); let zz6 : TS := (tSeq sa5 zz4); let zz7 : TS := (tSeq (tIfS sc1 zz5 zz6) zz2); let zz8 : TS := (tSeq sa6 zz7); let zz9 : TS := (tSeq (tFor si0 sg0 zz8) zz0); let zz10 : TS := (tSeq sa7 zz9); (tSeq sa8 zz10) D σ H) : (tSeq sa8 (tSeq sa7 (tSeq (tFor si0 sg0 (tSeq sa6 (tSeq (tIfS sc1 (tSeq sa3 sa2) (tSeq sa5 sa4)) (tIfS sc0 sa1 tNext)))) sa0))) D σ H := h
abbrev s_law_cell : Stmt := top 35
theorem sc_law_cell : FnScope ["script", "k"] ["script", "k"] (defScope s_law_cell) := ⟨rfl, rfl, rfl, by decide +kernel, rfl, by decide +kernel, by decide +kernel⟩
theorem hd_law_cell {sa0 sa1 : TS} {sc0 : TT} {D : Ends} {σ : St} {H : Hp} (h : let zz0 : TS := sa0; let zz1 : TS := sa1; (tSeq (tIfS sc0 zz1 tNext) zz0) D σ H) : (tSeq (tIfS sc0 sa1 tNext) sa0) D σ H := h
abbrev s_law_stir : Stmt := top 36
theorem sc_law_stir : FnScope ["cell", "k", "near"] ["cell", "k"] (defScope s_law_stir) := ⟨rfl, rfl, rfl, by decide +kernel, rfl, by decide +kernel, by decide +kernel⟩
theorem hd_law_stir {sa0 sa1 sa2 : TS} {D : Ends} {σ : St} {H : Hp} (h : let zz0 : TS := sa0; let zz1 : TS := (tSeq sa1 zz0); (tSeq sa2 zz1) D σ H) : (tSeq sa2 (tSeq sa1 sa0)) D σ H := h
abbrev s_law_tie : Stmt := top 37
theorem sc_law_tie : FnScope ["c", "points", "times", "one", "other"] ["c", "points", "times"] (defScope s_law_tie) := ⟨rfl, rfl, rfl, by decide +kernel, rfl, by decide +kernel, by decide +kernel⟩
theorem hd_law_tie {sa0 sa1 sa2 sa3 sa4 : TS} {D : Ends} {σ : St} {H : Hp} (h : let zz0 : TS := sa0; let zz1 : TS := (tSeq sa1 zz0); let zz2 : TS := (tSeq sa2 zz1); let zz3 : TS := (tSeq sa3 zz2); (tSeq sa4 zz3) D σ H) : (tSeq sa4 (tSeq sa3 (tSeq sa2 (tSeq sa1 sa0)))) D σ H := h
abbrev s_law_web : Stmt := top 38
theorem sc_law_web : FnScope ["script", "most", "head", "points", "times", "ties", "c", "k", "tie"] ["script", "most"] (defScope s_law_web) := ⟨rfl, rfl, rfl, by decide +kernel, rfl, by decide +kernel, by decide +kernel⟩
theorem hd_law_web {sa0 sa1 sa2 sa3 sa4 sa5 sa6 sa7 sa8 : TS} {sc0 sc1 : TT} {si0 si1 : TI} {sg0 sg1 : TG} {D : Ends} {σ : St} {H : Hp} (h : let zz0 : TS := sa0; let zz1 : TS := sa1; let zz2 : TS := (tFor si0 sg0 zz1); let zz3 : TS := (tSeq (tIfS sc0 zz2 tNext) zz0); let zz4 : TS := sa2; let zz5 : TS := (tSeq sa3 zz4); let zz6 : TS := (tFor si1 sg1 zz5); let zz7 : TS := (tSeq sa4 zz6); let zz8 : TS := (tSeq (tIfS sc1 zz7 tNext) zz3); let zz9 : TS := (tSeq sa5 zz8); let zz10 : TS := (tSeq sa6 zz9); let zz11 : TS := (tSeq sa7 zz10); (tSeq sa8 zz11) D σ H) : (tSeq sa8 (tSeq sa7 (tSeq sa6 (tSeq sa5 (tSeq (tIfS sc1 (tSeq sa4 (tFor si1 sg1 (tSeq sa3 sa2))) tNext) (tSeq (tIfS sc0 (tFor si0 sg0 sa1) tNext) sa0)))))) D σ H := h
abbrev s_law_row_of : Stmt := top 39
theorem sc_law_row_of : FnScope ["web", "cell", "great", "c", "kind", "many", "rest", "numbers", "by_points", "drawn", "k", "one", "other", "length", "rise"] ["web", "cell", "great"] (defScope s_law_row_of) := ⟨rfl, rfl, rfl, by decide +kernel, rfl, by decide +kernel, by decide +kernel⟩
theorem hd_law_row_of {sa0 sa1 sa2 sa3 sa4 sa5 sa6 sa7 sa8 sa9 sa10 sa11 sa12 sa13 sa14 sa15 sa16 sa17 sa18 : TS} {sc0 sc1 sc2 : TT} {si0 si1 : TI} {sg0 sg1 : TG} {D : Ends} {σ : St} {H : Hp} (h : let zz0 : TS := sa0; let zz1 : TS := sa1; let zz2 : TS := sa2; let zz3 : TS := (tSeq (tIfS sc0 zz2 tNext) zz1); let zz4 : TS := (tSeq sa3 zz3); let zz5 : TS := (tSeq sa4 zz4); let zz6 : TS := (tSeq (tFor si0 sg0 zz5) zz0); let zz7 : TS := sa5; let zz8 : TS := (tSeq sa6 zz7); let zz9 : TS := (tSeq (tFor si1 sg1 zz8) zz6); let zz10 : TS := (tSeq sa7 zz9); let zz11 : TS := (tSeq sa8 zz10); let zz12 : TS := (tSeq sa9 zz11); let zz13 : TS := (tSeq sa10 zz12); let zz14 : TS := (tSeq sa11 zz13); let zz15 : TS := (tSeq sa12 zz14); let zz16 : TS := sa13; let zz17 : TS := (tSeq (tIfS sc1 zz16 tNext) zz15); let zz18 : TS := sa14; let zz19 : TS := (tSeq (tIfS sc2 zz18 tNext) zz17); let zz20 : TS := (tSeq sa15 zz19); let zz21 : TS := (tSeq sa16 zz20); let zz22 : TS := (tSeq sa17 zz21); (tSeq sa18 zz22) D σ H) : (tSeq sa18 (tSeq sa17 (tSeq sa16 (tSeq sa15 (tSeq (tIfS sc2 sa14 tNext) (tSeq (tIfS sc1 sa13 tNext) (tSeq sa12 (tSeq sa11 (tSeq sa10 (tSeq sa9 (tSeq sa8 (tSeq sa7 (tSeq (tFor si1 sg1 (tSeq sa6 sa5)) (tSeq (tFor si0 sg0 (tSeq sa4 (tSeq sa3 (tSeq (tIfS sc0 sa2 tNext) sa1)))) sa0)))))))))))))) D σ H := h
abbrev s_law_page : Stmt := top 40
theorem sc_law_page : FnScope ["script", "most", "web", "great", "rows", "k", "cell"] ["script", "most"] (defScope s_law_page) := ⟨rfl, rfl, rfl, by decide +kernel, rfl, by decide +kernel, by decide +kernel⟩
theorem hd_law_page {sa0 sa1 sa2 sa3 sa4 sa5 sa6 : TS} {sc0 : TT} {si0 : TI} {sg0 : TG} {D : Ends} {σ : St} {H : Hp} (h : let zz0 : TS := sa0; let zz1 : TS := sa1; let zz2 : TS := sa2; let zz3 : TS := (tSeq (tIfS sc0 zz2 tNext) zz1); let zz4 : TS := (tSeq sa3 zz3); let zz5 : TS := (tSeq (tFor si0 sg0 zz4) zz0); let zz6 : TS := (tSeq sa4 zz5); let zz7 : TS := (tSeq sa5 zz6); (tSeq sa6 zz7) D σ H) : (tSeq sa6 (tSeq sa5 (tSeq sa4 (tSeq (tFor si0 sg0 (tSeq sa3 (tSeq (tIfS sc0 sa2 tNext) sa1))) sa0)))) D σ H := h
abbrev s_law_text : Stmt := top 41
theorem sc_law_text : FnScope ["web", "rows", "ahead", "one", "other", "length"] ["web", "rows"] (defScope s_law_text) := ⟨rfl, rfl, rfl, by decide +kernel, rfl, by decide +kernel, by decide +kernel⟩
theorem hd_law_text {sa0 sa1 sa2 : TS} {si0 : TI} {sg0 : TG} {D : Ends} {σ : St} {H : Hp} (h : let zz0 : TS := sa0; let zz1 : TS := sa1; let zz2 : TS := (tSeq (tFor si0 sg0 zz1) zz0); (tSeq sa2 zz2) D σ H) : (tSeq sa2 (tSeq (tFor si0 sg0 sa1) sa0)) D σ H := h
abbrev s_law_refused_at : Stmt := top 42
theorem sc_law_refused_at : FnScope ["text", "caught", "e", "others"] ["text"] (defScope s_law_refused_at) := ⟨rfl, rfl, rfl, by decide +kernel, rfl, by decide +kernel, by decide +kernel⟩
theorem hd_law_refused_at {sa0 sa1 sa2 sa3 sa4 sa5 sa6 sa7 sa8 sa9 : TS} {sc0 sc1 sc2 : TT} {D : Ends} {σ : St} {H : Hp} (h : let zz0 : TS := sa0; let zz1 : TS := sa1; let zz2 : TS := (tSeq (tIfS sc0 zz1 tNext) zz0); let zz3 : TS := sa2; let zz4 : TS := (tSeq (tIfS sc1 zz3 tNext) zz2); let zz5 : TS := (tSeq sa3 zz4); let zz6 : TS := (tSeq sa4 zz5); let zz7 : TS := (tSeq sa5 zz6); let zz8 : TS := (tSeq sa6 zz7); let zz9 : TS := sa7; let zz10 : TS := (tSeq (tIfS sc2 zz9 tNext) zz8); let zz11 : TS := (tSeq sa8 zz10); (tSeq sa9 zz11) D σ H) : (tSeq sa9 (tSeq sa8 (tSeq (tIfS sc2 sa7 tNext) (tSeq sa6 (tSeq sa5 (tSeq sa4 (tSeq sa3 (tSeq (tIfS sc1 sa2 tNext) (tSeq (tIfS sc0 sa1 tNext) sa0))))))))) D σ H := h
abbrev s_law_number_bad : Stmt := top 43
theorem sc_law_number_bad : FnScope ["turn", "some"] ["turn"] (defScope s_law_number_bad) := ⟨rfl, rfl, rfl, by decide +kernel, rfl, by decide +kernel, by decide +kernel⟩
theorem hd_law_number_bad {sa0 sa1 sa2 : TS} {D : Ends} {σ : St} {H : Hp} (h : let zz0 : TS := sa0; let zz1 : TS := (tSeq sa1 zz0); (tSeq sa2 zz1) D σ H) : (tSeq sa2 (tSeq sa1 sa0)) D σ H := h
abbrev s_law_first_bad : Stmt := top 44
theorem sc_law_first_bad : FnScope ["turn", "some"] ["turn"] (defScope s_law_first_bad) := ⟨rfl, rfl, rfl, by decide +kernel, rfl, by decide +kernel, by decide +kernel⟩
theorem hd_law_first_bad {sa0 sa1 sa2 sa3 : TS} {sc0 : TT} {D : Ends} {σ : St} {H : Hp} (h : let zz0 : TS := sa0; let zz1 : TS := sa1; let zz2 : TS := (tSeq (tIfS sc0 zz1 tNext) zz0); let zz3 : TS := (tSeq sa2 zz2); (tSeq sa3 zz3) D σ H) : (tSeq sa3 (tSeq sa2 (tSeq (tIfS sc0 sa1 tNext) sa0))) D σ H := h
abbrev s_law_tie_bad : Stmt := top 45
theorem sc_law_tie_bad : FnScope ["web", "turn", "bad", "far", "some"] ["web", "turn"] (defScope s_law_tie_bad) := ⟨rfl, rfl, rfl, by decide +kernel, rfl, by decide +kernel, by decide +kernel⟩
theorem hd_law_tie_bad {sa0 sa1 sa2 sa3 sa4 sa5 sa6 : TS} {D : Ends} {σ : St} {H : Hp} (h : let zz0 : TS := sa0; let zz1 : TS := (tSeq sa1 zz0); let zz2 : TS := (tSeq sa2 zz1); let zz3 : TS := (tSeq sa3 zz2); let zz4 : TS := (tSeq sa4 zz3); let zz5 : TS := (tSeq sa5 zz4); (tSeq sa6 zz5) D σ H) : (tSeq sa6 (tSeq sa5 (tSeq sa4 (tSeq sa3 (tSeq sa2 (tSeq sa1 sa0)))))) D σ H := h
abbrev s_law_ask_bad : Stmt := top 46
theorem sc_law_ask_bad : FnScope ["web", "turn", "many", "word", "bad", "numbers", "some", "short"] ["web", "turn"] (defScope s_law_ask_bad) := ⟨rfl, rfl, rfl, by decide +kernel, rfl, by decide +kernel, by decide +kernel⟩
theorem hd_law_ask_bad {sa0 sa1 sa2 sa3 sa4 sa5 sa6 sa7 sa8 sa9 sa10 : TS} {D : Ends} {σ : St} {H : Hp} (h : let zz0 : TS := sa0; let zz1 : TS := (tSeq sa1 zz0); let zz2 : TS := (tSeq sa2 zz1); let zz3 : TS := (tSeq sa3 zz2); let zz4 : TS := (tSeq sa4 zz3); let zz5 : TS := (tSeq sa5 zz4); let zz6 : TS := (tSeq sa6 zz5); let zz7 : TS := (tSeq sa7 zz6); let zz8 : TS := (tSeq sa8 zz7); let zz9 : TS := (tSeq sa9 zz8); (tSeq sa10 zz9) D σ H) : (tSeq sa10 (tSeq sa9 (tSeq sa8 (tSeq sa7 (tSeq sa6 (tSeq sa5 (tSeq sa4 (tSeq sa3 (tSeq sa2 (tSeq sa1 sa0)))))))))) D σ H := h
abbrev s_law_bad : Stmt := top 47
theorem sc_law_bad : FnScope ["web", "at", "turn"] ["web", "at", "turn"] (defScope s_law_bad) := ⟨rfl, rfl, rfl, by decide +kernel, rfl, by decide +kernel, by decide +kernel⟩
theorem hd_law_bad {sa0 sa1 sa2 sa3 : TS} {sc0 sc1 sc2 : TT} {D : Ends} {σ : St} {H : Hp} (h : let zz0 : TS := sa0; let zz1 : TS := sa1; let zz2 : TS := (tSeq (tIfS sc0 zz1 tNext) zz0); let zz3 : TS := sa2; let zz4 : TS := (tSeq (tIfS sc1 zz3 tNext) zz2); let zz5 : TS := sa3; (tSeq (tIfS sc2 zz5 tNext) zz4) D σ H) : (tSeq (tIfS sc2 sa3 tNext) (tSeq (tIfS sc1 sa2 tNext) (tSeq (tIfS sc0 sa1 tNext) sa0))) D σ H := h
abbrev s_law_full : Stmt := top 48
theorem sc_law_full : FnScope ["many"] ["many"] (defScope s_law_full) := ⟨rfl, rfl, rfl, by decide +kernel, rfl, by decide +kernel, by decide +kernel⟩
abbrev s_law : Stmt := top 49
theorem sc_law : FnScope ["script", "web", "rows", "texts", "k", "turn", "at", "bad", "spoilt"] ["script"] (defScope s_law) := ⟨rfl, rfl, rfl, by decide +kernel, rfl, by decide +kernel, by decide +kernel⟩
theorem hd_law {sa0 sa1 sa2 sa3 sa4 sa5 sa6 sa7 sa8 sa9 sa10 sa11 sa12 sa13 : TS} {sc0 sc1 sc2 sc3 sc4 sc5 : TT} {si0 : TI} {sg0 : TG} {D : Ends} {σ : St} {H : Hp} (h : let zz0 : TS := sa0; let zz1 : TS := sa1; let zz2 : TS := (tSeq (tIfS sc0 zz1 tNext) zz0); let zz3 : TS := (tSeq sa2 zz2); let zz4 : TS := sa3; let zz5 : TS := (tIfS sc1 zz4 tNext); let zz6 : TS := sa4; let zz7 : TS := (tSeq (tIfS sc2 zz6 tNext) zz5); let zz8 : TS := sa5; let zz9 : TS := sa6; let zz10 : TS := (tSeq (tIfS sc3 zz8 zz9) zz7); let zz11 : TS := (tSeq sa7 zz10); let zz12 : TS := sa8; let zz13 : TS := (tSeq (tIfS sc4 zz12 tNext) zz11); let zz14 : TS := (tSeq sa9 zz13); let zz15 : TS := (tSeq sa10 zz14); let zz16 : TS := (tSeq (tFor si0 sg0 zz15) zz3); let zz17 : TS := sa11; let zz18 : TS := (tSeq (tIfS sc5 zz17 tNext) zz16); let zz19 : TS := (tSeq sa12 zz18); (tSeq sa13 zz19) D σ H) : (tSeq sa13 (tSeq sa12 (tSeq (tIfS sc5 sa11 tNext) (tSeq (tFor si0 sg0 (tSeq sa10 (tSeq sa9 (tSeq (tIfS sc4 sa8 tNext) (tSeq sa7 (tSeq (tIfS sc3 sa5 sa6) (tSeq (tIfS sc2 sa4 tNext) (tIfS sc1 sa3 tNext)))))))) (tSeq sa2 (tSeq (tIfS sc0 sa1 tNext) sa0)))))) D σ H := h
abbrev s_NoText_init : Stmt := inClass (top 13) 0
theorem sc_NoText_init : FnScope ["self", "words", "row"] ["self", "words", "row"] (defScope s_NoText_init) := ⟨rfl, rfl, rfl, by decide +kernel, rfl, by decide +kernel, by decide +kernel⟩
theorem hd_NoText_init {sa0 sa1 : TS} {D : Ends} {σ : St} {H : Hp} (h : let zz0 : TS := sa0; (tSeq sa1 zz0) D σ H) : (tSeq sa1 sa0) D σ H := h
set_option genInjectivity false
set_option genSizeOf false
structure Adr where
  f_made_web : Addr
  d_made_web : FuncData
  f_made_tie : Addr
  d_made_tie : FuncData
  f_is_number : Addr
  d_is_number : FuncData
  f_is_signed : Addr
  d_is_signed : FuncData
  f_numbers_read : Addr
  d_numbers_read : FuncData
  f_web_grown : Addr
  d_web_grown : FuncData
  f_ascend_below : Addr
  d_ascend_below : FuncData
  f_ties_asked : Addr
  d_ties_asked : FuncData
  f_heights_asked : Addr
  d_heights_asked : FuncData
  f_asked_by : Addr
  d_asked_by : FuncData
  f_read_page : Addr
  d_read_page : FuncData
  f_law_cell : Addr
  d_law_cell : FuncData
  f_law_stir : Addr
  d_law_stir : FuncData
  f_law_tie : Addr
  d_law_tie : FuncData
  f_law_web : Addr
  d_law_web : FuncData
  f_law_row_of : Addr
  d_law_row_of : FuncData
  f_law_page : Addr
  d_law_page : FuncData
  f_law_text : Addr
  d_law_text : FuncData
  f_law_refused_at : Addr
  d_law_refused_at : FuncData
  f_law_number_bad : Addr
  d_law_number_bad : FuncData
  f_law_first_bad : Addr
  d_law_first_bad : FuncData
  f_law_tie_bad : Addr
  d_law_tie_bad : FuncData
  f_law_ask_bad : Addr
  d_law_ask_bad : FuncData
  f_law_bad : Addr
  d_law_bad : FuncData
  f_law_full : Addr
  d_law_full : FuncData
  f_law : Addr
  d_law : FuncData
  f_NoText_init : Addr
  d_NoText_init : FuncData
  c_RingError : Addr
  c_BadWeb : Addr
  c_BadSet : Addr
  c_BadPoint : Addr
  c_NotRing : Addr
  c_NoChord : Addr
  c_NoBase : Addr
  c_NoSuch : Addr
  c_TooMany : Addr
  c_BadRow : Addr
  c_NoDeed : Addr
  c_NotEven : Addr
  c_NoText : Addr
  t_BARE_WORDS : Addr
  t_TIES_WORDS : Addr
structure Txt (K : PySem.W.Frag) (mg : Str → Option Value) (a : Adr) : Prop where
  F_made_web : Fun K "made_web" "made_web" s_made_web a.f_made_web a.d_made_web
  m_made_web : mg "made_web" = some (.ref a.f_made_web)
  b_made_web : Binds K a.d_made_web ["points", "ties"] []
  F_made_tie : Fun K "made_tie" "made_tie" s_made_tie a.f_made_tie a.d_made_tie
  m_made_tie : mg "made_tie" = some (.ref a.f_made_tie)
  b_made_tie : Binds K a.d_made_tie ["points", "tie"] []
  F_is_number : Fun K "is_number" "is_number" s_is_number a.f_is_number a.d_is_number
  m_is_number : mg "is_number" = some (.ref a.f_is_number)
  b_is_number : Binds K a.d_is_number ["word"] []
  F_is_signed : Fun K "is_signed" "is_signed" s_is_signed a.f_is_signed a.d_is_signed
  m_is_signed : mg "is_signed" = some (.ref a.f_is_signed)
  b_is_signed : Binds K a.d_is_signed ["word"] []
  F_numbers_read : Fun K "numbers_read" "numbers_read" s_numbers_read a.f_numbers_read a.d_numbers_read
  m_numbers_read : mg "numbers_read" = some (.ref a.f_numbers_read)
  b_numbers_read : Binds K a.d_numbers_read ["words"] []
  F_web_grown : Fun K "web_grown" "web_grown" s_web_grown a.f_web_grown a.d_web_grown
  m_web_grown : mg "web_grown" = some (.ref a.f_web_grown)
  b_web_grown : Binds K a.d_web_grown ["web", "words"] []
  F_ascend_below : Fun K "ascend_below" "ascend_below" s_ascend_below a.f_ascend_below a.d_ascend_below
  m_ascend_below : mg "ascend_below" = some (.ref a.f_ascend_below)
  b_ascend_below : Binds K a.d_ascend_below ["numbers", "bound"] []
  F_ties_asked : Fun K "ties_asked" "ties_asked" s_ties_asked a.f_ties_asked a.d_ties_asked
  m_ties_asked : mg "ties_asked" = some (.ref a.f_ties_asked)
  b_ties_asked : Binds K a.d_ties_asked ["web", "words"] []
  F_heights_asked : Fun K "heights_asked" "heights_asked" s_heights_asked a.f_heights_asked a.d_heights_asked
  m_heights_asked : mg "heights_asked" = some (.ref a.f_heights_asked)
  b_heights_asked : Binds K a.d_heights_asked ["web", "words"] []
  F_asked_by : Fun K "asked_by" "asked_by" s_asked_by a.f_asked_by a.d_asked_by
  m_asked_by : mg "asked_by" = some (.ref a.f_asked_by)
  b_asked_by : Binds K a.d_asked_by ["web", "words"] []
  F_read_page : Fun K "read_page" "read_page" s_read_page a.f_read_page a.d_read_page
  m_read_page : mg "read_page" = some (.ref a.f_read_page)
  b_read_page : Binds K a.d_read_page ["text"] []
  F_law_cell : Fun K "_law_cell" "_law_cell" s_law_cell a.f_law_cell a.d_law_cell
  m_law_cell : mg "_law_cell" = some (.ref a.f_law_cell)
  b_law_cell : Binds K a.d_law_cell ["script", "k"] []
  F_law_stir : Fun K "_law_stir" "_law_stir" s_law_stir a.f_law_stir a.d_law_stir
  m_law_stir : mg "_law_stir" = some (.ref a.f_law_stir)
  b_law_stir : Binds K a.d_law_stir ["cell", "k"] []
  F_law_tie : Fun K "_law_tie" "_law_tie" s_law_tie a.f_law_tie a.d_law_tie
  m_law_tie : mg "_law_tie" = some (.ref a.f_law_tie)
  b_law_tie : Binds K a.d_law_tie ["c", "points", "times"] []
  F_law_web : Fun K "_law_web" "_law_web" s_law_web a.f_law_web a.d_law_web
  m_law_web : mg "_law_web" = some (.ref a.f_law_web)
  b_law_web : Binds K a.d_law_web ["script", "most"] []
  F_law_row_of : Fun K "_law_row_of" "_law_row_of" s_law_row_of a.f_law_row_of a.d_law_row_of
  m_law_row_of : mg "_law_row_of" = some (.ref a.f_law_row_of)
  b_law_row_of : Binds K a.d_law_row_of ["web", "cell", "great"] []
  F_law_page : Fun K "_law_page" "_law_page" s_law_page a.f_law_page a.d_law_page
  m_law_page : mg "_law_page" = some (.ref a.f_law_page)
  b_law_page : Binds K a.d_law_page ["script", "most"] []
  F_law_text : Fun K "_law_text" "_law_text" s_law_text a.f_law_text a.d_law_text
  m_law_text : mg "_law_text" = some (.ref a.f_law_text)
  b_law_text : Binds K a.d_law_text ["web", "rows"] []
  F_law_refused_at : Fun K "_law_refused_at" "_law_refused_at" s_law_refused_at a.f_law_refused_at a.d_law_refused_at
  m_law_refused_at : mg "_law_refused_at" = some (.ref a.f_law_refused_at)
  b_law_refused_at : Binds K a.d_law_refused_at ["text"] []
  F_law_number_bad : Fun K "_law_number_bad" "_law_number_bad" s_law_number_bad a.f_law_number_bad a.d_law_number_bad
  m_law_number_bad : mg "_law_number_bad" = some (.ref a.f_law_number_bad)
  b_law_number_bad : Binds K a.d_law_number_bad ["turn"] []
  F_law_first_bad : Fun K "_law_first_bad" "_law_first_bad" s_law_first_bad a.f_law_first_bad a.d_law_first_bad
  m_law_first_bad : mg "_law_first_bad" = some (.ref a.f_law_first_bad)
  b_law_first_bad : Binds K a.d_law_first_bad ["turn"] []
  F_law_tie_bad : Fun K "_law_tie_bad" "_law_tie_bad" s_law_tie_bad a.f_law_tie_bad a.d_law_tie_bad
  m_law_tie_bad : mg "_law_tie_bad" = some (.ref a.f_law_tie_bad)
  b_law_tie_bad : Binds K a.d_law_tie_bad ["web", "turn"] []
  F_law_ask_bad : Fun K "_law_ask_bad" "_law_ask_bad" s_law_ask_bad a.f_law_ask_bad a.d_law_ask_bad
  m_law_ask_bad : mg "_law_ask_bad" = some (.ref a.f_law_ask_bad)
  b_law_ask_bad : Binds K a.d_law_ask_bad ["web", "turn"] []
  F_law_bad : Fun K "_law_bad" "_law_bad" s_law_bad a.f_law_bad a.d_law_bad
  m_law_bad : mg "_law_bad" = some (.ref a.f_law_bad)
  b_law_bad : Binds K a.d_law_bad ["web", "at", "turn"] []
  F_law_full : Fun K "_law_full" "_law_full" s_law_full a.f_law_full a.d_law_full
  m_law_full : mg "_law_full" = some (.ref a.f_law_full)
  b_law_full : Binds K a.d_law_full ["many"] []
  F_law : Fun K "law" "law" s_law a.f_law a.d_law
  m_law : mg "law" = some (.ref a.f_law)
  b_law : Binds K a.d_law ["script"] []
  F_NoText_init : Fun K "__init__" "NoText.__init__" s_NoText_init a.f_NoText_init a.d_NoText_init
  xi_NoText : XInit K a.c_NoText a.c_RingError a.f_NoText_init "row"
  b_NoText_init : Binds K a.d_NoText_init ["self", "words", "row"] []
  n_ValueError : mg "ValueError" = none
  n_all : mg "all" = none
  n_bool : mg "bool" = none
  n_enumerate : mg "enumerate" = none
  n_int : mg "int" = none
  n_isinstance : mg "isinstance" = none
  n_len : mg "len" = none
  n_list : mg "list" = none
  n_max : mg "max" = none
  n_min : mg "min" = none
  n_range : mg "range" = none
  n_str : mg "str" = none
  n_tuple : mg "tuple" = none
  g_MOST_POINTS : ∃ t, mg "MOST_POINTS" = some (.int 10 t)
  g_MOST_TIES : ∃ t, mg "MOST_TIES" = some (.int 24 t)
  g_LONGEST : ∃ t, mg "LONGEST" = some (.int 1000000000000000000000000000000 t)
  g_MOST_FIGURES : ∃ t, mg "MOST_FIGURES" = some (.int 60 t)
  g_FIGURES : ∃ t, mg "FIGURES" = some (.str "0123456789" t)
  g_BARE_WORDS : mg "BARE_WORDS" = some (.ref a.t_BARE_WORDS)
  q_BARE_WORDS : ∀ H, SqT K H a.t_BARE_WORDS [.str "lengths", .str "base", .str "forests"]
  g_TIES_WORDS : mg "TIES_WORDS" = some (.ref a.t_TIES_WORDS)
  q_TIES_WORDS : ∀ H, SqT K H a.t_TIES_WORDS [.str "even", .str "cut", .str "odd"]
  g_RingError : mg "RingError" = some (.ref a.c_RingError)
  g_BadWeb : mg "BadWeb" = some (.ref a.c_BadWeb)
  g_BadSet : mg "BadSet" = some (.ref a.c_BadSet)
  g_BadPoint : mg "BadPoint" = some (.ref a.c_BadPoint)
  g_NotRing : mg "NotRing" = some (.ref a.c_NotRing)
  g_NoChord : mg "NoChord" = some (.ref a.c_NoChord)
  g_NoBase : mg "NoBase" = some (.ref a.c_NoBase)
  g_NoSuch : mg "NoSuch" = some (.ref a.c_NoSuch)
  g_TooMany : mg "TooMany" = some (.ref a.c_TooMany)
  g_BadRow : mg "BadRow" = some (.ref a.c_BadRow)
  g_NoDeed : mg "NoDeed" = some (.ref a.c_NoDeed)
  g_NotEven : mg "NotEven" = some (.ref a.c_NotEven)
  g_NoText : mg "NoText" = some (.ref a.c_NoText)
  x_BadWeb : ∀ h : Heap, K.In h → h.Ns mainGlobals mg → PyProof.Rows.OwnCls "BadWeb" a.c_BadWeb [.type "ValueError", .type "Exception", .type "BaseException", .type "object"] "ValueError.__new__" mg h
  e_NoText : ExcCls K a.c_NoText
  h_NoText : PySem.W.exmOne K (.ref a.c_NoText) (.ref a.c_RingError) = some true
  qV_NoText : PySem.W.kitOne K (.ref a.c_NoText) (.type "ValueError") = some true
  q_NoText_BadWeb : PySem.W.kitOne K (.ref a.c_NoText) (.ref a.c_BadWeb) = some false
  q_NoText_BadSet : PySem.W.kitOne K (.ref a.c_NoText) (.ref a.c_BadSet) = some false
  q_NoText_BadPoint : PySem.W.kitOne K (.ref a.c_NoText) (.ref a.c_BadPoint) = some false
  q_NoText_NotRing : PySem.W.kitOne K (.ref a.c_NoText) (.ref a.c_NotRing) = some false
  q_NoText_NoChord : PySem.W.kitOne K (.ref a.c_NoText) (.ref a.c_NoChord) = some false
  q_NoText_NoBase : PySem.W.kitOne K (.ref a.c_NoText) (.ref a.c_NoBase) = some false
  q_NoText_NoSuch : PySem.W.kitOne K (.ref a.c_NoText) (.ref a.c_NoSuch) = some false
  q_NoText_TooMany : PySem.W.kitOne K (.ref a.c_NoText) (.ref a.c_TooMany) = some false
  q_NoText_BadRow : PySem.W.kitOne K (.ref a.c_NoText) (.ref a.c_BadRow) = some false
  q_NoText_NoDeed : PySem.W.kitOne K (.ref a.c_NoText) (.ref a.c_NoDeed) = some false
  q_NoText_NotEven : PySem.W.kitOne K (.ref a.c_NoText) (.ref a.c_NotEven) = some false
  q_NoText_NoText : PySem.W.kitOne K (.ref a.c_NoText) (.ref a.c_NoText) = some true
  x_RingError : ∀ h : Heap, K.In h → h.Ns mainGlobals mg → PyProof.Rows.OwnCls "RingError" a.c_RingError [.type "ValueError", .type "Exception", .type "BaseException", .type "object"] "ValueError.__new__" mg h
  hs_BadWeb : PySem.W.exmOne K (.ref a.c_BadWeb) (.ref a.c_BadWeb) = some true
section
variable {K : PySem.W.Frag} {mg : Str → Option Value} {a : Adr}
theorem Txt.k_made_web (T : Txt K mg a) : PySem.W.keepIn K (.ref a.f_made_web) = true := T.F_made_web.kp
theorem Txt.k_made_tie (T : Txt K mg a) : PySem.W.keepIn K (.ref a.f_made_tie) = true := T.F_made_tie.kp
theorem Txt.k_is_number (T : Txt K mg a) : PySem.W.keepIn K (.ref a.f_is_number) = true := T.F_is_number.kp
theorem Txt.k_is_signed (T : Txt K mg a) : PySem.W.keepIn K (.ref a.f_is_signed) = true := T.F_is_signed.kp
theorem Txt.k_numbers_read (T : Txt K mg a) : PySem.W.keepIn K (.ref a.f_numbers_read) = true := T.F_numbers_read.kp
theorem Txt.k_web_grown (T : Txt K mg a) : PySem.W.keepIn K (.ref a.f_web_grown) = true := T.F_web_grown.kp
theorem Txt.k_ascend_below (T : Txt K mg a) : PySem.W.keepIn K (.ref a.f_ascend_below) = true := T.F_ascend_below.kp
theorem Txt.k_ties_asked (T : Txt K mg a) : PySem.W.keepIn K (.ref a.f_ties_asked) = true := T.F_ties_asked.kp
theorem Txt.k_heights_asked (T : Txt K mg a) : PySem.W.keepIn K (.ref a.f_heights_asked) = true := T.F_heights_asked.kp
theorem Txt.k_asked_by (T : Txt K mg a) : PySem.W.keepIn K (.ref a.f_asked_by) = true := T.F_asked_by.kp
theorem Txt.k_read_page (T : Txt K mg a) : PySem.W.keepIn K (.ref a.f_read_page) = true := T.F_read_page.kp
theorem Txt.k_law_cell (T : Txt K mg a) : PySem.W.keepIn K (.ref a.f_law_cell) = true := T.F_law_cell.kp
theorem Txt.k_law_stir (T : Txt K mg a) : PySem.W.keepIn K (.ref a.f_law_stir) = true := T.F_law_stir.kp
theorem Txt.k_law_tie (T : Txt K mg a) : PySem.W.keepIn K (.ref a.f_law_tie) = true := T.F_law_tie.kp
theorem Txt.k_law_web (T : Txt K mg a) : PySem.W.keepIn K (.ref a.f_law_web) = true := T.F_law_web.kp
theorem Txt.k_law_row_of (T : Txt K mg a) : PySem.W.keepIn K (.ref a.f_law_row_of) = true := T.F_law_row_of.kp
theorem Txt.k_law_page (T : Txt K mg a) : PySem.W.keepIn K (.ref a.f_law_page) = true := T.F_law_page.kp
theorem Txt.k_law_text (T : Txt K mg a) : PySem.W.keepIn K (.ref a.f_law_text) = true := T.F_law_text.kp
theorem Txt.k_law_refused_at (T : Txt K mg a) : PySem.W.keepIn K (.ref a.f_law_refused_at) = true := T.F_law_refused_at.kp
theorem Txt.k_law_number_bad (T : Txt K mg a) : PySem.W.keepIn K (.ref a.f_law_number_bad) = true := T.F_law_number_bad.kp
theorem Txt.k_law_first_bad (T : Txt K mg a) : PySem.W.keepIn K (.ref a.f_law_first_bad) = true := T.F_law_first_bad.kp
theorem Txt.k_law_tie_bad (T : Txt K mg a) : PySem.W.keepIn K (.ref a.f_law_tie_bad) = true := T.F_law_tie_bad.kp
theorem Txt.k_law_ask_bad (T : Txt K mg a) : PySem.W.keepIn K (.ref a.f_law_ask_bad) = true := T.F_law_ask_bad.kp
theorem Txt.k_law_bad (T : Txt K mg a) : PySem.W.keepIn K (.ref a.f_law_bad) = true := T.F_law_bad.kp
theorem Txt.k_law_full (T : Txt K mg a) : PySem.W.keepIn K (.ref a.f_law_full) = true := T.F_law_full.kp
end
theorem iteNd {x y : V} {A B : Prop} (h : x ≠ y) (ha : A) : if (!decide (x = y)) = true then A else B := by
  rw [decide_eq_false h]
  exact iteT ha
def sp_made_tie (C : Addr) : Sp := fun vs H Q E => ∃ (p : Int) (x : V) (ns : List Int), vs = [.int p, x] ∧ TieS H x ns ∧ (GoodT p ns → ∀ b H', Same H H' → H' b = some (.tup (intsV ns)) → Q (.ref b) H') ∧ (¬ GoodT p ns → ∀ H', Same H H' → E (.ref C) none H')
def sp_made_web (C : Addr) : Sp := fun vs H Q E => ∃ (p : Int) (l : Addr) (xs : List V) (nss : List (List Int)), vs = [.int p, .ref l] ∧ (H l = some (.lst xs) ∨ H l = some (.tup xs)) ∧ Paired (TieS H) xs nss ∧
  (GoodW p nss → ∀ w b ys H', Same H H' → H' w = some (.tup [.int p, .ref b]) → H' b = some (.tup ys) → Paired (TupI H') ys nss → Q (.ref w) H') ∧ (¬ GoodW p nss → ∀ H', Same H H' → E (.ref C) none H')
section
variable {P : Program} {w : World} {K : PySem.W.Frag} {mg : Str → Option Value} {base : Heap} {a : Adr}
theorem G_made_tie (T : Txt K mg a) : FnOk P w K mg base (CX1 P w) 1 a.f_made_tie a.d_made_tie ["points", "tie"] (sp_made_tie a.c_BadWeb) := by
  refine T.F_made_tie.ok1 sc_made_tie (fun vs H Q E h => ?_) (fun cdv A outer s H vs Q E hr h => ?_)
  · obtain ⟨p, x, ns, rfl, _⟩ := h
    rfl
  · obtain ⟨p, x0, ns, rfl, ⟨b, rfl, hb⟩, k1, k2⟩ := h
    refine ⟨_, (@pss_cons _ _ _ _ _ (@ps_if _ _ _ _ _ _ _ _ (@pt_cmpR _ _ _ _ _ _ _ _ op_ne (@pe_callB _ _ _ _ _ _ _ _ _ (lenK K) (by rfl) T.n_len PySem.boot_len (@pa_cons _ _ _ _ _ (pv 1) pa_nil (by rfl)) (by decide) (by decide) (by rfl) (by rfl)) pe_int (nomark _)) (@pss_one _ _ _ (@ps_raise _ _ _ _ _ _ _ _ _ _ _ _ _ _ out_of.thr rfl (by rfl) T.x_BadWeb PySem.F.excBase_ValueError (@pa_cons _ _ _ _ _ pe_str pa_nil (by rfl)) (by rfl) (by rfl) (by decide))) pss_nil) (@pss_cons _ _ _ _ _ (@ps_for _ _ _ _ _ _ _ _ PassesOwn.leaving rfl (@piT _ _ _ _ K (@pe_tup _ _ _ _ _ (@pa_cons _ _ _ _ _ (@pe_ix _ _ _ _ _ _ _ (ixS K) (pv 1) pe_int (fun _ _ => rfl)) (@pa_cons _ _ _ _ _ (@pe_ix _ _ _ _ _ _ _ (ixS K) (pv 1) pe_int (fun _ _ => rfl)) pa_nil (by rfl)) (by rfl))) (by rfl)) (pg_name (i := 2) sc_made_tie.nd rfl (Or.inl rfl)) (@pss_one _ _ _ (@ps_if _ _ _ _ _ _ _ _ (PW.pt (@pw_or _ _ _ _ _ _ _ (@pt_cmpR _ _ _ _ _ _ _ _ op_lt (pv 2) pe_int (nomark _)) (@pw_or1 _ _ _ _ (@pt_cmpR _ _ _ _ _ _ _ _ op_ge (pv 2) (pv 0) (nomark _))))) (@pss_one _ _ _ (@ps_raise _ _ _ _ _ _ _ _ _ _ _ _ _ _ out_of.thr rfl (by rfl) T.x_BadWeb PySem.F.excBase_ValueError (@pa_cons _ _ _ _ _ pe_str pa_nil (by rfl)) (by rfl) (by rfl) (by decide))) pss_nil)) (by intro _; rfl)) (@pss_cons _ _ _ _ _ (@ps_if _ _ _ _ _ _ _ _ (@pt_cmpR _ _ _ _ _ _ _ _ op_eq (@pe_ix _ _ _ _ _ _ _ (ixS K) (pv 1) pe_int (fun _ _ => rfl)) (@pe_ix _ _ _ _ _ _ _ (ixS K) (pv 1) pe_int (fun _ _ => rfl)) (nomark _)) (@pss_one _ _ _ (@ps_raise _ _ _ _ _ _ _ _ _ _ _ _ _ _ out_of.thr rfl (by rfl) T.x_BadWeb PySem.F.excBase_ValueError (@pa_cons _ _ _ _ _ pe_str pa_nil (by rfl)) (by rfl) (by rfl) (by decide))) pss_nil) (@pss_cons _ _ _ _ _ (@ps_if _ _ _ _ _ _ _ _ (PW.pt (@pw_or _ _ _ _ _ _ _ (@pt_cmpR _ _ _ _ _ _ _ _ op_lt (@pe_ix _ _ _ _ _ _ _ (ixS K) (pv 1) pe_int (fun _ _ => rfl)) pe_int (nomark _)) (@pw_or1 _ _ _ _ (@pt_cmpR _ _ _ _ _ _ _ _ op_gt (@pe_ix _ _ _ _ _ _ _ (ixS K) (pv 1) pe_int (fun _ _ => rfl)) (@pe_gint _ _ _ _ (by rfl) T.g_LONGEST (by decide)) (nomark _))))) (@pss_one _ _ _ (@ps_raise _ _ _ _ _ _ _ _ _ _ _ _ _ _ out_of.thr rfl (by rfl) T.x_BadWeb PySem.F.excBase_ValueError (@pa_cons _ _ _ _ _ pe_str pa_nil (by rfl)) (by rfl) (by rfl) (by decide))) pss_nil) (@pss_one _ _ _ (@ps_ret _ _ _ _ (@pe_callTy _ _ _ _ _ _ _ _ _ (tuplK K) (by rfl) T.n_tuple PyProof.Rows.boot_tuple (@pa_cons _ _ _ _ _ (pv 1) pa_nil (by rfl)) (by decide) (by decide) (by rfl) (by rfl)))))))), ?_⟩
    refine hd_made_tie ?_
    intro zz0 zz1 zz2 zz3 zz4 zz5 zz6 zz7 zz8
    have hs : SqL K H b (intsV ns) ∨ SqT K H b (intsV ns) := hb.imp SqL.of SqT.of
    by_cases hl : ns.length = 3
    · obtain ⟨x, y, z, rfl⟩ := len3 ns hl
      refine (exq rfl ⟨b, _, rfl, hs, rfl, exq rfl (iteNS rfl ?_)⟩)
      refine (exq rfl (rIx_of hs (v := .int x) (atI_nat (j := 0) rfl) (exq rfl (rIx_of hs (v := .int y) (atI_nat (j := 1) rfl) ⟨(dl rfl), fun q hq => ⟨q, rfl, ⟨_, SqT.of upd_same⟩, ?_⟩⟩))))
      have sq : Same H (upd H q (.tup [.int x, .int y])) := Same.new hq
      have hs' : SqL K (upd H q (.tup [.int x, .int y])) b (intsV [x, y, z]) ∨ SqT K (upd H q (.tup [.int x, .int y])) b (intsV [x, y, z]) := hs.imp sq.seq sq.sqT
      have hb' : upd H q (.tup [.int x, .int y]) b = some (.lst (intsV [x, y, z])) ∨ upd H q (.tup [.int x, .int y]) b = some (.tup (intsV [x, y, z])) := hb.imp (sq _ _) (sq _ _)
      have hq' : upd H q (.tup [.int x, .int y]) q = some (.tup [.int x, .int y]) := upd_same
      generalize upd H q (.tup [.int x, .int y]) = H1 at sq hs' hq' hb'
      have bad : ∀ {e : Prop}, e → (GoodT p [x, y, z] → ¬ e) → E (.ref a.c_BadWeb) none H1 := fun h1 h2 => k2 (fun g => h2 g h1) _ sq
      refine for_tup (K := K) (a := q) (xs := [.int x, .int y]) (fun i σ H2 => ∃ v, σ = [some (.int p), some (.ref b), v] ∧ H2 = H1 ∧ (1 ≤ i → 0 ≤ x ∧ x < p) ∧ (2 ≤ i → 0 ≤ y ∧ y < p)) ⟨none, rfl, rfl, fun z => by (first | lia | omega), fun z => by (first | lia | omega)⟩ (fun i σ H2 _ ⟨_, _, e, _⟩ => by rw [e]; exact SqT.of hq') ?_ ?_
      · rintro i v0 σ H2 hi ⟨v, rfl, rfl, g1, g2⟩
        have hi2 : i = 0 ∨ i = 1 := by
          have := (List.getElem?_eq_some_iff.mp hi).1
          simp at this
          (first | lia | omega)
        rcases hi2 with rfl | rfl
        · cases (Option.some.inj hi)
          refine (exq rfl (ijq (exq rfl (ite2 (fun hlt => ?_) (fun hge => (exq rfl (exq rfl (ijq (exq rfl (ite2 (fun hgt => ?_) (fun hle => ?_)))))))))))
          · exact ⟨dl rfl, bad (of_decide_eq_true hlt) fun g => by have h : 0 ≤ x := (good_of g).a0; (first | lia | omega)⟩
          · exact ⟨dl rfl, bad (of_decide_eq_true hgt) fun g => by have h : x < p := (good_of g).a1; (first | lia | omega)⟩
          · have h1 : ¬ x < 0 := fun z => hge (decide_eq_true z)
            have h2 : ¬ x ≥ p := fun z => hle (decide_eq_true z)
            exact (exq rfl ⟨rfl, fun _ => by (first | lia | omega), fun z => by (first | lia | omega)⟩)
        · cases (Option.some.inj hi)
          refine (exq rfl (ijq (exq rfl (ite2 (fun hlt => ?_) (fun hge => (exq rfl (exq rfl (ijq (exq rfl (ite2 (fun hgt => ?_) (fun hle => ?_)))))))))))
          · exact ⟨dl rfl, bad (of_decide_eq_true hlt) fun g => by have h : 0 ≤ y := (good_of g).b0; (first | lia | omega)⟩
          · exact ⟨dl rfl, bad (of_decide_eq_true hgt) fun g => by have h : y < p := (good_of g).b1; (first | lia | omega)⟩
          · have h1 : ¬ y < 0 := fun z => hge (decide_eq_true z)
            have h2 : ¬ y ≥ p := fun z => hle (decide_eq_true z)
            exact (exq rfl ⟨rfl, fun _ => g1 (Nat.le_refl _), fun _ => by (first | lia | omega)⟩)
      · rintro σ H2 ⟨v, rfl, rfl, g1, g2⟩
        obtain ⟨x0, x1⟩ := g1 (by simp)
        obtain ⟨y0, y1⟩ := g2 (by simp)
        refine (exq rfl (rIx_of hs' (v := .int x) (atI_nat (j := 0) rfl) (exq rfl (rIx_of hs' (v := .int y) (atI_nat (j := 1) rfl) ⟨rfl, exq rfl (ite2 (fun he => ?_) (fun hne => ?_))⟩))))
        · exact ⟨dl rfl, bad (V.int.inj (of_decide_eq_true he)) fun g z => (good_of g).ne z⟩
        have hxy : x ≠ y := fun z => hne (decide_eq_true (congrArg V.int z))
        refine (exq rfl (rIx_of hs' (v := .int z) (atI_nat (j := 2) rfl) (ijq (exq rfl (ite2 (fun hlt => ?_) (fun hge => (exq rfl (rIx_of hs' (v := .int z) (atI_nat (j := 2) rfl) (ijq (exq rfl (ite2 (fun hgt => ?_) (fun hle => ?_))))))))))))
        · exact ⟨dl rfl, bad (of_decide_eq_true hlt) fun g => by have h : 1 ≤ z := (good_of g).l0; (first | lia | omega)⟩
        · exact ⟨dl rfl, bad (of_decide_eq_true hgt) fun g => by have h : z ≤ 1000000000000000000000000000000 := (good_of g).l1; (first | lia | omega)⟩
        have h1 : ¬ z < 1 := fun w => hge (decide_eq_true w)
        have h2 : ¬ z > 1000000000000000000000000000000 := fun w => hle (decide_eq_true w)
        have good : GoodT p [x, y, z] := ⟨(x, y, z), rfl, x0, x1, y0, y1, hxy, by show 1 ≤ z; (first | lia | omega), by show z ≤ _; (first | lia | omega)⟩
        rcases hb' with hb' | hb'
        · exact (exq rfl ⟨b, _, rfl, .inl ⟨SqL.of hb', fun l hl => k1 good l _ (sq.trans (Same.new hl)) upd_same⟩⟩)
        · exact (exq rfl ⟨b, _, rfl, .inr ⟨SqT.of hb', k1 good b _ sq hb'⟩⟩)
    · refine (exq rfl ⟨b, _, rfl, hs, rfl, exq rfl (iteNd (fun z => hl ?_) ⟨dl rfl, k2 (fun g => hl (good_len g)) _ (Same.refl _)⟩)⟩)
      have := V.int.inj z
      rw [intsV_len] at this
      (first | lia | omega)
theorem G_made_web (T : Txt K mg a) : FnOk P w K mg base (CX1 P w) 2 a.f_made_web a.d_made_web ["points", "ties"] (sp_made_web a.c_BadWeb) := by
  have G_made_tie : FnOk P w K mg base (CX1 P w) 1 a.f_made_tie a.d_made_tie ["points", "tie"] (sp_made_tie a.c_BadWeb) := G_made_tie T
  refine T.F_made_web.ok1 sc_made_web (fun vs H Q E h => ?_) (fun cdv A outer s H vs Q E hr h => ?_)
  · obtain ⟨p, l, xs, nss, rfl, _⟩ := h
    rfl
  · obtain ⟨p, l, xs, nss, rfl, hl, hp, k1, k2⟩ := h
    refine ⟨_, (@pss_cons _ _ _ _ _ (@ps_if _ _ _ _ _ _ _ _ (PW.pt (@pw_or _ _ _ _ _ _ _ (@pt_cmpR _ _ _ _ _ _ _ _ op_lt (pv 0) pe_int (nomark _)) (@pw_or1 _ _ _ _ (@pt_cmpR _ _ _ _ _ _ _ _ op_gt (pv 0) (@pe_gint _ _ _ _ (by rfl) T.g_MOST_POINTS (by decide)) (nomark _))))) (@pss_one _ _ _ (@ps_raise _ _ _ _ _ _ _ _ _ _ _ _ _ _ out_of.thr rfl (by rfl) T.x_BadWeb PySem.F.excBase_ValueError (@pa_cons _ _ _ _ _ pe_str pa_nil (by rfl)) (by rfl) (by rfl) (by decide))) pss_nil) (@pss_cons _ _ _ _ _ (@ps_if _ _ _ _ _ _ _ _ (@pt_cmpR _ _ _ _ _ _ _ _ op_gt (@pe_callB _ _ _ _ _ _ _ _ _ (lenK K) (by rfl) T.n_len PySem.boot_len (@pa_cons _ _ _ _ _ (pv 1) pa_nil (by rfl)) (by decide) (by decide) (by rfl) (by rfl)) (@pe_gint _ _ _ _ (by rfl) T.g_MOST_TIES (by decide)) (nomark _)) (@pss_one _ _ _ (@ps_raise _ _ _ _ _ _ _ _ _ _ _ _ _ _ out_of.thr rfl (by rfl) T.x_BadWeb PySem.F.excBase_ValueError (@pa_cons _ _ _ _ _ pe_str pa_nil (by rfl)) (by rfl) (by rfl) (by decide))) pss_nil) (@pss_one _ _ _ (@ps_ret _ _ _ _ (@pe_tup _ _ _ _ _ (@pa_cons _ _ _ _ _ (pv 0) (@pa_cons _ _ _ _ _ (@pe_callTy _ _ _ _ _ _ _ _ _ (tuplK K) (by rfl) T.n_tuple PyProof.Rows.boot_tuple (@pa_cons _ _ _ _ _ (@pe_compE _ _ _ _ _ _ _ _ ["tie"] ["points"] [0] _ _ _ _ out_of (compText_of (defScope s_made_web) ["points", "ties"]) rfl (@piS _ _ _ _ K (pv 1) (by rfl)) (fun _ _ _ _ => (pg_name (i := 0) (show (["tie", "points"] : List Str).Nodup by decide +kernel) rfl (Or.inl rfl))) (fun _ _ _ _ => pts_nil) (fun _ _ _ _ => (pe_call G_made_tie (hr.mono (by decide)) (by rfl) T.m_made_tie T.k_made_tie T.b_made_tie .nil passB (pa_cons (pv 1) (pa_cons (pv 0) pa_nil)))) (by intro _; rfl)) pa_nil (by rfl)) (by decide) (by decide) (by rfl) (by rfl)) pa_nil (by rfl)) (by rfl))))))), ?_⟩
    refine hd_made_web ?_
    intro zz0 zz1 zz2 zz3
    have hs : SqL K H l xs ∨ SqT K H l xs := hl.imp SqL.of SqT.of
    have hlen := hp.length
    have bad : ∀ {e : Prop}, e → (GoodW p nss → ¬ e) → ∀ H', Same H H' → E (.ref a.c_BadWeb) none H' := fun h1 h2 H' s' => k2 (fun g => h2 g h1) H' s'
    refine (exq rfl (ijq (exq rfl (ite2 (fun hlt => ?_) (fun hge => (exq rfl (ijq (exq rfl (ite2 (fun hgt => ?_) (fun hle => ?_))))))))))
    · exact ⟨dl rfl, bad (of_decide_eq_true hlt) (fun g => by have := g.1; (first | lia | omega)) _ (Same.refl _)⟩
    · exact ⟨dl rfl, bad (of_decide_eq_true hgt) (fun g => by have := g.2.1; (first | lia | omega)) _ (Same.refl _)⟩
    have p1 : ¬ p < 1 := fun z => hge (decide_eq_true z)
    have p2 : ¬ p > 10 := fun z => hle (decide_eq_true z)
    refine (exq rfl ⟨l, xs, rfl, hs, _, _, rfl, rfl, exq rfl (ite2 (fun hgt => ?_) (fun hle => ?_))⟩)
    · exact ⟨dl rfl, bad (of_decide_eq_true hgt) (fun g => by have := g.2.2.1; (first | lia | omega)) _ (Same.refl _)⟩
    have p3 : ¬ ((xs.length : Nat) : Int) > 24 := fun z => hle (decide_eq_true z)
    refine (exq rfl (?_))
    have start : ∀ D, H D = none → ((fun (i : Nat) (acc : List V) (H2 : Hp) => Same H H2 ∧ H2 D = some (.lst acc) ∧ Paired (TupI H2) acc (nss.take i) ∧ acc.length = i ∧ ∀ ns ∈ nss.take i, GoodT p ns) 0 [] (upd H D (.lst []))) := fun D hD => ⟨Same.new hD, upd_same, by rw [List.take_zero]; exact .nil, rfl, fun ns hn => by rw [List.take_zero] at hn; cases hn⟩
    have turn : ∀ (D : Addr), H D = none → ∀ (i : Nat) (x : V) (acc : List V) (H2 : Hp), xs[i]? = some x → (Same H H2 ∧ H2 D = some (.lst acc) ∧ Paired (TupI H2) acc (nss.take i) ∧ acc.length = i ∧ ∀ ns ∈ nss.take i, GoodT p ns) →
        sp_made_tie a.c_BadWeb [.int p, x] H2 (fun v H4 => H4 D = some (.lst acc) ∧ (Same H (upd H4 D (.lst (acc ++ [v]))) ∧ upd H4 D (.lst (acc ++ [v])) D = some (.lst (acc ++ [v])) ∧ Paired (TupI (upd H4 D (.lst (acc ++ [v])))) (acc ++ [v]) (nss.take (i + 1)) ∧ (acc ++ [v]).length = i + 1 ∧ ∀ ns ∈ nss.take (i + 1), GoodT p ns)) E := by
      rintro D hD i x acc H2 hx ⟨s2, hd, pr, hac, gd⟩
      obtain ⟨ns, hns, hxt⟩ := Paired.getP hp hx
      refine ⟨p, x, ns, rfl, hxt.same s2, fun g b H4 s4 hb => ?_, fun ng H4 s4 => k2 (fun g => ng (g.2.2.2 ns (List.mem_of_getElem? hns))) _ (s2.trans s4)⟩
      have hd4 : H4 D = some (.lst acc) := s4 _ _ hd
      refine ⟨hd4, (s2.trans s4).put hD, upd_same, ?_, by rw [List.length_append, List.length_singleton, hac], fun m hm => ?_⟩
      · rw [List.take_add_one, hns]
        exact Paired.snoc (Paired.imp' (fun _ _ z => z.tups (s4.tups.trans (Tups.put hd4))) pr) ⟨b, rfl, Tups.put hd4 _ _ hb⟩
      · rw [List.take_add_one, hns] at hm
        rcases List.mem_append.mp hm with z | z
        · exact gd m z
        · have z : m = ns := by simpa using z
          rw [z]
          exact g
    have fin : ∀ (D : Addr) (acc : List V) (H2 : Hp), H D = none → (Same H H2 ∧ H2 D = some (.lst acc) ∧ Paired (TupI H2) acc (nss.take xs.length) ∧ acc.length = xs.length ∧ ∀ ns ∈ nss.take xs.length, GoodT p ns) →
        ∀ l', H2 l' = none → ([V.int p, .ref l'] : List V).length ≤ sizeLine ∧ ∀ w', upd H2 l' (.tup acc) w' = none → Q (.ref w') (upd (upd H2 l' (.tup acc)) w' (.tup [.int p, .ref l'])) := by
      rintro D acc H2 hD ⟨s2, hd, pr, hac, gd⟩ l' hl'
      refine ⟨dl rfl, fun w' hw => ?_⟩
      have n1 : Same H2 (upd H2 l' (.tup acc)) := Same.new hl'
      have n2 := n1.trans (Same.new (o := .tup [.int p, .ref l']) hw)
      rw [hlen, List.take_length] at pr gd
      refine k1 ⟨by (first | lia | omega), by (first | lia | omega), by (first | lia | omega), gd⟩ w' l' acc _ (s2.trans n2) upd_same ?_ (Paired.imp' (fun _ _ z => z.same n2) pr)
      rw [upd_ne (ne_of_none upd_same hw), upd_same]
    rcases hl with hl | hl
    · refine .inl (exq rfl ⟨l, rfl, ⟨xs, SqL.of hl⟩, fun D hD => comp_list (xs := xs) (fun i acc H2 => Same H H2 ∧ H2 D = some (.lst acc) ∧ Paired (TupI H2) acc (nss.take i) ∧ acc.length = i ∧ ∀ ns ∈ nss.take i, GoodT p ns) (start D hD) ?_ (small24 (by (first | lia | omega))) ?_ ?_⟩)
      · rintro i acc H2 _ ⟨s2, hd, pr, hac, _⟩
        exact ⟨SqL.of (s2 _ _ hl), hd, Nat.le_of_eq hac⟩
      · intro i x acc H2 hx hv
        exact ⟨rfl, exq rfl (exq rfl (turn D hD i x acc H2 hx hv))⟩
      · intro acc H2 hv
        exact ⟨D, acc, rfl, .inl ⟨SqL.of hv.2.1, fin D acc H2 hD hv⟩⟩
    · refine .inr (exq rfl ⟨l, rfl, ⟨xs, SqT.of hl⟩, fun D hD => comp_tup (xs := xs) (fun i acc H2 => Same H H2 ∧ H2 D = some (.lst acc) ∧ Paired (TupI H2) acc (nss.take i) ∧ acc.length = i ∧ ∀ ns ∈ nss.take i, GoodT p ns) (start D hD) ?_ (small24 (by (first | lia | omega))) ?_ ?_⟩)
      · rintro i acc H2 _ ⟨s2, hd, pr, hac, _⟩
        exact ⟨SqT.of (s2 _ _ hl), hd, Nat.le_of_eq hac⟩
      · intro i x acc H2 hx hv
        exact ⟨rfl, exq rfl (exq rfl (turn D hD i x acc H2 hx hv))⟩
      · intro acc H2 hv
        exact ⟨D, acc, rfl, .inl ⟨SqL.of hv.2.1, fin D acc H2 hD hv⟩⟩
end

def natT (t : Tie) : List Nat := [t.1.toNat, t.2.1.toNat, t.2.2.toNat]
theorem natT_lt {p : Int} {t : Tie} (hp : p ≤ 10) (g : GoodTie p t) : ∀ n ∈ natT t, n < 10 ^ 60 := fun n hn => by
  have big : (10 : Nat) ^ 60 = 1000000000000000000000000000000000000000000000000000000000000 := by decide
  have h1 := g.a1
  have h2 := g.b1
  have h3 := g.l1
  rw [big]
  rcases List.mem_cons.mp hn with e | hn
  · (first | lia | omega)
  rcases List.mem_cons.mp hn with e | hn
  · (first | lia | omega)
  rcases List.mem_cons.mp hn with e | hn
  · (first | lia | omega)
  · cases hn
theorem log_small {n : Nat} (h : n < 10 ^ 60) : ((n : Nat) : Int).natAbs.log2 < 1920 := by
  rw [Int.natAbs_natCast]
  by_cases e : n = 0
  · rw [e]; decide
  · exact (Nat.log2_lt e).mpr (Nat.lt_trans h (by decide))
theorem join_ok {sep : Str} {ss : List Str} {B : Nat} (hB : ∀ y ∈ ss, y.length ≤ B) (h : ss.length * B + ss.length * sep.length ≤ 16777216) : PySem.JoinOk sep ss = true := by
  unfold PySem.JoinOk
  rw [PySem.StrLaws.joinFits hB h]
  rfl
def rowS (word : Str) (ns : List Nat) : Str := Txt.join " " (word :: ns.map Tx.numS)
theorem zero_mk : Str.ofString "0" = ⟨#[48]⟩ := by decide +kernel
theorem figs : ("0123456789" : Str).cps.toList = [48, 49, 50, 51, 52, 53, 54, 55, 56, 57] := by decide +kernel
theorem fig_iff (c : Nat) : c ∈ ("0123456789" : Str).cps.toList ↔ 48 ≤ c ∧ c ≤ 57 := by
  rw [figs]
  simp only [List.mem_cons, List.not_mem_nil, or_false]
  (first | lia | omega)
theorem small40 {n : Nat} (h : n ≤ 40) : n ≤ sizeLine := Nat.le_trans h (by decide)
theorem len_list (x : Str) : x.length = x.cps.toList.length := by simp [Str.length]
def sp_is_number : Sp := fun vs H Q _ => ∃ x : Str, vs = [.str x] ∧ x.length ≤ 1000 ∧ ∀ H', Same H H' → Q (.bl (Tx.isN x)) H'
def sp_numbers_read : Sp := fun vs H Q _ => ∃ (l : Addr) (ws : List Str), vs = [.ref l] ∧ H l = some (.lst (ws.map V.str)) ∧ ws.length ≤ 40 ∧ (∀ x ∈ ws, x.length ≤ 1000) ∧
  (∀ ns : List Nat, (∀ n ∈ ns, n < 10 ^ 60) → ws = ns.map Tx.numS → ∀ D H', H D = none → Same H H' → H' D = some (.lst (natsV ns)) → Q (.ref D) H') ∧ ((¬ ∃ ns : List Nat, (∀ n ∈ ns, n < 10 ^ 60) ∧ ws = ns.map Tx.numS) → ∀ H', Same H H' → Q .non H')
theorem nums_of : ∀ {ws : List Str}, (∀ x ∈ ws, Tx.IsN x) → ∃ ns : List Nat, (∀ n ∈ ns, n < 10 ^ 60) ∧ ws = ns.map Tx.numS
  | [], _ => ⟨[], (fun _ h => nomatch h), rfl⟩
  | x :: ws, h => by
    obtain ⟨n, h1, rfl⟩ := h x List.mem_cons_self
    obtain ⟨ns, h2, rfl⟩ := nums_of (ws := ws) fun y hy => h y (List.mem_cons_of_mem _ hy)
    exact ⟨n :: ns, fun m hm => (List.mem_cons.mp hm).elim (fun e => e ▸ h1) (h2 m), rfl⟩
theorem not_num {x : Str} (h : x.length = 0 ∨ 60 < x.length) : Tx.isN x = false := Tx.isN_f fun ⟨n, hn, e⟩ => by
  have h1 := Tx.num_len n
  have h2 := Tx.num_len_le (k := 60) (by decide) hn
  rw [e] at h
  (first | lia | omega)
section
variable {P : Program} {w : World} {K : PySem.W.Frag} {mg : Str → Option Value} {base : Heap} {a : Adr}
theorem G_is_number (T : Txt K mg a) : FnOk P w K mg base CX0 1 a.f_is_number a.d_is_number ["word"] sp_is_number := by
  refine T.F_is_number.ok sc_is_number (fun vs H Q E h => ?_) (fun cdv A outer s H vs Q E hr h => ?_)
  · obtain ⟨x, rfl, _⟩ := h
    rfl
  · obtain ⟨x, rfl, hx, q⟩ := h
    refine ⟨_, (@pss_cons _ _ _ _ _ (@ps_if _ _ _ _ _ _ _ _ (PW.pt (@pw_or _ _ _ _ _ _ _ (@pt_cmpR _ _ _ _ _ _ _ _ op_eq (@pe_callB _ _ _ _ _ _ _ _ _ call_len_str (by rfl) T.n_len PySem.boot_len (@pa_cons _ _ _ _ _ (pv 0) pa_nil (by rfl)) (by decide) (by decide) (by rfl) (by rfl)) pe_int (nomark _)) (@pw_or1 _ _ _ _ (@pt_cmpR _ _ _ _ _ _ _ _ op_gt (@pe_callB _ _ _ _ _ _ _ _ _ call_len_str (by rfl) T.n_len PySem.boot_len (@pa_cons _ _ _ _ _ (pv 0) pa_nil (by rfl)) (by decide) (by decide) (by rfl) (by rfl)) (@pe_gint _ _ _ _ (by rfl) T.g_MOST_FIGURES (by decide)) (nomark _))))) (@pss_one _ _ _ (@ps_ret _ _ _ _ pe_bl)) pss_nil) (@pss_one _ _ _ (@ps_ret _ _ _ _ (@pe_and _ _ _ _ _ _ _ (@pe_callB _ _ _ _ _ _ _ _ _ (allK K rfl) (by rfl) T.n_all PyProof.Rows.boot_all (@pa_cons _ _ _ _ _ (@pe_comp _ _ _ _ _ _ _ ["sign"] [] [] _ _ _ _ (compText_of (defScope s_is_number) ["word"]) rfl (@pi_strK _ K _ _ _ (pv 0)) (fun _ _ _ _ => (pg_name (i := 0) (show (["sign"] : List Str).Nodup by decide +kernel) rfl (Or.inl rfl))) (fun _ _ _ _ => pts_nil) (fun _ _ _ _ => (pe_cmpR op_in_str (pv 0) (pe_gstr (by rfl) T.g_FIGURES) (by with_unfolding_all rfl))) (by intro _; rfl)) pa_nil (by rfl)) (by decide) (by decide) (by rfl) (by rfl)) (@pe_one _ _ _ _ _ (@pe_or _ _ _ _ _ _ _ (@pe_cmpR _ _ _ _ _ _ _ _ op_ne (@pe_ix _ _ _ _ _ _ _ (ixStr K) (pv 0) pe_int (fun _ _ => rfl)) pe_str (nomark _)) (@pe_one _ _ _ _ _ (@pe_cmpR _ _ _ _ _ _ _ _ op_eq (pv 0) pe_str (nomark _))))))))), ?_⟩
    refine hd_is_number ?_
    intro zz0 zz1
    have lz : x.length ≤ sizeLine := Nat.le_trans hx (by decide)
    have el := len_list x
    refine (exq rfl (exq rfl ⟨lz, rfl, exq rfl (?_)⟩))
    by_cases h0 : x.length = 0
    · have q := q H (Same.refl _)
      rw [not_num (.inl h0)] at q
      exact iteP (by rw [h0]; rfl) q
    refine iteD (fun z => by have := V.int.inj z; (first | lia | omega)) ?_
    refine (exq rfl (exq rfl ⟨lz, _, _, rfl, rfl, exq rfl (?_)⟩))
    by_cases h6 : 60 < x.length
    · have q := q H (Same.refl _)
      rw [not_num (.inr h6)] at q
      exact iteP (by (first | lia | omega)) q
    refine iteD (by (first | lia | omega)) ?_
    refine (exq rfl (exq rfl (fun D hD => comp_str (x := x) (fun i acc H2 => Same H H2 ∧ H2 D = some (.lst acc) ∧ acc = ((x.cps.toList.take i).map fun c => decide (c ∈ ("0123456789" : Str).cps.toList)).map V.bl) ⟨Same.new hD, upd_same, rfl⟩ ?_ lz ?_ ?_)))
    · rintro i acc H2 _ ⟨s2, hD2, rfl⟩
      exact ⟨hD2, by rw [List.length_map, List.length_map, List.length_take]; exact Nat.min_le_left _ _⟩
    · rintro i acc H2 hi ⟨s2, hD2, rfl⟩
      refine ⟨rfl, exq rfl ⟨(⟨#[x.cps.getD i 0]⟩ : Str), ("0123456789" : Str), rfl, rfl, hD2, s2.put hD, upd_same, ?_⟩⟩
      have hi : i < x.cps.size := hi
      have e1 : x.cps.toList[i]? = some (x.cps.getD i 0) := by
        rw [Array.getElem?_toList]
        simp [hi]
      rw [PySem.StrLaws.found_one, List.take_add_one, e1, Option.toList_some, List.map_append, List.map_append]
      rfl
    · rintro acc H2 ⟨s2, hD2, rfl⟩
      rw [el, List.take_length] at hD2
      refine ⟨D, _, rfl, SqL.of hD2, ?_⟩
      cases hall : (x.cps.toList.map fun c => decide (c ∈ ("0123456789" : Str).cps.toList)).all id with
      | false =>
        have q := q H2 s2
        rw [Tx.isN_f fun ⟨n, hn, e⟩ => by
          rw [List.all_eq_true.mpr] at hall
          · cases hall
          · intro b hb
            obtain ⟨c, hc, rfl⟩ := List.mem_map.mp hb
            rw [e] at hc
            exact decide_eq_true ((fig_iff c).mpr (Tx.digit_in hc))] at q
        exact ⟨false, rfl, iteF q⟩
      | true =>
        have dig : ∀ c ∈ x.cps.toList, 48 ≤ c ∧ c ≤ 57 := fun c hc => (fig_iff c).mp (of_decide_eq_true (List.all_eq_true.mp hall _ (List.mem_map.mpr ⟨c, hc, rfl⟩)))
        refine ⟨true, rfl, iteT ?_⟩
        obtain ⟨c0, hc0⟩ : ∃ c0, x.cps.toList[0]? = some c0 := ⟨_, List.getElem?_eq_getElem (by (first | lia | omega))⟩
        have ne : x.cps.toList ≠ [] := fun z => by rw [z] at hc0; cases hc0
        refine (exq rfl ⟨x, 0, c0, rfl, rfl, lz, atI_nat (j := 0) hc0, rfl, ?_⟩)
        by_cases h48 : c0 = 48
        · subst h48
          rw [decide_eq_true (congrArg V.str zero_mk.symm)]
          refine ⟨false, rfl, iteF (exq rfl ⟨rfl, ?_⟩)⟩
          have q := q H2 s2
          by_cases hx0 : x = Str.ofString "0"
          · rw [Tx.isN_t (Tx.isN_of_signs (by (first | lia | omega)) ne dig fun _ => hx0)] at q
            rw [decide_eq_true (congrArg V.str hx0)]
            exact q
          · rw [Tx.isN_f fun ⟨n, hn, e⟩ => by
              subst e
              have n0 := Tx.num_first n hc0
              subst n0
              exact hx0 Tx.num_zero] at q
            rw [decide_eq_false (fun z => hx0 (V.str.inj z))]
            exact q
        · have ne2 : ¬ V.str ⟨#[c0]⟩ = V.str (Str.ofString "0") := fun z => h48 (by
            rw [zero_mk] at z
            injection z with z
            injection z with z
            simpa using z)
          have q := q H2 s2
          rw [Tx.isN_t (Tx.isN_of_signs (by (first | lia | omega)) ne dig fun z => absurd (Option.some.inj (hc0.symm.trans z)) h48)] at q
          refine ⟨true, ?_, iteT q⟩
          rw [decide_eq_false ne2]
          rfl
theorem G_numbers_read (T : Txt K mg a) : FnOk P w K mg base CX0 2 a.f_numbers_read a.d_numbers_read ["words"] sp_numbers_read := by
  have G_is_number : FnOk P w K mg base CX0 1 a.f_is_number a.d_is_number ["word"] sp_is_number := G_is_number T
  refine T.F_numbers_read.ok sc_numbers_read (fun vs H Q E h => ?_) (fun cdv A outer s H vs Q E hr h => ?_)
  · obtain ⟨l, ws, rfl, _⟩ := h
    rfl
  · obtain ⟨l, ws, rfl, hl, h40, hw, q, q2⟩ := h
    refine ⟨_, (@pss_cons _ _ _ _ _ (@ps_if _ _ _ _ _ _ _ _ (@pt_not _ _ _ _ (@pt_val _ _ _ (@pe_callB _ _ _ _ _ _ _ _ _ (allK K rfl) (by rfl) T.n_all PyProof.Rows.boot_all (@pa_cons _ _ _ _ _ (@pe_comp _ _ _ _ _ _ _ ["word"] [] [] _ _ _ _ (compText_of (defScope s_numbers_read) ["words"]) rfl (@piL _ _ _ _ K (pv 0) (by rfl)) (fun _ _ _ _ => (pg_name (i := 0) (show (["word"] : List Str).Nodup by decide +kernel) rfl (Or.inl rfl))) (fun _ _ _ _ => pts_nil) (fun _ _ _ _ => (pe_call G_is_number (hr.mono (by decide)) (by rfl) T.m_is_number T.k_is_number T.b_is_number .nil pass0 (pa_cons (pv 0) pa_nil))) (by intro _; rfl)) pa_nil (by rfl)) (by decide) (by decide) (by rfl) (by rfl)) (by intro _; rfl))) (@pss_one _ _ _ (@ps_ret _ _ _ _ pe_non)) pss_nil) (@pss_one _ _ _ (@ps_ret _ _ _ _ (@pe_comp _ _ _ _ _ _ _ ["word"] [] [] _ _ _ _ (compText_of (defScope s_numbers_read) ["words"]) rfl (@piL _ _ _ _ K (pv 0) (by rfl)) (fun _ _ _ _ => (pg_name (i := 0) (show (["word"] : List Str).Nodup by decide +kernel) rfl (Or.inl rfl))) (fun _ _ _ _ => pts_nil) (fun _ _ _ _ => (pe_callTy call_int_text (by rfl) T.n_int PyProof.Rows.boot_int (pa_cons (pv 0) pa_nil))) (by intro _; rfl))))), ?_⟩
    refine hd_numbers_read ?_
    intro zz0 zz1
    refine (exq rfl ⟨l, rfl, ⟨_, SqL.of hl⟩, fun D hD => comp_list (xs := ws.map V.str) (fun i acc H2 => Same H H2 ∧ H2 D = some (.lst acc) ∧ acc = ((ws.take i).map Tx.isN).map V.bl) ⟨Same.new hD, upd_same, rfl⟩ ?_ (by rw [List.length_map]; exact small40 h40) ?_ ?_⟩)
    · rintro i acc H2 _ ⟨s2, hD2, rfl⟩
      exact ⟨SqL.of (s2 _ _ hl), hD2, by rw [List.length_map, List.length_map, List.length_take]; exact Nat.min_le_left _ _⟩
    · rintro i y acc H2 hy ⟨s2, hD2, rfl⟩
      rw [List.getElem?_map] at hy
      obtain ⟨x, hx, rfl⟩ := Option.map_eq_some_iff.mp hy
      exact ⟨rfl, exq rfl ⟨x, rfl, hw x (List.mem_of_getElem? hx), fun H3 s3 => ⟨s3 _ _ hD2, (s2.trans s3).put hD, upd_same, by rw [List.take_add_one, hx, Option.toList_some, List.map_append, List.map_append]; rfl⟩⟩⟩
    · rintro acc H2 ⟨s2, hD2, rfl⟩
      rw [List.length_map, List.take_length] at hD2
      refine ⟨D, ws.map Tx.isN, rfl, SqL.of hD2, ?_⟩
      cases hall : (ws.map Tx.isN).all id with
      | false =>
        refine (exq rfl (iteT (q2 (fun ⟨ns, h1, h2⟩ => ?_) _ s2)))
        rw [List.all_eq_true.mpr] at hall
        · cases hall
        · intro b hb
          obtain ⟨x, hx, rfl⟩ := List.mem_map.mp hb
          rw [h2] at hx
          obtain ⟨n, hn, rfl⟩ := List.mem_map.mp hx
          exact Tx.isN_t ⟨n, h1 n hn, rfl⟩
      | true =>
        obtain ⟨ns, hlt, ens⟩ := nums_of (ws := ws) fun x hx => Tx.isN_of (List.all_eq_true.mp hall _ (List.mem_map.mpr ⟨x, hx, rfl⟩))
        have q9 := q ns hlt ens
        subst ens
        have hxl : ((ns.map Tx.numS).map V.str).length = ns.length := by rw [List.length_map, List.length_map]
        have h40 : ns.length ≤ 40 := by rw [List.length_map] at h40; exact h40
        have hget : ∀ (i : Nat) (x : V), ((ns.map Tx.numS).map V.str)[i]? = some x → ∃ n, ns[i]? = some n ∧ x = V.str (Tx.numS n) ∧ n < 10 ^ 60 := fun i x hx => by
          rw [List.getElem?_map, List.getElem?_map] at hx
          obtain ⟨y, hy, rfl⟩ := Option.map_eq_some_iff.mp hx
          obtain ⟨n, hn', rfl⟩ := Option.map_eq_some_iff.mp hy
          exact ⟨n, hn', rfl, hlt n (List.mem_of_getElem? hn')⟩
        refine (exq rfl (iteF ?_))
        refine (exq rfl ⟨l, rfl, ⟨_, SqL.of (s2 _ _ hl)⟩, fun D2 hD2' => comp_list (xs := (ns.map Tx.numS).map V.str) (fun i acc H3 => Same H2 H3 ∧ H3 D2 = some (.lst acc) ∧ acc = natsV (ns.take i)) ⟨Same.new hD2', upd_same, rfl⟩ ?_ (by rw [hxl]; exact small40 (by (first | lia | omega))) ?_ ?_⟩)
        · rintro i acc H3 _ ⟨s3, hD3, rfl⟩
          refine ⟨SqL.of (s3 _ _ (s2 _ _ hl)), hD3, ?_⟩
          rw [natsV_len, List.length_take]
          exact Nat.min_le_left _ _
        · rintro i x acc H3 hx ⟨s3, hD3, rfl⟩
          obtain ⟨n, hi, rfl, hn'⟩ := hget i x hx
          refine ⟨rfl, exq rfl ⟨Tx.numS n, (n : Int), rfl, Tx.num_read hn', Nat.le_trans (Tx.num_len_le (k := 60) (by decide) hn') (by decide), hD3, s3.put hD2', upd_same, ?_⟩⟩
          rw [List.take_add_one, hi, Option.toList_some, natsV_snoc]
        · rintro acc H3 ⟨s3, hD3, rfl⟩
          rw [hxl, List.take_length] at hD3
          exact q9 D2 H3 (s2.free hD2') (s2.trans s3) hD3
end

def Up (n : Nat) (ks : List Nat) : Prop := (∀ i k : Nat, ks[i]? = some k → k < n) ∧ ∀ i j k : Nat, ks[i]? = some j → ks[i + 1]? = some k → j < k
noncomputable def upB (n : Nat) (ks : List Nat) : Bool := @decide (Up n ks) (Classical.propDecidable _)
theorem upB_t {n : Nat} {ks : List Nat} (h : Up n ks) : upB n ks = true := by unfold upB; exact @decide_eq_true _ (Classical.propDecidable _) h
theorem upB_f {n : Nat} {ks : List Nat} (h : ¬ Up n ks) : upB n ks = false := by unfold upB; exact @decide_eq_false _ (Classical.propDecidable _) h
theorem Up.ge {n : Nat} {ks : List Nat} (h : Up n ks) : ∀ i k : Nat, ks[i]? = some k → i ≤ k := by
  intro i
  induction i with
  | zero => intro k _; (first | lia | omega)
  | succ i ih =>
    intro k hk
    obtain ⟨j, hj⟩ : ∃ j, ks[i]? = some j := ⟨_, List.getElem?_eq_getElem (Nat.lt_of_succ_lt (List.getElem?_eq_some_iff.mp hk).1)⟩
    have := ih j hj
    have := h.2 i j k hj hk
    (first | lia | omega)
theorem Up.len {n : Nat} {ks : List Nat} (h : Up n ks) : ks.length ≤ n := by
  cases hl : ks.length with
  | zero => (first | lia | omega)
  | succ m =>
    obtain ⟨k, hk⟩ : ∃ k, ks[m]? = some k := ⟨_, List.getElem?_eq_getElem (by (first | lia | omega))⟩
    have := h.ge m k hk
    have := h.1 m k hk
    (first | lia | omega)
theorem Up.lt {n : Nat} {ks : List Nat} (h : Up n ks) (hn : n ≤ 24) : ∀ k ∈ ks, k < 10 ^ 60 := fun k hk => by
  obtain ⟨i, hi, e⟩ := List.getElem_of_mem hk
  have := h.1 i k (by rw [← e]; exact List.getElem?_eq_getElem hi)
  exact Nat.lt_trans (Nat.lt_of_lt_of_le this hn) (by decide)
def sp_is_signed : Sp := fun vs H Q _ => ∃ x : Str, vs = [.str x] ∧ x.length ≤ 1000 ∧ ∀ H', Same H H' → Q (.bl (Tx.isZ x)) H'
def sp_ascend : Sp := fun vs H Q _ => ∃ (l : Addr) (ks : List Nat) (n : Nat), vs = [.ref l, .int (n : Int)] ∧ H l = some (.lst (natsV ks)) ∧ ∀ H', Same H H' → Q (.bl (upB n ks)) H'
theorem dash_mk : Str.ofString "-" = ⟨#[45]⟩ := by decide +kernel
theorem slice_len (x : Str) (lo hi : Option Int) (h : x.length ≤ 1000) : (Txt.slice x lo hi).length ≤ 1000 := Nat.le_trans (Txt.slice_le x _ _) h
section
variable {P : Program} {w : World} {K : PySem.W.Frag} {mg : Str → Option Value} {base : Heap} {a : Adr}
theorem G_is_signed (T : Txt K mg a) : FnOk P w K mg base CX0 2 a.f_is_signed a.d_is_signed ["word"] sp_is_signed := by
  have G_is_number : FnOk P w K mg base CX0 1 a.f_is_number a.d_is_number ["word"] sp_is_number := G_is_number T
  refine T.F_is_signed.ok sc_is_signed (fun vs H Q E h => ?_) (fun cdv A outer s H vs Q E hr h => ?_)
  · obtain ⟨x, rfl, _⟩ := h
    rfl
  · obtain ⟨x, rfl, hx, q⟩ := h
    refine ⟨_, (@pss_one _ _ _ (@ps_ret _ _ _ _ (@pe_or _ _ _ _ _ _ _ (@pe_call _ _ _ _ _ _ _ _ _ _ _ _ _ _ _ _ G_is_number (hr.mono (by decide)) (by rfl) T.m_is_number T.k_is_number T.b_is_number .nil pass0 (@pa_cons _ _ _ _ _ (pv 0) pa_nil (by rfl)) (by decide) (by rfl) (by rfl)) (@pe_one _ _ _ _ _ (@pe_and _ _ _ _ _ _ _ (@pe_cmpR _ _ _ _ _ _ _ _ op_eq (@pe_slice _ _ _ _ _ _ _ _ _ _ (slS K) (pv 0) po_none (@po_some _ _ _ pe_int)) pe_str (nomark _)) (@pe_and _ _ _ _ _ _ _ (@pe_cmpR _ _ _ _ _ _ _ _ op_ne (pv 0) pe_str (nomark _)) (@pe_one _ _ _ _ _ (@pe_call _ _ _ _ _ _ _ _ _ _ _ _ _ _ _ _ G_is_number (hr.mono (by decide)) (by rfl) T.m_is_number T.k_is_number T.b_is_number .nil pass0 (@pa_cons _ _ _ _ _ (@pe_slice _ _ _ _ _ _ _ _ _ _ (slS K) (pv 0) (@po_some _ _ _ pe_int) po_none) pa_nil (by rfl)) (by decide) (by rfl) (by rfl))))))))), ?_⟩
    have lz : x.length ≤ sizeLine := Nat.le_trans hx (by decide)
    refine (exq rfl ⟨x, rfl, hx, fun H2 s2 => ?_⟩)
    have q2 := q H2 s2
    by_cases hn : Tx.IsN x
    · rw [Tx.isZ_t hn.z] at q2
      rw [Tx.isN_t hn]
      exact ⟨true, rfl, iteT q2⟩
    rw [Tx.isN_f hn]
    refine ⟨false, rfl, iteF ?_⟩
    refine (exq rfl (exq rfl ⟨x, rfl, lz, rfl, ?_⟩))
    by_cases hm : Txt.slice x none (some 1) = Str.ofString "-"
    · rw [decide_eq_true (congrArg V.str hm)]
      refine ⟨true, rfl, iteT (exq rfl ⟨rfl, ?_⟩)⟩
      have ex := Tx.minus_of hm
      by_cases h0 : x = Str.ofString "-0"
      · rw [decide_eq_true (congrArg V.str h0)]
        rw [Tx.isZ_f fun ⟨z, hz, e⟩ => by
          by_cases z0 : 0 ≤ z
          · rw [Tx.int_pos z0] at e
            exact hn ⟨z.toNat, by (first | lia | omega), e⟩
          · have y := Tx.int_neg (z := z) (by (first | lia | omega))
            have y0 : (Str.ofString "-0").cps.toList = [45, 48] := by decide +kernel
            rw [← e, h0, y0] at y
            injection y with _ y
            have n0 := Tx.num_first (-z).toNat (by rw [← y]; rfl)
            (first | lia | omega)] at q2
        exact ⟨false, rfl, iteF q2⟩
      · rw [decide_eq_false (fun y => h0 (V.str.inj y))]
        refine ⟨true, rfl, iteT (exq rfl (exq rfl ⟨x, rfl, lz, _, rfl, slice_len x _ _ hx, fun H3 s3 => ?_⟩))⟩
        have q3 := q H3 (s2.trans s3)
        by_cases hy : Tx.IsN (Txt.slice x (some 1) none)
        · rw [Tx.isZ_t (Tx.isZ_of_minus ex h0 hy)] at q3
          rw [Tx.isN_t hy]
          exact q3
        · rw [Tx.isN_f hy]
          rw [Tx.isZ_f fun ⟨z, hz, e⟩ => by
            by_cases z0 : 0 ≤ z
            · rw [Tx.int_pos z0] at e
              exact hn ⟨z.toNat, by (first | lia | omega), e⟩
            · subst e
              rw [Tx.int_rest (by (first | lia | omega))] at hy
              exact hy ⟨(-z).toNat, by (first | lia | omega), rfl⟩] at q3
          exact q3
    · rw [decide_eq_false (fun y => hm (V.str.inj y))]
      rw [Tx.isZ_f fun ⟨z, hz, e⟩ => by
        by_cases z0 : 0 ≤ z
        · rw [Tx.int_pos z0] at e
          exact hn ⟨z.toNat, by (first | lia | omega), e⟩
        · subst e
          exact hm ((Tx.int_first (by (first | lia | omega))).trans dash_mk.symm)] at q2
      exact ⟨false, rfl, iteF q2⟩
theorem G_ascend_below (T : Txt K mg a) : FnOk P w K mg base CX0 1 a.f_ascend_below a.d_ascend_below ["numbers", "bound"] sp_ascend := by
  refine T.F_ascend_below.ok sc_ascend_below (fun vs H Q E h => ?_) (fun cdv A outer s H vs Q E hr h => ?_)
  · obtain ⟨l, ks, n, rfl, _⟩ := h
    rfl
  · obtain ⟨l, ks, n, rfl, hl, q⟩ := h
    refine ⟨_, (@pss_cons _ _ _ _ _ (@ps_for _ _ _ _ _ _ _ _ PassesOwn.never rfl (@pi_enum _ _ _ _ K _ _ _ _ (by rfl) T.n_enumerate (@pa_cons _ _ _ _ _ (pv 0) pa_nil (by rfl)) (by rfl) (by rfl)) (@pgT _ _ K _ _ 2 _ rfl (@pgs_cons _ _ _ _ _ (pg_name (i := 2) sc_ascend_below.nd rfl (Or.inl rfl)) (@pgs_cons _ _ _ _ _ (pg_name (i := 3) sc_ascend_below.nd rfl (Or.inl rfl)) pgs_nil (by rfl)) (by rfl)) (by rfl) (by rfl) (by rfl)) (@pss_one _ _ _ (@ps_if _ _ _ _ _ _ _ _ (PW.pt (@pw_or _ _ _ _ _ _ _ (@pt_cmpR _ _ _ _ _ _ _ _ op_ge (pv 3) (pv 1) (nomark _)) (@pw_or1 _ _ _ _ (PW.pt (@pw_and _ _ _ _ _ _ _ (@pt_cmpR _ _ _ _ _ _ _ _ op_gt (pv 2) pe_int (nomark _)) (@pw_and1 _ _ _ _ (@pt_cmpR _ _ _ _ _ _ _ _ op_le (pv 3) (@pe_ix _ _ _ _ _ _ _ (ixL K) (pv 0) (@pe_op _ _ _ _ _ _ _ _ op_sub (pv 2) pe_int) (fun _ _ => rfl)) (nomark _)))))))) (@pss_one _ _ _ (@ps_ret _ _ _ _ pe_bl)) pss_nil)) (by intro _; rfl)) (@pss_one _ _ _ (@ps_ret _ _ _ _ pe_bl))), ?_⟩
    refine hd_ascend_below ?_
    intro zz0 zz1 zz2
    refine (exq rfl ⟨l, rfl, ⟨_, SqL.of hl⟩, for_enum (K := K) (a := l) (xs := natsV ks) (fun i σ H2 => (∃ v2 v3, σ = [some (.ref l), some (.int (n : Int)), v2, v3]) ∧ Same H H2 ∧ (∀ j k : Nat, j < i → ks[j]? = some k → k < n) ∧ ∀ j u v : Nat, j + 1 < i → ks[j]? = some u → ks[j + 1]? = some v → u < v) ⟨⟨none, none, rfl⟩, Same.refl _, fun j k z => absurd z (by (first | lia | omega)), fun j u v z => absurd z (by (first | lia | omega))⟩ (fun i σ H2 _ z => SqL.of (z.2.1 _ _ hl)) ?_ ?_⟩)
    · rintro i x T0 σ H2 hx ⟨⟨v3, v4, rfl⟩, s2, p1, p2⟩ hT
      obtain ⟨c, hc, rfl⟩ := natsV_get hx
      have s3 := s2.trans (Same.new (o := .tup [.int (i : Int), .int (c : Int)]) hT)
      have no : ¬ Up n ks → ∀ H', Same H H' → Q (.bl false) H' := fun z H' s' => by
        have y := q H' s'
        rw [upB_f z] at y
        exact y
      refine ⟨T0, _, rfl, SqT.of upd_same, rfl, _, _, rfl, _, _, rfl, rfl, ?_⟩
      refine (exq rfl (exq rfl (ijq (exq rfl (?_)))))
      by_cases hcn : c < n
      case neg => exact iteP (by (first | lia | omega)) (no (fun u => hcn (u.1 i c hc)) _ s3)
      have p1' : ∀ j k : Nat, j < i + 1 → ks[j]? = some k → k < n := fun j k hj hk => by
        by_cases e : j = i
        · subst e
          rw [hc] at hk
          cases hk
          exact hcn
        · exact p1 j k (by (first | lia | omega)) hk
      refine iteD (by (first | lia | omega)) ?_
      cases i with
      | zero => exact (exq rfl (ijq (exq rfl (iteD (by decide) ⟨⟨_, _, rfl⟩, s3, p1', fun j u v z => absurd z (by (first | lia | omega))⟩))))
      | succ i =>
        obtain ⟨j, hj⟩ : ∃ j, ks[i]? = some j := ⟨_, List.getElem?_eq_getElem (Nat.lt_of_succ_lt (List.getElem?_eq_some_iff.mp hc).1)⟩
        refine (exq rfl (ijq (exq rfl (iteP (by (first | lia | omega)) ?_))))
        have hat : atI (natsV ks) (((i + 1 : Nat) : Int) - 1) = some (.int (j : Int)) := by
          rw [show ((i + 1 : Nat) : Int) - 1 = (i : Int) by (first | lia | omega)]
          exact atI_nat (j := i) (by unfold natsV; rw [List.getElem?_map, hj]; rfl)
        refine (exq rfl (exq rfl (exq rfl (ijq (ixl (v := .int (j : Int)) (SqL.of (s3 _ _ hl)) (hat) (?_))))))
        refine (ijq (exq rfl (?_)))
        by_cases hjc : j < c
        · refine iteD (by (first | lia | omega)) ⟨⟨_, _, rfl⟩, s3, p1', fun j' u v z hu hv => ?_⟩
          by_cases e : j' = i
          · subst e
            rw [hj] at hu
            rw [hc] at hv
            cases hu
            cases hv
            exact hjc
          · exact p2 j' u v (by (first | lia | omega)) hu hv
        · exact iteP (by (first | lia | omega)) (no (fun u => hjc (u.2 i j c hj hc)) _ s3)
    · rintro σ H2 ⟨⟨v3, v4, rfl⟩, s2, p1, p2⟩
      have y := q _ s2
      rw [upB_t ⟨fun i k hk => p1 i k (by rw [natsV_len]; exact (List.getElem?_eq_some_iff.mp hk).1) hk, fun i j k hj hk => p2 i j k (by rw [natsV_len]; exact (List.getElem?_eq_some_iff.mp hk).1) hj hk⟩] at y
      exact y
end
def castI (ks : List Nat) : List Int := ks.map fun k : Nat => (k : Int)
theorem castI_v (ks : List Nat) : intsV (castI ks) = natsV ks := by
  unfold intsV castI natsV
  rw [List.map_map]
  rfl
inductive AskOk (n : Nat) : Str → List Int → Prop
  | bare {x : Str} (h : x = "lengths" ∨ x = "base" ∨ x = "forests") : AskOk n x []
  | ties {x : Str} {ks : List Nat} (h : x = "even" ∨ x = "cut" ∨ x = "odd") (up : Up n ks) (hl : ks.length ≤ 10) : AskOk n x (castI ks)
  | heights {r : Nat} {zs : List Int} (h1 : r ≠ 1) (hr : r < 10 ^ 60) (hl : zs.length = n) (hz : ∀ z ∈ zs, z.natAbs < 10 ^ 60) : AskOk n "heights" ((r : Int) :: zs)
def askV (x : Str) (zs : List Int) : List V := (x :: zs.map Tx.intS).map V.str
def AskAt (H : Hp) (r : Addr) (x : Str) (zs : List Int) : Prop := ∃ b, H r = some (.tup [.str x, .ref b]) ∧ H b = some (.tup (intsV zs))
def wordsV (x : Str) (ws : List Str) : List V := (x :: ws).map V.str
def Wds (ws : List Str) : Prop := ws.length ≤ 40 ∧ ∀ x ∈ ws, x.length ≤ 1000
def sp_asked : Sp := fun vs H Q _ => ∃ (wb l : Addr) (p : Nat) (ts : List Tie) (x : Str) (ws : List Str), vs = [.ref wb, .ref l] ∧ WebAt H wb p ts ∧ ts.length ≤ 9 ∧ H l = some (.lst (wordsV x ws)) ∧ Wds ws ∧ PyData.strOk x = true ∧
  (∀ zs, AskOk ts.length x zs → ws = zs.map Tx.intS → ∀ r H', H r = none → Same H H' → AskAt H' r x zs → Q (.ref r) H') ∧ ((¬ ∃ zs, AskOk ts.length x zs ∧ ws = zs.map Tx.intS) → ∀ H', Same H H' → Q .non H')
def sp_ties_asked : Sp := fun vs H Q _ => ∃ (wb l : Addr) (p : Nat) (ts : List Tie) (x : Str) (ws : List Str), vs = [.ref wb, .ref l] ∧ WebAt H wb p ts ∧ ts.length ≤ 9 ∧ H l = some (.lst (wordsV x ws)) ∧ Wds ws ∧
  (∀ ks, Up ts.length ks → ws = ks.map Tx.numS → ∀ r H', H r = none → Same H H' → AskAt H' r x (castI ks) → Q (.ref r) H') ∧ ((¬ ∃ ks, Up ts.length ks ∧ ws = ks.map Tx.numS) → ∀ H', Same H H' → Q .non H')
def HtOk (n : Nat) (ws : List Str) (r0 : Nat) (zs : List Int) : Prop := r0 ≠ 1 ∧ r0 < 10 ^ 60 ∧ zs.length = n ∧ (∀ z ∈ zs, z.natAbs < 10 ^ 60) ∧ ws = Tx.numS r0 :: zs.map Tx.intS
def sp_heights_asked : Sp := fun vs H Q _ => ∃ (wb l : Addr) (p : Nat) (ts : List Tie) (x : Str) (ws : List Str), vs = [.ref wb, .ref l] ∧ WebAt H wb p ts ∧ ts.length ≤ 9 ∧ H l = some (.lst (wordsV x ws)) ∧ Wds ws ∧
  (∀ r0 zs, HtOk ts.length ws r0 zs → ∀ r H', H r = none → Same H H' → AskAt H' r x ((r0 : Int) :: zs) → Q (.ref r) H') ∧ ((¬ ∃ r0 zs, HtOk ts.length ws r0 zs) → ∀ H', Same H H' → Q .non H')
theorem zs_of : ∀ {ws : List Str}, (∀ x ∈ ws, Tx.IsZ x) → ∃ zs : List Int, (∀ z ∈ zs, z.natAbs < 10 ^ 60) ∧ ws = zs.map Tx.intS
  | [], _ => ⟨[], (fun _ h => nomatch h), rfl⟩
  | x :: ws, h => by
    obtain ⟨n, h1, rfl⟩ := h x List.mem_cons_self
    obtain ⟨ns, h2, rfl⟩ := zs_of (ws := ws) fun y hy => h y (List.mem_cons_of_mem _ hy)
    exact ⟨n :: ns, fun m hm => (List.mem_cons.mp hm).elim (fun e => e ▸ h1) (h2 m), rfl⟩
theorem nums_inj : ∀ {ks ks' : List Nat}, (∀ n ∈ ks, n < 10 ^ 60) → (∀ n ∈ ks', n < 10 ^ 60) → ks.map Tx.numS = ks'.map Tx.numS → ks = ks'
  | [], [], _, _, _ => rfl
  | [], _ :: _, _, _, h => nomatch h
  | _ :: _, [], _, _, h => nomatch h
  | a :: ks, b :: ks', h1, h2, h => by
    obtain ⟨e1, e2⟩ := List.cons.inj h
    have ea := Tx.num_read (h1 a List.mem_cons_self)
    rw [show Tx.numS a = Tx.numS b from e1, Tx.num_read (h2 b List.mem_cons_self)] at ea
    have eab : (b : Int) = (a : Int) := Option.some.inj ea
    rw [nums_inj (fun n hn => h1 n (List.mem_cons_of_mem _ hn)) (fun n hn => h2 n (List.mem_cons_of_mem _ hn)) e2, show a = b by (first | lia | omega)]
theorem cut_tail (x : V) (xs : List V) : cutV (x :: xs) (some 1) none = xs := by
  unfold cutV
  rw [show (some 1 : Option Int) = some ((1 : Nat) : Int) from rfl, HT.sIx_nat, HT.sIx_none, List.length_cons, Nat.min_eq_left (by (first | lia | omega))]
  show xs.take (xs.length + 1 - 1) = xs
  rw [Nat.add_sub_cancel, List.take_length]
theorem cut_tail2 (x y : V) (xs : List V) : cutV (x :: y :: xs) (some 2) none = xs := by
  unfold cutV
  rw [show (some 2 : Option Int) = some ((2 : Nat) : Int) from rfl, HT.sIx_nat, HT.sIx_none, List.length_cons, List.length_cons, Nat.min_eq_left (by (first | lia | omega))]
  show xs.take (xs.length + 1 + 1 - 2) = xs
  rw [show xs.length + 1 + 1 - 2 = xs.length by (first | lia | omega), List.take_length]
theorem cut_one (x y : V) (xs : List V) : cutV (x :: y :: xs) (some 1) (some 2) = [y] := by
  unfold cutV
  rw [show (some 1 : Option Int) = some ((1 : Nat) : Int) from rfl, show (some 2 : Option Int) = some ((2 : Nat) : Int) from rfl, HT.sIx_nat, HT.sIx_nat, List.length_cons, List.length_cons, Nat.min_eq_left (by (first | lia | omega)), Nat.min_eq_left (by (first | lia | omega))]
  rfl
theorem cut_none (x : V) : cutV [x] (some 1) (some 2) = [] := by
  unfold cutV
  rw [show (some 1 : Option Int) = some ((1 : Nat) : Int) from rfl, show (some 2 : Option Int) = some ((2 : Nat) : Int) from rfl, HT.sIx_nat, HT.sIx_nat]
  rfl
theorem cut_none2 (x : V) : cutV [x] (some 2) none = [] := by
  unfold cutV
  rw [show (some 2 : Option Int) = some ((2 : Nat) : Int) from rfl, HT.sIx_nat, HT.sIx_none]
  rfl
section
variable {P : Program} {w : World} {K : PySem.W.Frag} {mg : Str → Option Value} {base : Heap} {a : Adr}
theorem G_ties_asked (T : Txt K mg a) : FnOk P w K mg base CX0 3 a.f_ties_asked a.d_ties_asked ["web", "words"] sp_ties_asked := by
  have G_numbers_read : FnOk P w K mg base CX0 2 a.f_numbers_read a.d_numbers_read ["words"] sp_numbers_read := G_numbers_read T
  have G_ascend_below : FnOk P w K mg base CX0 1 a.f_ascend_below a.d_ascend_below ["numbers", "bound"] sp_ascend := G_ascend_below T
  refine T.F_ties_asked.ok sc_ties_asked (fun vs H Q E h => ?_) (fun cdv A outer s H vs Q E hr h => ?_)
  · obtain ⟨wb, l, p, ts, x, ws, rfl, _⟩ := h
    rfl
  · obtain ⟨wb, l, p, ts, x, ws, rfl, hw, h9, hl, wd, q, q2⟩ := h
    refine ⟨_, (@pss_cons _ _ _ _ _ (@ps_set _ _ 2 _ _ _ _ sc_ties_asked.nd rfl (Or.inl rfl) (@pe_call _ _ _ _ _ _ _ _ _ _ _ _ _ _ _ _ G_numbers_read (hr.mono (by decide)) (by rfl) T.m_numbers_read T.k_numbers_read T.b_numbers_read .nil pass0 (@pa_cons _ _ _ _ _ (@pe_slice _ _ _ _ _ _ _ _ _ _ (slL K) (pv 1) (@po_some _ _ _ pe_int) po_none) pa_nil (by rfl)) (by decide) (by rfl) (by rfl)) (by rfl) (by first | exact .inl rfl | exact .inr rfl | assumption)) (@pss_cons _ _ _ _ _ (@ps_if _ _ _ _ _ _ _ _ (PW.pt (@pw_or _ _ _ _ _ _ _ (@pt_cmpR _ _ _ _ _ _ _ _ op_isN (pv 2) pe_non (nomark _)) (@pw_or1 _ _ _ _ (@pt_not _ _ _ _ (@pt_val _ _ _ (@pe_call _ _ _ _ _ _ _ _ _ _ _ _ _ _ _ _ G_ascend_below (hr.mono (by decide)) (by rfl) T.m_ascend_below T.k_ascend_below T.b_ascend_below .nil pass0 (@pa_cons _ _ _ _ _ (pv 2) (@pa_cons _ _ _ _ _ (@pe_callB _ _ _ _ _ _ _ _ _ (lenK K) (by rfl) T.n_len PySem.boot_len (@pa_cons _ _ _ _ _ (@pe_ix _ _ _ _ _ _ _ (ixT K) (pv 0) pe_int (fun _ _ => rfl)) pa_nil (by rfl)) (by decide) (by decide) (by rfl) (by rfl)) pa_nil (by rfl)) (by rfl)) (by decide) (by rfl) (by rfl)) (by intro _; rfl)))))) (@pss_one _ _ _ (@ps_ret _ _ _ _ pe_non)) pss_nil) (@pss_one _ _ _ (@ps_ret _ _ _ _ (@pe_tup _ _ _ _ _ (@pa_cons _ _ _ _ _ (@pe_ix _ _ _ _ _ _ _ (ixL K) (pv 1) pe_int (fun _ _ => rfl)) (@pa_cons _ _ _ _ _ (@pe_callTy _ _ _ _ _ _ _ _ _ (tuplK K) (by rfl) T.n_tuple PyProof.Rows.boot_tuple (@pa_cons _ _ _ _ _ (pv 2) pa_nil (by rfl)) (by decide) (by decide) (by rfl) (by rfl)) pa_nil (by rfl)) (by rfl))))))), ?_⟩
    refine hd_ties_asked ?_
    intro zz0 zz1 zz2
    have hl : H l = some (.lst (.str x :: ws.map V.str)) := hl
    refine (exq rfl (exq rfl ⟨l, _, rfl, SqL.of hl, fun c hc => ?_⟩))
    rw [cut_tail]
    have s1 : Same H (upd H c (.lst (ws.map V.str))) := Same.new hc
    refine ⟨c, ws, rfl, upd_same, wd.1, wd.2, fun ks klt ek D H2 hD s2 hD2 => ?_, fun no H2 s2 => ?_⟩
    case refine_2 => exact (exq rfl ⟨rfl, exq rfl (iteT (q2 (fun ⟨ks, up, e⟩ => no ⟨ks, up.lt (by (first | lia | omega)), e⟩) _ (s1.trans s2)))⟩)
    have s12 := s1.trans s2
    obtain ⟨bt, xs, h1, h2, h3⟩ := id (hw.same s12).ex
    have hxl := h3.length
    refine (exq rfl ⟨rfl, exq rfl (iteF ?_)⟩)
    refine (exq rfl (exq rfl (ixq (SqT.of h1) (atI_nat (j := 1) rfl) ⟨bt, xs, rfl, .inr (SqT.of h2), ?_⟩)))
    rw [hxl]
    refine ⟨D, ks, ts.length, rfl, hD2, fun H3 s3 => ?_⟩
    by_cases up : Up ts.length ks
    case neg =>
      rw [upB_f up]
      exact (exq rfl (iteT (q2 (fun ⟨ks', up', e⟩ => up (by
        have e2 : ks = ks' := nums_inj klt (up'.lt (by (first | lia | omega))) (ek.symm.trans e)
        rw [e2]
        exact up')) _ (s12.trans s3))))
    rw [upB_t up]
    refine (exq rfl (iteF ?_))
    refine (exq rfl (ixl (SqL.of ((s12.trans s3) _ _ hl)) (atI_nat (j := 0) rfl) (?_)))
    refine (exq rfl ⟨D, natsV ks, rfl, .inl ⟨SqL.of (s3 _ _ hD2), fun b hb => ⟨dl rfl, fun r hr' => ?_⟩⟩⟩)
    have s4 : Same H3 (upd H3 b (.tup (natsV ks))) := Same.new hb
    have hb4 : upd H3 b (.tup (natsV ks)) b = some (.tup (natsV ks)) := upd_same
    have s5 := Same.new (o := .tup [.str x, .ref b]) hr'
    exact q ks up ek r _ (((s12.trans s3).trans s4).free hr') (((s12.trans s3).trans s4).trans s5) ⟨b, upd_same, by rw [castI_v]; exact s5 _ _ hb4⟩
end

theorem eqv_str (a b : Str) : PyData.eqv (.str a) (.str b) = decide (a = b) := by
  rw [show PyData.eqv (.str a) (.str b) = (a == b) by simp [PyData.eqv]]
  by_cases h : a = b
  · rw [decide_eq_true h]
    exact beq_iff_eq.mpr h
  · rw [decide_eq_false h]
    exact beq_eq_false_iff_ne.mpr h
theorem any3 (a b c x : Str) : ([PyData.str a, .str b, .str c].any fun e => PyData.eqv e (.str x)) = decide (x = a ∨ x = b ∨ x = c) := by
  rw [List.any_cons, List.any_cons, List.any_cons, List.any_nil, eqv_str, eqv_str, eqv_str, Bool.or_false, ← Bool.decide_or, ← Bool.decide_or]
  congr 1
  rw [eq_comm (a := a), eq_comm (a := b), eq_comm (a := c)]
theorem shaped_bare : SeqAt.shaped (.tuple [PyData.str "lengths", .str "base", .str "forests"]) = true := by decide +kernel
theorem shaped_ties : SeqAt.shaped (.tuple [PyData.str "even", .str "cut", .str "odd"]) = true := by decide +kernel
theorem shaped_str {x : Str} (h : PyData.strOk x = true) : SeqAt.shaped (.str x) = true := by
  unfold SeqAt.shaped
  simp [PyData.canLay0, h, PyData.depth]
theorem words_apart : (("lengths" : Str) ≠ "even" ∧ ("lengths" : Str) ≠ "cut" ∧ ("lengths" : Str) ≠ "odd" ∧ ("lengths" : Str) ≠ "heights") ∧ (("base" : Str) ≠ "even" ∧ ("base" : Str) ≠ "cut" ∧ ("base" : Str) ≠ "odd" ∧ ("base" : Str) ≠ "heights") ∧ (("forests" : Str) ≠ "even" ∧ ("forests" : Str) ≠ "cut" ∧ ("forests" : Str) ≠ "odd" ∧ ("forests" : Str) ≠ "heights") ∧ ("heights" : Str) ≠ "even" ∧ ("heights" : Str) ≠ "cut" ∧ ("heights" : Str) ≠ "odd" := by decide +kernel
theorem bare_apart {x : Str} (h : x = "lengths" ∨ x = "base" ∨ x = "forests") : ¬ (x = "even" ∨ x = "cut" ∨ x = "odd") ∧ x ≠ "heights" := by
  obtain ⟨h1, h2, h3, _⟩ := words_apart
  rcases h with rfl | rfl | rfl
  · exact ⟨fun y => y.elim h1.1 fun y => y.elim h1.2.1 h1.2.2.1, h1.2.2.2⟩
  · exact ⟨fun y => y.elim h2.1 fun y => y.elim h2.2.1 h2.2.2.1, h2.2.2.2⟩
  · exact ⟨fun y => y.elim h3.1 fun y => y.elim h3.2.1 h3.2.2.1, h3.2.2.2⟩
theorem ties_apart {x : Str} (h : x = "even" ∨ x = "cut" ∨ x = "odd") : x ≠ "heights" := fun e => by
  subst e
  exact h.elim words_apart.2.2.2.1 fun y => y.elim words_apart.2.2.2.2.1 words_apart.2.2.2.2.2
section
variable {P : Program} {w : World} {K : PySem.W.Frag} {mg : Str → Option Value} {base : Heap} {a : Adr}
theorem G_heights_asked (T : Txt K mg a) : FnOk P w K mg base CX0 3 a.f_heights_asked a.d_heights_asked ["web", "words"] sp_heights_asked := by
  have G_numbers_read : FnOk P w K mg base CX0 2 a.f_numbers_read a.d_numbers_read ["words"] sp_numbers_read := G_numbers_read T
  have G_is_signed : FnOk P w K mg base CX0 2 a.f_is_signed a.d_is_signed ["word"] sp_is_signed := G_is_signed T
  refine T.F_heights_asked.ok sc_heights_asked (fun vs H Q E h => ?_) (fun cdv A outer s H vs Q E hr h => ?_)
  · obtain ⟨wb, l, p, ts, x, ws, rfl, _⟩ := h
    rfl
  · obtain ⟨wb, l, p, ts, x, ws, rfl, hw, h9, hl, wd, q, q2⟩ := h
    refine ⟨_, (@pss_cons _ _ _ _ _ (@ps_set _ _ 2 _ _ _ _ sc_heights_asked.nd rfl (Or.inl rfl) (@pe_call _ _ _ _ _ _ _ _ _ _ _ _ _ _ _ _ G_numbers_read (hr.mono (by decide)) (by rfl) T.m_numbers_read T.k_numbers_read T.b_numbers_read .nil pass0 (@pa_cons _ _ _ _ _ (@pe_slice _ _ _ _ _ _ _ _ _ _ (slL K) (pv 1) (@po_some _ _ _ pe_int) (@po_some _ _ _ pe_int)) pa_nil (by rfl)) (by decide) (by rfl) (by rfl)) (by rfl) (by first | exact .inl rfl | exact .inr rfl | assumption)) (@pss_cons _ _ _ _ _ (@ps_set _ _ 3 _ _ _ _ sc_heights_asked.nd rfl (Or.inl rfl) (@pe_slice _ _ _ _ _ _ _ _ _ _ (slL K) (pv 1) (@po_some _ _ _ pe_int) po_none) (by rfl) (by first | exact .inl rfl | exact .inr rfl | assumption)) (@pss_cons _ _ _ _ _ (@ps_if _ _ _ _ _ _ _ _ (PW.pt (@pw_or _ _ _ _ _ _ _ (@pt_cmpR _ _ _ _ _ _ _ _ op_isN (pv 2) pe_non (nomark _)) (@pw_or _ _ _ _ _ _ _ (@pt_cmpR _ _ _ _ _ _ _ _ (op_inD K hr.units65) (pv 2) (@pe_tup _ _ _ _ _ (@pa_cons _ _ _ _ _ (@pe_lst _ _ _ _ pa_nil) (@pa_cons _ _ _ _ _ (@pe_lst _ _ _ _ (@pa_cons _ _ _ _ _ pe_int pa_nil (by rfl))) pa_nil (by rfl)) (by rfl))) (by with_unfolding_all rfl)) (@pw_or1 _ _ _ _ (@pt_cmpR _ _ _ _ _ _ _ _ op_ne (@pe_callB _ _ _ _ _ _ _ _ _ (lenK K) (by rfl) T.n_len PySem.boot_len (@pa_cons _ _ _ _ _ (pv 3) pa_nil (by rfl)) (by decide) (by decide) (by rfl) (by rfl)) (@pe_callB _ _ _ _ _ _ _ _ _ (lenK K) (by rfl) T.n_len PySem.boot_len (@pa_cons _ _ _ _ _ (@pe_ix _ _ _ _ _ _ _ (ixT K) (pv 0) pe_int (fun _ _ => rfl)) pa_nil (by rfl)) (by decide) (by decide) (by rfl) (by rfl)) (nomark _)))))) (@pss_one _ _ _ (@ps_ret _ _ _ _ pe_non)) pss_nil) (@pss_cons _ _ _ _ _ (@ps_if _ _ _ _ _ _ _ _ (@pt_not _ _ _ _ (@pt_val _ _ _ (@pe_callB _ _ _ _ _ _ _ _ _ (allK K rfl) (by rfl) T.n_all PyProof.Rows.boot_all (@pa_cons _ _ _ _ _ (@pe_comp _ _ _ _ _ _ _ ["word"] [] [] _ _ _ _ (compText_of (defScope s_heights_asked) ["web", "words", "rest", "row"]) rfl (@piL _ _ _ _ K (pv 3) (by rfl)) (fun _ _ _ _ => (pg_name (i := 0) (show (["word"] : List Str).Nodup by decide +kernel) rfl (Or.inl rfl))) (fun _ _ _ _ => pts_nil) (fun _ _ _ _ => (pe_call G_is_signed (hr.mono (by decide)) (by rfl) T.m_is_signed T.k_is_signed T.b_is_signed .nil pass0 (pa_cons (pv 0) pa_nil))) (by intro _; rfl)) pa_nil (by rfl)) (by decide) (by decide) (by rfl) (by rfl)) (by intro _; rfl))) (@pss_one _ _ _ (@ps_ret _ _ _ _ pe_non)) pss_nil) (@pss_one _ _ _ (@ps_ret _ _ _ _ (@pe_tup _ _ _ _ _ (@pa_cons _ _ _ _ _ (@pe_ix _ _ _ _ _ _ _ (ixL K) (pv 1) pe_int (fun _ _ => rfl)) (@pa_cons _ _ _ _ _ (@pe_callTy _ _ _ _ _ _ _ _ _ (tuplK K) (by rfl) T.n_tuple PyProof.Rows.boot_tuple (@pa_cons _ _ _ _ _ (@pe_op _ _ _ _ _ _ _ _ (catL K) (pv 2) (@pe_comp _ _ _ _ _ _ _ ["word"] [] [] _ _ _ _ (compText_of (defScope s_heights_asked) ["web", "words", "rest", "row"]) rfl (@piL _ _ _ _ K (pv 3) (by rfl)) (fun _ _ _ _ => (pg_name (i := 0) (show (["word"] : List Str).Nodup by decide +kernel) rfl (Or.inl rfl))) (fun _ _ _ _ => pts_nil) (fun _ _ _ _ => (pe_callTy call_int_text (by rfl) T.n_int PyProof.Rows.boot_int (pa_cons (pv 0) pa_nil))) (by intro _; rfl))) pa_nil (by rfl)) (by decide) (by decide) (by rfl) (by rfl)) pa_nil (by rfl)) (by rfl))))))))), ?_⟩
    refine hd_heights_asked ?_
    intro zz0 zz1 zz2 zz3 zz4 zz5
    -- the rest of the row, once its first number r0 (or none) stands in D
    have tail : ∀ (D c : Addr) (ms : List Nat) (us : List Str) (H2 : Hp), Same H H2 → H2 D = some (.lst (natsV ms)) → H2 c = some (.lst (us.map V.str)) → us.length ≤ 40 → (∀ y ∈ us, y.length ≤ 1000) →
        ((∃ r0, ms = [r0] ∧ ws = Tx.numS r0 :: us ∧ r0 < 10 ^ 60) ∨ (ms = [] ∧ ws = [])) → zz4 { nx := fun _ H' => Q .non H', rt := Q } [some (.ref wb), some (.ref l), some (.ref D), some (.ref c)] H2 := by
      intro D c ms us H2 s2 hD2 hc2 hu40 hu cs
      refine (exq rfl ⟨rfl, exq rfl (iteF ?_)⟩)
      refine (exq rfl ⟨dl rfl, fun l1 hl1 => ?_⟩)
      have s4 : Same H2 (upd H2 l1 (.lst [])) := Same.new hl1
      have hl4 : upd H2 l1 (.lst []) l1 = some (.lst []) := upd_same
      generalize upd H2 l1 (.lst []) = H4 at s4 hl4
      refine ⟨dl rfl, fun l2 hl2 => ?_⟩
      have s5 : Same H4 (upd H4 l2 (.lst [.int 1])) := Same.new hl2
      have hl5 : upd H4 l2 (.lst [.int 1]) l2 = some (.lst [.int 1]) := upd_same
      have hl15 := s5 _ _ hl4
      generalize upd H4 l2 (.lst [.int 1]) = H5 at s5 hl5 hl15
      refine ⟨dl rfl, fun t6 ht6 => ?_⟩
      have s6 : Same H5 (upd H5 t6 (.tup [.ref l1, .ref l2])) := Same.new ht6
      have ht6' : upd H5 t6 (.tup [.ref l1, .ref l2]) t6 = some (.tup [.ref l1, .ref l2]) := upd_same
      have hl16 := s6 _ _ hl15
      have hl26 := s6 _ _ hl5
      generalize upd H5 t6 (.tup [.ref l1, .ref l2]) = H6 at s6 ht6' hl16 hl26
      have s26 := (s4.trans s5).trans s6
      have sH6 := s2.trans s26
      refine ⟨.list (ms.map natD), [.list (([] : List Nat).map natD), .list ([1].map natD)], .lst (SqL.of (s26 _ _ hD2)) (nats_dat ms), .tup (SqT.of ht6') (.cons (.lst (SqL.of hl16) (nats_dat [])) (.cons (.lst (SqL.of hl26) (nats_dat [1])) .nil)), shaped_nats ms, (by decide +kernel), ?_⟩
      have eany : ([PyData.list (([] : List Nat).map natD), .list ([1].map natD)].any fun e => PyData.eqv e (.list (ms.map natD))) = decide (ms = [] ∨ ms = [1]) := by
        rw [List.any_cons, List.any_cons, List.any_nil, eqv_lists, eqv_lists, Bool.or_false, ← Bool.decide_or]
        congr 1
        rw [eq_comm (b := ms), eq_comm (b := ms)]
      rw [eany]
      have no : (∀ r0 zs, ¬ HtOk ts.length ws r0 zs) → ∀ H', Same H H' → Q .non H' := fun z H' s' => q2 (fun ⟨r0, zs, y⟩ => z r0 zs y) H' s'
      rcases cs with ⟨r0, rfl, ews, hr0⟩ | ⟨rfl, ews⟩
      case inr =>
        refine (exq rfl (iteP (.inl rfl) (no (fun r0 zs y => ?_) _ sH6)))
        have := y.2.2.2.2
        rw [ews] at this
        cases this
      by_cases r1 : r0 = 1
      · subst r1
        refine (exq rfl (iteP (.inr rfl) (no (fun r0 zs y => ?_) _ sH6)))
        have e := y.2.2.2.2
        rw [ews] at e
        have e := (List.cons.inj e).1
        have e1 := Tx.num_read hr0
        rw [e, Tx.num_read y.2.1] at e1
        have e1 := Option.some.inj e1
        exact y.1 (by (first | lia | omega))
      refine (exq rfl (iteD (fun y => by rcases y with y | y <;> simp at y; exact r1 y) ?_))
      obtain ⟨bt, xs, h1, h2, h3⟩ := id (hw.same sH6).ex
      have hxl := h3.length
      have hrl : (us.map V.str).length = us.length := List.length_map ..
      have hc6 := s26 _ _ hc2
      refine (exq rfl ⟨c, us.map V.str, rfl, .inl (SqL.of hc6), ?_⟩)
      refine (exq rfl (ixq (SqT.of h1) (atI_nat (j := 1) rfl) ⟨bt, xs, rfl, .inr (SqT.of h2), rfl, exq rfl (?_)⟩))
      by_cases hlen : us.length = ts.length
      case neg =>
        refine iteNd (by rw [hrl, hxl]; intro y; have := V.int.inj y; (first | lia | omega)) (no (fun r' zs y => ?_) _ sH6)
        have e := y.2.2.2.2
        rw [ews] at e
        have e := congrArg List.length (List.cons.inj e).2
        rw [List.length_map, y.2.2.1] at e
        exact hlen e
      refine iteNS (by rw [hrl, hxl, hlen]) ?_
      refine (exq rfl ⟨c, rfl, ⟨_, SqL.of hc6⟩, fun D2 hD2' => comp_list (xs := us.map V.str) (fun i acc H7 => Same H6 H7 ∧ H7 D2 = some (.lst acc) ∧ acc = ((us.take i).map Tx.isZ).map V.bl) ⟨Same.new hD2', upd_same, rfl⟩ ?_ (by rw [hrl]; exact small40 hu40) ?_ ?_⟩)
      · rintro i acc H7 _ ⟨s7, hD7, rfl⟩
        exact ⟨SqL.of (s7 _ _ hc6), hD7, by rw [List.length_map, List.length_map, List.length_take]; exact Nat.min_le_left _ _⟩
      · rintro i y acc H7 hy ⟨s7, hD7, rfl⟩
        rw [List.getElem?_map] at hy
        obtain ⟨u, hu', rfl⟩ := Option.map_eq_some_iff.mp hy
        exact ⟨rfl, exq rfl ⟨u, rfl, hu u (List.mem_of_getElem? hu'), fun H8 s8 => ⟨s8 _ _ hD7, (s7.trans s8).put hD2', upd_same, by rw [List.take_add_one, hu', Option.toList_some, List.map_append, List.map_append]; rfl⟩⟩⟩
      · rintro acc H7 ⟨s7, hD7, rfl⟩
        rw [hrl, List.take_length] at hD7
        have s07 := sH6.trans s7
        refine ⟨D2, us.map Tx.isZ, rfl, SqL.of hD7, ?_⟩
        cases hall : (us.map Tx.isZ).all id with
        | false =>
          refine (exq rfl (iteT (no (fun r' zs y => ?_) _ s07)))
          have e := y.2.2.2.2
          rw [ews] at e
          have e := (List.cons.inj e).2
          rw [List.all_eq_true.mpr] at hall
          · cases hall
          · intro b hb
            obtain ⟨u, hu', rfl⟩ := List.mem_map.mp hb
            rw [e] at hu'
            obtain ⟨z, hz, rfl⟩ := List.mem_map.mp hu'
            exact Tx.isZ_t ⟨z, y.2.2.2.1 z hz, rfl⟩
        | true =>
          obtain ⟨zs, hz, ezs⟩ := zs_of (ws := us) fun x hx => Tx.isZ_of (List.all_eq_true.mp hall _ (List.mem_map.mpr ⟨x, hx, rfl⟩))
          subst ezs
          have hzl : zs.length = ts.length := by rw [List.length_map] at hlen; exact hlen
          have ok : HtOk ts.length ws r0 zs := ⟨r1, hr0, hzl, hz, ews⟩
          have hrl : ((zs.map Tx.intS).map V.str).length = zs.length := by rw [List.length_map, List.length_map]
          have hget : ∀ (i : Nat) (y : V), ((zs.map Tx.intS).map V.str)[i]? = some y → ∃ z, zs[i]? = some z ∧ y = V.str (Tx.intS z) ∧ z.natAbs < 10 ^ 60 := fun i y hy => by
            rw [List.getElem?_map, List.getElem?_map] at hy
            obtain ⟨u, hu, rfl⟩ := Option.map_eq_some_iff.mp hy
            obtain ⟨z, hz', rfl⟩ := Option.map_eq_some_iff.mp hu
            exact ⟨z, hz', rfl, hz z (List.mem_of_getElem? hz')⟩
          refine (exq rfl (iteF ?_))
          refine (exq rfl (ixl (SqL.of (s07 _ _ hl)) (atI_nat (j := 0) rfl) (?_)))
          refine (exq rfl (exq rfl ⟨c, rfl, ⟨_, SqL.of (s7 _ _ hc6)⟩, fun D3 hD3' => comp_list (xs := (zs.map Tx.intS).map V.str) (fun i acc H8 => Same H7 H8 ∧ H8 D3 = some (.lst acc) ∧ acc = intsV (zs.take i)) ⟨Same.new hD3', upd_same, rfl⟩ ?_ (by rw [hrl]; exact small40 (by (first | lia | omega))) ?_ ?_⟩))
          · rintro i acc H8 _ ⟨s8, hD8, rfl⟩
            refine ⟨SqL.of (s8 _ _ (s7 _ _ hc6)), hD8, ?_⟩
            unfold intsV
            rw [List.length_map, List.length_take]
            exact Nat.min_le_left _ _
          · rintro i y acc H8 hy ⟨s8, hD8, rfl⟩
            obtain ⟨z, hi, rfl, hn'⟩ := hget i y hy
            refine ⟨rfl, exq rfl ⟨Tx.intS z, z, rfl, Tx.int_read hn', Nat.le_trans (Tx.int_len hn').2 (by decide), hD8, s8.put hD3', upd_same, ?_⟩⟩
            unfold intsV
            rw [List.take_add_one, hi, Option.toList_some, List.map_append]
            rfl
          · rintro acc H8 ⟨s8, hD8, rfl⟩
            rw [hrl, List.take_length] at hD8
            refine ⟨D, D3, [.int (r0 : Int)], intsV zs, rfl, rfl, SqL.of ((s26.trans (s7.trans s8)) _ _ hD2), SqL.of hD8, ?_, fun l9 hl9 => ?_⟩
            · unfold intsV
              rw [List.length_map]
              exact dl (Nat.ble_eq.mpr (by show 1 + zs.length ≤ 1000; (first | lia | omega)))
            · have s9 : Same H8 (upd H8 l9 (.lst (intsV ((r0 : Int) :: zs)))) := Same.new hl9
              have hl9' : upd H8 l9 (.lst (intsV ((r0 : Int) :: zs))) l9 = some (.lst (intsV ((r0 : Int) :: zs))) := upd_same
              refine ⟨l9, intsV ((r0 : Int) :: zs), rfl, .inl ⟨SqL.of hl9', fun b hb => ⟨dl rfl, fun r hr' => ?_⟩⟩⟩
              have s10 := Same.new (o := .tup (intsV ((r0 : Int) :: zs))) hb
              have s11 := Same.new (o := .tup [.str x, .ref b]) hr'
              have sall := ((s07.trans s8).trans s9).trans s10
              exact q r0 zs ok r _ (sall.free hr') (sall.trans s11) ⟨b, upd_same, s11 _ _ upd_same⟩
    have hl : H l = some (.lst (.str x :: ws.map V.str)) := hl
    obtain ⟨w40, wl⟩ := wd
    cases ws with
    | nil =>
      refine (exq rfl (exq rfl (exq rfl ⟨l, _, rfl, SqL.of hl, fun c hc => ?_⟩)))
      rw [show cutV (V.str x :: ([] : List Str).map V.str) (some 1) (some 2) = ([] : List Str).map V.str from cut_none _]
      have s1 : Same H (upd H c (.lst (([] : List Str).map V.str))) := Same.new hc
      refine ⟨c, [], rfl, upd_same, by decide, (fun _ h => nomatch h), fun ns hns en D H2 hD s2 hD2 => ?_, fun z => absurd ⟨[], (fun _ h => nomatch h), rfl⟩ z⟩
      obtain rfl : ns = [] := by
        cases ns with
        | nil => rfl
        | cons => cases en
      have s12 := s1.trans s2
      refine (exq rfl (exq rfl ⟨l, _, rfl, SqL.of (s12 _ _ hl), fun c2 hc2 => ?_⟩))
      rw [show cutV (V.str x :: ([] : List Str).map V.str) (some 2) none = ([] : List Str).map V.str from cut_none2 _]
      have s3 : Same H2 (upd H2 c2 (.lst (([] : List Str).map V.str))) := Same.new hc2
      exact tail D c2 [] [] _ (s12.trans s3) (s3 _ _ hD2) upd_same (by decide) (fun _ h => nomatch h) (.inr ⟨rfl, rfl⟩)
    | cons y us =>
      refine (exq rfl (exq rfl (exq rfl ⟨l, _, rfl, SqL.of hl, fun c hc => ?_⟩)))
      rw [show cutV (V.str x :: (y :: us).map V.str) (some 1) (some 2) = [y].map V.str from cut_one _ _ _]
      have s1 : Same H (upd H c (.lst ([y].map V.str))) := Same.new hc
      rw [List.length_cons] at w40
      refine ⟨c, [y], rfl, upd_same, by show 1 ≤ 40; decide, (fun u hu => wl u (by rw [List.mem_singleton.mp hu]; exact List.mem_cons_self)), fun ns hns en D H2 hD s2 hD2 => ?_, fun z H2 s2 => ?_⟩
      · obtain ⟨r0, rfl⟩ : ∃ r0, ns = [r0] := by
          have := congrArg List.length en
          rw [List.length_map] at this
          exact List.length_eq_one_iff.mp this.symm
        have ey : y = Tx.numS r0 := (List.cons.inj en).1
        have s12 := s1.trans s2
        refine (exq rfl (exq rfl ⟨l, _, rfl, SqL.of (s12 _ _ hl), fun c2 hc2 => ?_⟩))
        rw [show cutV (V.str x :: (y :: us).map V.str) (some 2) none = us.map V.str from cut_tail2 _ _ _]
        have s3 : Same H2 (upd H2 c2 (.lst (us.map V.str))) := Same.new hc2
        exact tail D c2 [r0] us _ (s12.trans s3) (s3 _ _ hD2) upd_same (by (first | lia | omega)) (fun u hu => wl u (List.mem_cons_of_mem _ hu)) (.inl ⟨r0, rfl, by rw [ey], hns r0 List.mem_cons_self⟩)
      · have s12 := s1.trans s2
        refine (exq rfl (exq rfl ⟨l, _, rfl, SqL.of (s12 _ _ hl), fun c2 hc2 => ?_⟩))
        have s3 := Same.new (o := .lst (cutV (V.str x :: (y :: us).map V.str) (some 2) none)) hc2
        refine (exq rfl ⟨rfl, exq rfl (iteT (q2 (fun ⟨r0, zs, h⟩ => z ⟨[r0], ?_, ?_⟩) _ (s12.trans s3)))⟩)
        · intro n hn
          rw [List.mem_singleton.mp hn]
          exact h.2.1
        · rw [(List.cons.inj h.2.2.2.2).1]
          rfl
theorem G_asked_by (T : Txt K mg a) : FnOk P w K mg base CX0 4 a.f_asked_by a.d_asked_by ["web", "words"] sp_asked := by
  have G_ties_asked : FnOk P w K mg base CX0 3 a.f_ties_asked a.d_ties_asked ["web", "words"] sp_ties_asked := G_ties_asked T
  have G_heights_asked : FnOk P w K mg base CX0 3 a.f_heights_asked a.d_heights_asked ["web", "words"] sp_heights_asked := G_heights_asked T
  refine T.F_asked_by.ok sc_asked_by (fun vs H Q E h => ?_) (fun cdv A outer s H vs Q E hr h => ?_)
  · obtain ⟨wb, l, p, ts, x, ws, rfl, _⟩ := h
    rfl
  · obtain ⟨wb, l, p, ts, x, ws, rfl, hw, h9, hl, wd, ox, q, q2⟩ := h
    refine ⟨_, (@pss_cons _ _ _ _ _ (@ps_if _ _ _ _ _ _ _ _ (PW.pt (@pw_and _ _ _ _ _ _ _ (@pt_cmpR _ _ _ _ _ _ _ _ (op_inD K hr.units65) (@pe_ix _ _ _ _ _ _ _ (ixL K) (pv 1) pe_int (fun _ _ => rfl)) (@pe_cls _ _ _ _ (by rfl) T.g_BARE_WORDS (by decide)) (by with_unfolding_all rfl)) (@pw_and1 _ _ _ _ (@pt_cmpR _ _ _ _ _ _ _ _ op_eq (@pe_callB _ _ _ _ _ _ _ _ _ (lenK K) (by rfl) T.n_len PySem.boot_len (@pa_cons _ _ _ _ _ (pv 1) pa_nil (by rfl)) (by decide) (by decide) (by rfl) (by rfl)) pe_int (nomark _))))) (@pss_one _ _ _ (@ps_ret _ _ _ _ (@pe_tup _ _ _ _ _ (@pa_cons _ _ _ _ _ (@pe_ix _ _ _ _ _ _ _ (ixL K) (pv 1) pe_int (fun _ _ => rfl)) (@pa_cons _ _ _ _ _ (@pe_tup _ _ _ _ _ pa_nil) pa_nil (by rfl)) (by rfl))))) pss_nil) (@pss_cons _ _ _ _ _ (@ps_if _ _ _ _ _ _ _ _ (@pt_cmpR _ _ _ _ _ _ _ _ (op_inD K hr.units65) (@pe_ix _ _ _ _ _ _ _ (ixL K) (pv 1) pe_int (fun _ _ => rfl)) (@pe_cls _ _ _ _ (by rfl) T.g_TIES_WORDS (by decide)) (by with_unfolding_all rfl)) (@pss_one _ _ _ (@ps_ret _ _ _ _ (@pe_call _ _ _ _ _ _ _ _ _ _ _ _ _ _ _ _ G_ties_asked (hr.mono (by decide)) (by rfl) T.m_ties_asked T.k_ties_asked T.b_ties_asked .nil pass0 (@pa_cons _ _ _ _ _ (pv 0) (@pa_cons _ _ _ _ _ (pv 1) pa_nil (by rfl)) (by rfl)) (by decide) (by rfl) (by rfl)))) pss_nil) (@pss_cons _ _ _ _ _ (@ps_if _ _ _ _ _ _ _ _ (@pt_cmpR _ _ _ _ _ _ _ _ op_eq (@pe_ix _ _ _ _ _ _ _ (ixL K) (pv 1) pe_int (fun _ _ => rfl)) pe_str (nomark _)) (@pss_one _ _ _ (@ps_ret _ _ _ _ (@pe_call _ _ _ _ _ _ _ _ _ _ _ _ _ _ _ _ G_heights_asked (hr.mono (by decide)) (by rfl) T.m_heights_asked T.k_heights_asked T.b_heights_asked .nil pass0 (@pa_cons _ _ _ _ _ (pv 0) (@pa_cons _ _ _ _ _ (pv 1) pa_nil (by rfl)) (by rfl)) (by decide) (by rfl) (by rfl)))) pss_nil) (@pss_one _ _ _ (@ps_ret _ _ _ _ pe_non))))), ?_⟩
    refine hd_asked_by ?_
    intro zz0 zz1 zz2 zz3 zz4 zz5
    have hx0 : atI (wordsV x ws) 0 = some (.str x) := atI_nat (j := 0) rfl
    have dbare : DatV K H (.ref a.t_BARE_WORDS) (.tuple [.str "lengths", .str "base", .str "forests"]) := .tup (T.q_BARE_WORDS H) (.cons (.str _) (.cons (.str _) (.cons (.str _) .nil)))
    have dties : DatV K H (.ref a.t_TIES_WORDS) (.tuple [.str "even", .str "cut", .str "odd"]) := .tup (T.q_TIES_WORDS H) (.cons (.str _) (.cons (.str _) (.cons (.str _) .nil)))
    have sx : SeqAt.shaped (.str x) = true := shaped_str ox
    have wlen : (wordsV x ws).length = ws.length + 1 := by unfold wordsV; rw [List.length_map, List.length_cons]
    -- behind the bare words
    have tail : (∀ zs, AskOk ts.length x zs → ws = zs.map Tx.intS → ¬ (x = "lengths" ∨ x = "base" ∨ x = "forests")) → zz4 { nx := fun _ H' => Q .non H', rt := Q } [some (.ref wb), some (.ref l)] H := by
      intro nb
      refine (exq rfl (ixl (SqL.of hl) (hx0) ⟨.str x, _, .str x, dties, sx, shaped_ties, ?_⟩))
      rw [any3]
      by_cases ht : x = "even" ∨ x = "cut" ∨ x = "odd"
      · rw [decide_eq_true ht]
        refine (exq rfl (iteT (exq rfl (exq rfl ⟨wb, l, p, ts, x, ws, rfl, hw, h9, hl, wd, fun ks up e r H' h1 h2 h3 => ?_, fun z H' s' => ?_⟩))))
        · refine q (castI ks) (.ties ht up (by have := up.len; (first | lia | omega))) ?_ r H' h1 h2 h3
          rw [e]
          unfold castI
          rw [List.map_map]
          rfl
        · refine q2 (fun ⟨zs, ok, e⟩ => ?_) H' s'
          cases ok with
          | bare h => exact (bare_apart h).1 ht
          | ties h up hk =>
            refine z ⟨_, up, ?_⟩
            rw [e]
            unfold castI
            rw [List.map_map]
            rfl
          | heights => exact ties_apart ht rfl
      rw [decide_eq_false ht]
      refine (exq rfl (iteF ?_))
      refine (exq rfl (ixl (SqL.of hl) (hx0) ⟨rfl, exq rfl (?_)⟩))
      by_cases hh : x = "heights"
      · refine iteP (congrArg V.str hh) ?_
        refine (exq rfl (exq rfl ⟨wb, l, p, ts, x, ws, rfl, hw, h9, hl, wd, fun r0 zs ok r H' h1 h2 h3 => ?_, fun z H' s' => ?_⟩))
        · refine q ((r0 : Int) :: zs) ?_ ok.2.2.2.2 r H' h1 h2 h3
          rw [hh]
          exact .heights ok.1 ok.2.1 ok.2.2.1 ok.2.2.2.1
        · refine q2 (fun ⟨zs, ok, e⟩ => ?_) H' s'
          cases ok with
          | bare h => exact (bare_apart h).2 hh
          | ties h up hk => exact ht h
          | heights h1 h2 h3 h4 => exact z ⟨_, _, h1, h2, h3, h4, e⟩
      · refine iteD (fun y => hh (V.str.inj y)) ?_
        refine q2 (fun ⟨zs, ok, e⟩ => ?_) H (Same.refl _)
        have nb := nb zs ok e
        cases ok with
        | bare h => exact nb h
        | ties h up hk => exact ht h
        | heights => exact hh rfl
    refine (exq rfl (ixl (SqL.of hl) (hx0) ⟨.str x, _, .str x, dbare, sx, shaped_bare, ?_⟩))
    rw [any3]
    by_cases hb : x = "lengths" ∨ x = "base" ∨ x = "forests"
    case neg =>
      rw [decide_eq_false hb]
      exact (exq rfl (iteF (tail fun _ _ _ => hb)))
    rw [decide_eq_true hb]
    refine (exq rfl (iteT ?_))
    refine (exq rfl (lnq rfl (.inl (SqL.of hl)) ⟨rfl, exq rfl (?_)⟩))
    by_cases hn : ws = []
    · refine iteP (by rw [wlen, hn]; rfl) ?_
      refine (exq rfl (ixl (SqL.of hl) (hx0) ⟨dl rfl, fun b hb' => ⟨dl rfl, fun r hr' => ?_⟩⟩))
      have s1 := Same.new (o := .tup []) hb'
      have s2 := Same.new (o := .tup [.str x, .ref b]) hr'
      exact q [] (.bare hb) hn r _ (s1.free hr') (s1.trans s2) ⟨b, upd_same, s2 _ _ upd_same⟩
    · refine iteD (fun y => hn ?_) (tail fun zs ok e => ?_)
      · rw [wlen] at y
        have y := V.int.inj y
        exact List.length_eq_zero_iff.mp (by (first | lia | omega))
      · cases ok with
        | bare h => exact absurd e hn
        | ties h up hk => exact fun h' => (bare_apart h').1 h
        | heights => exact fun h' => (bare_apart h').2 rfl
end

theorem paired_unl {H : Hp} : ∀ {xs : List V} {ts : List Tie}, Paired (TupI H) xs (ts.map listT) → Paired (TupAt H) xs ts
  | _, [], .nil => .nil
  | _, _ :: _, .cons h r => .cons h (paired_unl r)
theorem goodW_of {p : Nat} {ts : List Tie} (g : GoodWeb p ts) : GoodW (p : Int) (ts.map listT) :=
  ⟨by have := g.p1; (first | lia | omega), by have := g.p2; (first | lia | omega), by rw [List.length_map]; exact g.len, fun ns hn => by obtain ⟨t, ht, rfl⟩ := List.mem_map.mp hn; exact ⟨t, rfl, g.ties t ht⟩⟩
theorem castI_natT {t : Tie} {ns : List Nat} (h : castI ns = listT t) : ns = natT t := by
  have h : ns.map (fun k : Nat => (k : Int)) = [t.1, t.2.1, t.2.2] := h
  have hl := congrArg List.length h
  rw [List.length_map] at hl
  match ns, hl, h with
  | [x, y, z], _, h =>
    obtain ⟨h1, h⟩ := List.cons.inj h
    obtain ⟨h2, h⟩ := List.cons.inj h
    obtain ⟨h3, h⟩ := List.cons.inj h
    unfold natT
    rw [← h1, ← h2, ← h3]
    rfl
theorem natT_cast {p : Int} {t : Tie} (g : GoodTie p t) : castI (natT t) = listT t := by
  show [((t.1.toNat : Nat) : Int), ((t.2.1.toNat : Nat) : Int), ((t.2.2.toNat : Nat) : Int)] = [t.1, t.2.1, t.2.2]
  rw [Int.toNat_of_nonneg g.a0, Int.toNat_of_nonneg g.b0, Int.toNat_of_nonneg (Int.le_trans (by decide) g.l0)]
theorem good_snoc {p : Nat} {ts : List Tie} {ns : List Nat} (h : GoodW (p : Int) (ts.map listT ++ [castI ns])) : ∃ t, ns = natT t ∧ castI ns = listT t ∧ GoodWeb p (ts ++ [t]) := by
  obtain ⟨h1, h2, h3, h4⟩ := h
  obtain ⟨t, e, gt⟩ := h4 (castI ns) (List.mem_append_right _ List.mem_cons_self)
  refine ⟨t, castI_natT e, e, by (first | lia | omega), by (first | lia | omega), ?_, fun u hu => ?_⟩
  · rw [List.length_append, List.length_map] at h3
    rw [List.length_append]
    exact h3
  · rcases List.mem_append.mp hu with hu | hu
    · obtain ⟨t', e', g'⟩ := h4 (listT u) (List.mem_append_left _ (List.mem_map.mpr ⟨u, hu, rfl⟩))
      have : u = t' := by
        obtain ⟨u1, u2, u3⟩ := u
        obtain ⟨v1, v2, v3⟩ := t'
        injection e' with h1 e'
        injection e' with h2 e'
        injection e' with h3 e'
        rw [show u1 = v1 from h1, show u2 = v2 from h2, show u3 = v3 from h3]
      rw [this]
      exact g'
    · rw [List.mem_singleton.mp hu]
      exact gt
def sp_web_grown : Sp := fun vs H Q _ => ∃ (l : Addr) (x : Str) (ws : List Str), H l = some (.lst (wordsV x ws)) ∧ Wds ws ∧
  ((vs = [.non, .ref l] ∧ (∀ p : Nat, 1 ≤ p → p ≤ 10 → x = "points" → ws = [Tx.numS p] → ∀ w H', Same H H' → WebAt H' w p [] → Q (.ref w) H') ∧ ((¬ ∃ p : Nat, 1 ≤ p ∧ p ≤ 10 ∧ x = "points" ∧ ws = [Tx.numS p]) → ∀ H', Same H H' → Q .non H')) ∨
  ∃ (wb : Addr) (p : Nat) (ts : List Tie), vs = [.ref wb, .ref l] ∧ WebAt H wb p ts ∧ GoodWeb p ts ∧ (∀ t, GoodWeb p (ts ++ [t]) → ws = (natT t).map Tx.numS → ∀ w' H', Same H H' → WebAt H' w' p (ts ++ [t]) → Q (.ref w') H') ∧ ((¬ ∃ t, GoodWeb p (ts ++ [t]) ∧ ws = (natT t).map Tx.numS) → ∀ H', Same H H' → Q .non H'))
section
variable {P : Program} {w : World} {K : PySem.W.Frag} {mg : Str → Option Value} {base : Heap} {a : Adr}
theorem G_web_grown (T : Txt K mg a) : FnOk P w K mg base CX0 3 a.f_web_grown a.d_web_grown ["web", "words"] sp_web_grown := by
  have G_numbers_read : FnOk P w K mg base CX0 2 a.f_numbers_read a.d_numbers_read ["words"] sp_numbers_read := G_numbers_read T
  have G_made_web : FnOk P w K mg base (CX1 P w) 2 a.f_made_web a.d_made_web ["points", "ties"] (sp_made_web a.c_BadWeb) := G_made_web T
  refine T.F_web_grown.ok sc_web_grown (fun vs H Q E h => ?_) (fun cdv A outer s H vs Q E hr h => ?_)
  · obtain ⟨l, x, ws, _, _, ⟨rfl, _⟩ | ⟨wb, p, ts, rfl, _⟩⟩ := h <;> rfl
  · refine ⟨_, (@pss_cons _ _ _ _ _ (@ps_set _ _ 2 _ _ _ _ sc_web_grown.nd rfl (Or.inl rfl) (@pe_call _ _ _ _ _ _ _ _ _ _ _ _ _ _ _ _ G_numbers_read (hr.mono (by decide)) (by rfl) T.m_numbers_read T.k_numbers_read T.b_numbers_read .nil pass0 (@pa_cons _ _ _ _ _ (@pe_slice _ _ _ _ _ _ _ _ _ _ (slL K) (pv 1) (@po_some _ _ _ pe_int) po_none) pa_nil (by rfl)) (by decide) (by rfl) (by rfl)) (by rfl) (by first | exact .inl rfl | exact .inr rfl | assumption)) (@pss_cons _ _ _ _ _ (@ps_if _ _ _ _ _ _ _ _ (@pt_cmpR _ _ _ _ _ _ _ _ op_isN (pv 2) pe_non (nomark _)) (@pss_one _ _ _ (@ps_ret _ _ _ _ pe_non)) pss_nil) (@pss_cons _ _ _ _ _ (@ps_tryH _ _ _ _ _ _ _ _ _ _ _ K rfl rfl rfl (by rfl) T.g_BadWeb (fun E pn xe hp => (pss_cons (ps_if (pt_cmpR op_notN (pv 0) pe_non (nomark _)) (pss_one (ps_ret (pe_call G_made_web (hr.mono (by decide)) (by rfl) T.m_made_web T.k_made_web T.b_made_web .nil hp (pa_cons (pe_ix (ixT K) (pv 0) pe_int (fun _ _ => rfl)) (pa_cons (pe_op (catL K) (pe_callTy (listK K) (by rfl) T.n_list PyProof.Rows.boot_list (pa_cons (pe_ix (ixT K) (pv 0) pe_int (fun _ _ => rfl)) pa_nil)) (pe_lst (pa_cons (pv 2) pa_nil))) pa_nil))))) pss_nil)
      (pss_one (ps_if (PW.pt (pw_and (pt_cmpR op_eq (pe_ix (ixL K) (pv 1) pe_int (fun _ _ => rfl)) pe_str (nomark _)) (pw_and1 (pt_cmpR op_eq (pe_callB (lenK K) (by rfl) T.n_len PySem.boot_len (pa_cons (pv 2) pa_nil)) pe_int (nomark _))))) (pss_one (ps_ret (pe_call G_made_web (hr.mono (by decide)) (by rfl) T.m_made_web T.k_made_web T.b_made_web .nil hp (pa_cons (pe_ix (ixL K) (pv 2) pe_int (fun _ _ => rfl)) (pa_cons (pe_lst pa_nil) pa_nil))))) pss_nil)))) (fun ea pn => (pss_one (ps_ret pe_non))) (by rfl) (by decide)) (@pss_one _ _ _ (@ps_ret _ _ _ _ pe_non))))), ?_⟩
    refine hd_web_grown ?_
    intro zz0 zz1 zz2 zz3
    obtain ⟨l, x, ws, hl, wd, h⟩ := h
    have hl : H l = some (.lst (.str x :: ws.map V.str)) := hl
    rcases h with ⟨rfl, q, q2⟩ | ⟨wb, p, ts, rfl, hw, g, q, q2⟩
    · refine (exq rfl (exq rfl ⟨l, _, rfl, SqL.of hl, fun c hc => ?_⟩))
      rw [cut_tail]
      have s1 : Same H (upd H c (.lst (ws.map V.str))) := Same.new hc
      refine ⟨c, ws, rfl, upd_same, wd.1, wd.2, fun ns nlt en D H2 hD s2 hD2 => ?_, fun no H2 s2 => (exq rfl ⟨rfl, exq rfl (iteT (q2 (fun ⟨p, p1, p2, _, e⟩ => no ⟨[p], (fun n hn => by rw [List.mem_singleton.mp hn]; exact Nat.lt_of_le_of_lt p2 (by decide)), e⟩) _ (s1.trans s2)))⟩)⟩
      have s12 := s1.trans s2
      refine (exq rfl ⟨rfl, exq rfl (iteF ?_)⟩)
      refine ⟨fun cls od H' => cls = .ref a.c_BadWeb ∧ ∀ H'', Same H' H'' → Q .non H'', ?_, ?_⟩
      · refine (exq rfl ⟨rfl, exq rfl (iteF ?_)⟩)
        refine (exq rfl (ixl (SqL.of (s12 _ _ hl)) (atI_nat (j := 0) rfl) ⟨rfl, exq rfl (?_)⟩))
        by_cases hx : x = "points"
        case neg => exact iteD (fun y => hx (V.str.inj y)) (q2 (fun ⟨_, _, _, e, _⟩ => hx e) _ s12)
        refine iteP (congrArg V.str hx) ?_
        refine (exq rfl (lnq rfl (.inl (SqL.of hD2)) ⟨rfl, exq rfl (?_)⟩))
        by_cases h1 : ns.length = 1
        case neg =>
          refine iteD (fun y => ?_) (q2 (fun ⟨p, _, _, _, e⟩ => h1 ?_) _ s12)
          · rw [natsV_len] at y
            have := V.int.inj y
            (first | lia | omega)
          · have := congrArg List.length (en.symm.trans e)
            rw [List.length_map] at this
            exact this
        obtain ⟨n, rfl⟩ := List.length_eq_one_iff.mp h1
        refine iteP (by rw [natsV_len]; rfl) ?_
        refine (exq rfl (ixl (SqL.of hD2) (atI_nat (j := 0) rfl) ⟨dl rfl, fun l4 hl4 => ?_⟩))
        have s4 := s12.trans (Same.new (o := .lst []) hl4)
        refine ⟨(n : Int), l4, [], [], rfl, .inl upd_same, .nil, fun gw w0 b0 ys H5 s5 hw hb pr => q n ?_ ?_ hx en w0 H5 (s4.trans s5) ⟨b0, ys, hw, hb, paired_unl (ts := []) pr⟩, fun ng H5 s5 => ⟨rfl, fun H6 s6 => q2 (fun ⟨p, p1, p2, _, e⟩ => ng ?_) _ ((s4.trans s5).trans s6)⟩⟩
        · have := gw.1; (first | lia | omega)
        · have := gw.2.1; (first | lia | omega)
        · have enp : [n] = [p] := nums_inj nlt (fun m hm => by rw [List.mem_singleton.mp hm]; exact Nat.lt_of_le_of_lt p2 (by decide)) (en.symm.trans e)
          obtain rfl : n = p := (List.cons.inj enp).1
          exact ⟨by (first | lia | omega), by (first | lia | omega), Nat.zero_le _, (fun _ h => nomatch h)⟩
      · rintro cls od H' ⟨rfl, k⟩
        exact ⟨T.hs_BadWeb, fun ea hea => k _ (Same.new hea)⟩
    · have g2 := g.p2
      refine (exq rfl (exq rfl ⟨l, _, rfl, SqL.of hl, fun c hc => ?_⟩))
      rw [cut_tail]
      have s1 : Same H (upd H c (.lst (ws.map V.str))) := Same.new hc
      refine ⟨c, ws, rfl, upd_same, wd.1, wd.2, fun ns nlt en D H2 hD s2 hD2 => ?_, fun no H2 s2 => (exq rfl ⟨rfl, exq rfl (iteT (q2 (fun ⟨t, gt, e⟩ => no ⟨natT t, natT_lt (by (first | lia | omega)) (gt.ties t (List.mem_append_right _ List.mem_cons_self)), e⟩) _ (s1.trans s2)))⟩)⟩
      have s12 := s1.trans s2
      obtain ⟨bt, xs, h1, h2, h3⟩ := id (hw.same s12).ex
      have hxl := h3.length
      have gl := g.len
      refine (exq rfl ⟨rfl, exq rfl (iteF ?_)⟩)
      refine ⟨fun cls od H' => cls = .ref a.c_BadWeb ∧ ∀ H'', Same H' H'' → Q .non H'', ?_, ?_⟩
      · refine (exq rfl ⟨rfl, exq rfl (iteT ?_)⟩)
        refine (exq rfl (ixq (SqT.of h1) (atI_nat (j := 0) rfl) (exq rfl (ixq (SqT.of h1) (atI_nat (j := 1) rfl) (?_)))))
        refine ⟨bt, xs, rfl, .inr (SqT.of h2), fun l3 hl3 => ?_⟩
        have s3 : Same H2 (upd H2 l3 (.lst xs)) := Same.new hl3
        have hl3' : upd H2 l3 (.lst xs) l3 = some (.lst xs) := upd_same
        have hD3 := s3 _ _ hD2
        generalize upd H2 l3 (.lst xs) = H3 at s3 hl3' hD3
        refine (exq rfl ⟨dl rfl, fun l4 hl4 => ?_⟩)
        have s4 : Same H3 (upd H3 l4 (.lst [.ref D])) := Same.new hl4
        refine ⟨l3, l4, xs, [.ref D], rfl, rfl, SqL.of (s4 _ _ hl3'), SqL.of upd_same, dl (Nat.ble_eq.mpr (by show xs.length + 1 ≤ 1000; (first | lia | omega))), fun l5 hl5 => ?_⟩
        have s5 := s4.trans (Same.new (o := .lst (xs ++ [.ref D])) hl5)
        have s25 := s3.trans s5
        have pr : Paired (TieS (upd (upd H3 l4 (.lst [.ref D])) l5 (.lst (xs ++ [.ref D])))) (xs ++ [.ref D]) (ts.map listT ++ [castI ns]) := by
          refine Paired.snoc (Paired.imp' (fun _ _ z => TieS.same s25 (TupI.tie z)) (paired_list h3)) ⟨D, rfl, .inl ?_⟩
          rw [castI_v]
          exact s5 _ _ hD3
        refine ⟨(p : Int), l5, xs ++ [.ref D], ts.map listT ++ [castI ns], rfl, .inl upd_same, pr, fun gw w0 b0 ys H5 s6 hw0 hb0 pr0 => ?_, fun ng H5 s6 => ⟨rfl, fun H6 s7 => q2 (fun ⟨t, gt, e⟩ => ng ?_) _ (((s12.trans s25).trans s6).trans s7)⟩⟩
        · obtain ⟨t, en2, ec, gt⟩ := good_snoc gw
          refine q t gt (by rw [en, en2]) w0 H5 ((s12.trans s25).trans s6) ⟨b0, ys, hw0, hb0, paired_unl ?_⟩
          rw [List.map_append]
          rw [ec] at pr0
          exact pr0
        · have gtt := gt.ties t (List.mem_append_right _ List.mem_cons_self)
          have en2 : ns = natT t := nums_inj nlt (natT_lt (by (first | lia | omega)) gtt) (en.symm.trans e)
          have gw := goodW_of gt
          rw [List.map_append] at gw
          rw [en2, natT_cast gtt]
          exact gw
      · rintro cls od H' ⟨rfl, k⟩
        exact ⟨T.hs_BadWeb, fun ea hea => k _ (Same.new hea)⟩
end

theorem nl_mk : Str.ofString "\n" = ⟨#[10]⟩ := by decide +kernel
theorem bl_mk : Str.ofString " " = ⟨#[32]⟩ := by decide +kernel
theorem joinL_mem {c x : Nat} : ∀ {l : List (List Nat)}, x ∈ Tx.joinL c l → x = c ∨ ∃ p ∈ l, x ∈ p
  | [], h => nomatch h
  | [p], h => .inr ⟨p, List.mem_cons_self, h⟩
  | p :: q :: r, h => by
    rcases List.mem_append.mp (show x ∈ p ++ c :: Tx.joinL c (q :: r) from h) with h | h
    · exact .inr ⟨p, List.mem_cons_self, h⟩
    · rcases List.mem_cons.mp h with h | h
      · exact .inl h
      · rcases joinL_mem h with h | ⟨y, hy, h⟩
        · exact .inl h
        · exact .inr ⟨y, List.mem_cons_of_mem _ hy, h⟩
abbrev RowW := Str × List Str
def rowT (r : RowW) : Str := Txt.join " " (r.1 :: r.2)
def pageW (wss : List RowW) : Str := Txt.join "\n" (wss.map rowT)
structure RowOk (r : RowW) : Prop where
  free : ∀ y ∈ r.1 :: r.2, 10 ∉ y.cps.toList ∧ 32 ∉ y.cps.toList ∧ y.length ≤ 100
  few : r.2.length ≤ 30
  ok : PyData.strOk r.1 = true
structure PageOk (wss : List RowW) : Prop where
  ne : wss ≠ []
  few : wss.length ≤ 40
  rows : ∀ r ∈ wss, RowOk r
theorem rowT_split {r : RowW} (h : RowOk r) : Txt.split (rowT r) " " = r.1 :: r.2 := by
  unfold rowT
  rw [bl_mk]
  exact Tx.split_join (by simp) fun s hs => (h.free s hs).2.1
theorem rowT_free {r : RowW} (h : RowOk r) : 10 ∉ (rowT r).cps.toList := fun y => by
  unfold rowT at y
  rw [show Txt.join " " (r.1 :: r.2) = Str.join ⟨#[32]⟩ (r.1 :: r.2) by rw [← bl_mk]; exact PySem.StrLaws.glued_eq_join _ _, Tx.join_signs] at y
  rcases joinL_mem y with y | ⟨q, hq, y⟩
  · cases y
  · obtain ⟨s, hs, rfl⟩ := List.mem_map.mp hq
    exact (h.free s hs).1 y
theorem rowT_ok {r : RowW} (h : RowOk r) : PySem.JoinOk " " (r.1 :: r.2) = true := by
  refine join_ok (B := 100) (fun y hy => (h.free y hy).2.2) ?_
  have := h.few
  rw [List.length_cons]
  show _ * _ + _ * 1 ≤ _
  (first | lia | omega)
theorem sum_lens {B : Nat} : ∀ {l : List Str}, (∀ y ∈ l, y.length ≤ B) → (l.map (·.length)).sum ≤ l.length * B
  | [], _ => by simp
  | y :: l, h => by
    have h1 := h y List.mem_cons_self
    have h2 := sum_lens fun z hz => h z (List.mem_cons_of_mem _ hz)
    rw [List.map_cons, List.sum_cons, List.length_cons, Nat.succ_mul]
    (first | lia | omega)
theorem rowT_len {r : RowW} (h : RowOk r) : (rowT r).length ≤ 4000 := by
  unfold rowT
  show (Builtin.Str.glued _ _).length ≤ _
  rw [PySem.StrLaws.glued_eq_join, PyProof.Rows.len_join_cons]
  have e := sum_lens (B := 100) fun y hy => (h.free y hy).2.2
  have := h.few
  rw [List.length_cons] at e
  show _ + _ * 1 ≤ _
  (first | lia | omega)
theorem pageW_split {wss : List RowW} (h : PageOk wss) : Txt.split (pageW wss) "\n" = wss.map rowT := by
  unfold pageW
  rw [nl_mk]
  refine Tx.split_join (by simpa using h.ne) fun s hs => ?_
  obtain ⟨r, hr, rfl⟩ := List.mem_map.mp hs
  exact rowT_free (h.rows r hr)
theorem pageW_ok {wss : List RowW} (h : PageOk wss) : PySem.JoinOk "\n" (wss.map rowT) = true := by
  refine join_ok (B := 4000) (fun y hy => ?_) ?_
  · obtain ⟨r, hr, rfl⟩ := List.mem_map.mp hy
    exact rowT_len (h.rows r hr)
  · have := h.few
    rw [List.length_map]
    show _ * _ + _ * 1 ≤ _
    (first | lia | omega)
abbrev StP := Option (Nat × List Tie) × Nat
inductive Step : StP → Str → List Str → StP → Prop
  | points {p : Nat} (h1 : 1 ≤ p) (h2 : p ≤ 10) : Step (none, 0) "points" [Tx.numS p] (some (p, []), 0)
  | tie {p : Nat} {ts : List Tie} {t : Tie} (g : GoodWeb p (ts ++ [t])) : Step (some (p, ts), 0) "tie" ((natT t).map Tx.numS) (some (p, ts ++ [t]), 0)
  | ask {p : Nat} {ts : List Tie} {k : Nat} {x : Str} {zs : List Int} (h9 : ts.length ≤ 9) (ok : AskOk ts.length x zs) : Step (some (p, ts), k) x (zs.map Tx.intS) (some (p, ts), k + 1)
def BadRow : StP → Str → List Str → Prop
  | (none, _), x, ws => ¬ ∃ p : Nat, 1 ≤ p ∧ p ≤ 10 ∧ x = "points" ∧ ws = [Tx.numS p]
  | (some (p, ts), k), x, ws => (k = 0 ∧ x = "tie" ∧ ¬ ∃ t, GoodWeb p (ts ++ [t]) ∧ ws = (natT t).map Tx.numS) ∨ ((k ≠ 0 ∨ x ≠ "tie") ∧ ts.length ≤ 9 ∧ ¬ ∃ zs, AskOk ts.length x zs ∧ ws = zs.map Tx.intS)
abbrev Ask := Str × List Int
def AsksOk (n : Nat) (as : List Ask) : Prop := ∀ q ∈ as, AskOk n q.1 q.2
def AskP (H : Hp) (v : V) (q : Ask) : Prop := ∃ r, v = .ref r ∧ AskAt H r q.1 q.2
def askD (q : Ask) : PyData := .tuple [.str q.1, .tuple (q.2.map PyData.int)]
theorem AskP.tups {H H' : Hp} {v : V} {q : Ask} (s : Tups H H') (h : AskP H v q) : AskP H' v q := by
  obtain ⟨r, e, b, h1, h2⟩ := h
  exact ⟨r, e, b, s _ _ h1, s _ _ h2⟩
theorem ask_dat {K : PySem.W.Frag} {H : Hp} {v : V} {q : Ask} (h : AskP H v q) : DatV K H v (askD q) := by
  obtain ⟨r, rfl, b, h1, h2⟩ := h
  exact .tup (SqT.of h1) (.cons (.str _) (.cons (.tup (SqT.of h2) (ints_dat q.2)) .nil))
theorem asks_dat {K : PySem.W.Frag} {H : Hp} : ∀ {xs : List V} {as : List Ask}, Paired (AskP H) xs as → DatVs K H xs (as.map askD)
  | _, _, .nil => .nil
  | _, _, .cons h r => .cons (ask_dat h) (asks_dat r)
theorem ask_word {n : Nat} {x : Str} {zs : List Int} (h : AskOk n x zs) : SeqAt.shaped (.str x) = true := by
  cases h with
  | bare h => rcases h with rfl | rfl | rfl <;> decide +kernel
  | ties h => rcases h with rfl | rfl | rfl <;> decide +kernel
  | heights => decide +kernel
theorem word_ok {n : Nat} {q : Ask} (h : AskOk n q.1 q.2) : PyData.strOk q.1 = true := by
  have e := ask_word h
  have e2 := SeqAt.canLay_of_shaped e
  simpa [PyData.canLay0] using e2
theorem lay_ask {n : Nat} {q : Ask} (h : AskOk n q.1 q.2) : (askD q).canLay0 = true := by
  simp only [askD, PyData.canLay0, PyData.canLayAll0, word_ok h, lay_ints, Bool.and_true]
theorem deep_ask (q : Ask) : (askD q).depth ≤ 2 := by
  have e : (askD q).depth = max 0 (max (PyData.depthAll (q.2.map PyData.int) + 1) 0) + 1 := by simp [askD, PyData.depth, PyData.depthAll]
  rw [e, deep_ints]
  decide
theorem lay_asks {n : Nat} : ∀ {as : List Ask}, AsksOk n as → PyData.canLayAll0 (as.map askD) = true
  | [], _ => rfl
  | q :: r, h => by
    have ih := lay_asks (as := r) fun y hy => h y (List.mem_cons_of_mem _ hy)
    simp only [List.map_cons, PyData.canLayAll0, ih, Bool.and_true, lay_ask (h q List.mem_cons_self)]
theorem deep_asks : ∀ as : List Ask, PyData.depthAll (as.map askD) ≤ 2
  | [] => Nat.zero_le _
  | q :: r => by
    show max (PyData.depth (askD q)) (PyData.depthAll (r.map askD)) ≤ 2
    exact Nat.max_le.mpr ⟨deep_ask q, deep_asks r⟩
theorem shaped_asks {n : Nat} {as : List Ask} (h : AsksOk n as) : SeqAt.shaped (.list (as.map askD)) = true := by
  unfold SeqAt.shaped
  have e : (PyData.list (as.map askD)).canLay0 = PyData.canLayAll0 (as.map askD) := by simp [PyData.canLay0]
  rw [e, lay_asks h, Bool.true_and]
  refine decide_eq_true ?_
  have e2 : PyData.depth (PyData.list (as.map askD)) = PyData.depthAll (as.map askD) + 1 := by simp [PyData.depth]
  have := deep_asks as
  (first | lia | omega)
theorem Step.none_inv {k : Nat} {x : Str} {ws : List Str} {st' : StP} (h : Step (none, k) x ws st') : ∃ p : Nat, 1 ≤ p ∧ p ≤ 10 ∧ x = "points" ∧ ws = [Tx.numS p] ∧ st' = (some (p, []), 0) := by
  cases h with
  | points h1 h2 => exact ⟨_, h1, h2, rfl, rfl, rfl⟩
theorem Step.some_inv {p : Nat} {ts : List Tie} {k : Nat} {x : Str} {ws : List Str} {st' : StP} (h : Step (some (p, ts), k) x ws st') : (k = 0 ∧ x = "tie" ∧ ∃ t, GoodWeb p (ts ++ [t]) ∧ ws = (natT t).map Tx.numS ∧ st' = (some (p, ts ++ [t]), 0)) ∨ (x ≠ "tie" ∧ ts.length ≤ 9 ∧ (∃ zs, AskOk ts.length x zs ∧ ws = zs.map Tx.intS) ∧ st' = (some (p, ts), k + 1)) := by
  cases h with
  | tie g => exact .inl ⟨rfl, rfl, _, g, rfl, rfl⟩
  | ask h9 ok =>
    refine .inr ⟨?_, h9, ⟨_, ok, rfl⟩, rfl⟩
    cases ok with
    | bare h => rcases h with rfl | rfl | rfl <;> decide +kernel
    | ties h => rcases h with rfl | rfl | rfl <;> decide +kernel
    | heights => decide +kernel
theorem natT_inj {p q : Int} {t u : Tie} (g : GoodTie p t) (g' : GoodTie q u) (h : natT t = natT u) : t = u := by
  have e := natT_cast g
  rw [h, natT_cast g'] at e
  obtain ⟨t1, t2, t3⟩ := t
  obtain ⟨u1, u2, u3⟩ := u
  injection e with h1 e
  injection e with h2 e
  injection e with h3 e
  rw [show u1 = t1 from h1, show u2 = t2 from h2, show u3 = t3 from h3]
def Rep (H : Hp) (wv : V) (acc : List V) : StP → Prop
  | (none, k) => wv = .non ∧ acc = [] ∧ k = 0
  | (some (p, ts), k) => ∃ wb as, wv = .ref wb ∧ WebAt H wb p ts ∧ GoodWeb p ts ∧ Paired (AskP H) acc as ∧ AsksOk ts.length as ∧ as.length = k
theorem asks_nil {as : List Ask} : (PyData.eqv (.list (as.map askD)) (.list (([] : List Nat).map natD))) = decide (as.length = 0) := by
  cases as with
  | nil => simp [PyData.eqv, PyData.eqvAll]
  | cons => simp [PyData.eqv, PyData.eqvAll]
theorem ask_not_tie {n : Nat} {x : Str} {zs : List Int} (h : AskOk n x zs) : x ≠ "tie" := by
  cases h with
  | bare h => rcases h with rfl | rfl | rfl <;> decide +kernel
  | ties h => rcases h with rfl | rfl | rfl <;> decide +kernel
  | heights => decide +kernel
def sp_xinit (C : Addr) (f : Str) : Sp := fun vs H Q _ => ∃ x u v, vs = [.ref x, u, v] ∧ H x = some (ExcN x (.ref C) none) ∧ ∀ d, H d = none → d ≠ x → Q .non (upd (upd H x (ExcN x (.ref C) (some d))) d (.xd [(f, v)]))
def sp_read_page (C : Addr) : Sp := fun vs H Q E => ∃ (wss : List RowW) (sts : Nat → StP) (m : Nat), vs = [.str (pageW wss)] ∧ PageOk wss ∧ sts 0 = (none, 0) ∧ (∀ i r, i < m → wss[i]? = some r → Step (sts i) r.1 r.2 (sts (i + 1))) ∧
  (wss.length ≤ m → ∀ v H', Same H H' → Q v H') ∧ (∀ r, wss[m]? = some r → BadRow (sts m) r.1 r.2 ∧ ∀ d H', Same H H' → H' d = some (.xd [("row", .int ((m : Int) + 1))]) → E (.ref C) (some d) H')

section
variable {P : Program} {w : World} {K : PySem.W.Frag} {mg : Str → Option Value} {base : Heap} {a : Adr}
theorem G_NoText_init (T : Txt K mg a) : FnOk P w K mg base CX0 1 a.f_NoText_init a.d_NoText_init ["self", "words", "row"] (sp_xinit a.c_NoText "row") := by
  refine T.F_NoText_init.ok sc_NoText_init (fun vs H Q E h => ?_) (fun cdv A outer s H vs Q E hr h => ?_)
  · obtain ⟨x, u, v, rfl, _⟩ := h
    rfl
  · obtain ⟨x, u, v, rfl, hx, q⟩ := h
    refine ⟨_, (@pss_cons _ _ _ _ _ (@ps_expr _ _ _ _ (@pe_xinit _ _ _ _ _ _ _ _ _ _ _ _ _ _ T.xi_NoText T.x_RingError (by rfl) T.g_RingError (@pa_cons _ _ _ _ _ (pv 0) (@pa_cons _ _ _ _ _ (pv 1) pa_nil (by rfl)) (by rfl)) (by rfl) (by rfl) (by decide) (by rfl)) (by rfl)) (@pss_one _ _ _ (@ps_xset _ _ _ _ _ _ _ _ _ _ _ T.xi_NoText (pv 0) (pv 2) (by rfl)))), ?_⟩
    refine hd_NoText_init ?_
    intro zz0
    refine (exq rfl (exq rfl ⟨x, none, [u], rfl, dl rfl, hx, fun H2 e2 => ?_⟩))
    rw [upd_id hx] at e2
    subst e2
    exact (exq rfl (exq rfl ⟨x, rfl, hx, fun d hd hne => q d hd hne⟩))
theorem G_read_page (T : Txt K mg a) : FnOk P w K mg base (CX1 P w) 5 a.f_read_page a.d_read_page ["text"] (sp_read_page a.c_NoText) := by
  have G_web_grown : FnOk P w K mg base CX0 3 a.f_web_grown a.d_web_grown ["web", "words"] sp_web_grown := G_web_grown T
  have G_asked_by : FnOk P w K mg base CX0 4 a.f_asked_by a.d_asked_by ["web", "words"] sp_asked := G_asked_by T
  have G_NoText_init : FnOk P w K mg base CX0 1 a.f_NoText_init a.d_NoText_init ["self", "words", "row"] (sp_xinit a.c_NoText "row") := G_NoText_init T
  refine T.F_read_page.ok1 sc_read_page (fun vs H Q E h => ?_) (fun cdv A outer s H vs Q E hr h => ?_)
  · obtain ⟨wss, sts, m, rfl, _⟩ := h
    rfl
  · obtain ⟨wss, sts, m, rfl, ok, st0, step, q, e⟩ := h
    refine ⟨_, (@pss_cons _ _ _ _ _ (@ps_set _ _ 1 _ _ _ _ sc_read_page.nd rfl (Or.inl rfl) pe_non (by rfl) (by first | exact .inl rfl | exact .inr rfl | assumption)) (@pss_cons _ _ _ _ _ (@ps_set _ _ 2 _ _ _ _ sc_read_page.nd rfl (Or.inl rfl) (@pe_lst _ _ _ _ pa_nil) (by rfl) (by first | exact .inl rfl | exact .inr rfl | assumption)) (@pss_cons _ _ _ _ _ (@ps_for _ _ _ _ _ _ _ _ PassesOwn.leaving rfl (@pi_enumS _ _ _ _ K _ _ _ _ _ _ _ (by rfl) T.n_enumerate (@pa_cons _ _ _ _ _ (@bmK _ _ _ _ _ _ K (@pe_bm _ _ _ _ _ _ _ _ _ _ _ _ PySem.F.plainAttrs_str PySem.F.slot_str_split PySem.F.type_str_split mt_split (pv 0) (@pa_cons _ _ _ _ _ pe_str pa_nil (by rfl)) (by rfl) (by rfl) (by rfl) (by rfl) (by rfl)) (by rfl)) pa_nil (by rfl)) (by rfl) (by rfl)) (@pgT _ _ K _ _ 2 _ rfl (@pgs_cons _ _ _ _ _ (pg_name (i := 3) sc_read_page.nd rfl (Or.inl rfl)) (@pgs_cons _ _ _ _ _ (pg_name (i := 4) sc_read_page.nd rfl (Or.inl rfl)) pgs_nil (by rfl)) (by rfl)) (by rfl) (by rfl) (by rfl)) (@pss_cons _ _ _ _ _ (@ps_set _ _ 5 _ _ _ _ sc_read_page.nd rfl (Or.inl rfl) (@bmK _ _ _ _ _ _ K (@pe_bm _ _ _ _ _ _ _ _ _ _ _ _ PySem.F.plainAttrs_str PySem.F.slot_str_split PySem.F.type_str_split mt_split (pv 4) (@pa_cons _ _ _ _ _ pe_str pa_nil (by rfl)) (by rfl) (by rfl) (by rfl) (by rfl) (by rfl)) (by rfl)) (by rfl) (by first | exact .inl rfl | exact .inr rfl | assumption)) (@pss_cons _ _ _ _ _ (@ps_if _ _ _ _ _ _ _ _ (PW.pt (@pw_or _ _ _ _ _ _ _ (@pt_cmpR _ _ _ _ _ _ _ _ op_isN (pv 1) pe_non (nomark _)) (@pw_or1 _ _ _ _ (PW.pt (@pw_and _ _ _ _ _ _ _ (@pt_cmpR _ _ _ _ _ _ _ _ (op_eqK K hr.units) (pv 2) (@pe_lst _ _ _ _ pa_nil) (nomark _)) (@pw_and1 _ _ _ _ (@pt_cmpR _ _ _ _ _ _ _ _ op_eq (@pe_ix _ _ _ _ _ _ _ (ixL K) (pv 5) pe_int (fun _ _ => rfl)) pe_str (nomark _)))))))) (@pss_cons _ _ _ _ _ (@ps_set _ _ 1 _ _ _ _ sc_read_page.nd rfl (Or.inl rfl) (@pe_call _ _ _ _ _ _ _ _ _ _ _ _ _ _ _ _ G_web_grown (hr.mono (by decide)) (by rfl) T.m_web_grown T.k_web_grown T.b_web_grown .nil pass0 (@pa_cons _ _ _ _ _ (pv 1) (@pa_cons _ _ _ _ _ (pv 5) pa_nil (by rfl)) (by rfl)) (by decide) (by rfl) (by rfl)) (by rfl) (by first | exact .inl rfl | exact .inr rfl | assumption)) (@pss_one _ _ _ (@ps_set _ _ 6 _ _ _ _ sc_read_page.nd rfl (Or.inl rfl) (@pe_cmpR _ _ _ _ _ _ _ _ op_notN (pv 1) pe_non (nomark _)) (by rfl) (by first | exact .inl rfl | exact .inr rfl | assumption)))) (@pss_cons _ _ _ _ _ (@ps_expr _ _ _ _ (@bmK _ _ _ _ _ _ K (@pe_bm _ _ _ _ _ _ _ _ _ _ _ _ PySem.F.plainAttrs_list PySem.F.slot_list_append PySem.F.type_list_append mt_append (pv 2) (@pa_cons _ _ _ _ _ (@pe_call _ _ _ _ _ _ _ _ _ _ _ _ _ _ _ _ G_asked_by (hr.mono (by decide)) (by rfl) T.m_asked_by T.k_asked_by T.b_asked_by .nil pass0 (@pa_cons _ _ _ _ _ (pv 1) (@pa_cons _ _ _ _ _ (pv 5) pa_nil (by rfl)) (by rfl)) (by decide) (by rfl) (by rfl)) pa_nil (by rfl)) (by rfl) (by rfl) (by rfl) (by rfl) (by rfl)) (by rfl)) (by rfl)) (@pss_one _ _ _ (@ps_set _ _ 6 _ _ _ _ sc_read_page.nd rfl (Or.inl rfl) (@pe_cmpR _ _ _ _ _ _ _ _ op_notN (@pe_ix _ _ _ _ _ _ _ (ixL K) (pv 2) (@pe_un _ _ _ _ _ _ un_neg pe_int) (fun _ _ => rfl)) pe_non (nomark _)) (by rfl) (by first | exact .inl rfl | exact .inr rfl | assumption))))) (@pss_one _ _ _ (@ps_if _ _ _ _ _ _ _ _ (@pt_not _ _ _ _ (@pt_val _ _ _ (pv 6) (by intro _; rfl))) (@pss_one _ _ _ (@ps_raiseI _ _ _ _ _ _ _ _ _ _ _ _ _ _ _ _ _ _ out_of rfl (by rfl) T.g_NoText T.xi_NoText T.x_RingError G_NoText_init (hr.mono (by decide)) T.b_NoText_init (@pa_cons _ _ _ _ _ pe_str (@pa_cons _ _ _ _ _ (pv 3) pa_nil (by rfl)) (by rfl)) (by rfl) (by rfl) (by decide))) pss_nil)))) (by intro _; rfl)) (@pss_one _ _ _ (@ps_ret _ _ _ _ (@pe_tup _ _ _ _ _ (@pa_cons _ _ _ _ _ (pv 1) (@pa_cons _ _ _ _ _ (pv 2) pa_nil (by rfl)) (by rfl)))))))), ?_⟩
    refine hd_read_page ?_
    intro zz0 zz1 zz2 zz3 zz4 zz5 zz6 zz7 zz8 zz9 zz10
    refine ⟨dl rfl, fun F hF => ?_⟩
    have s1 : Same H (upd H F (.lst [])) := Same.new hF
    have hF1 : upd H F (.lst []) F = some (.lst []) := upd_same
    generalize upd H F (.lst []) = H1 at s1 hF1
    have hrl : (wss.map rowT).length = wss.length := List.length_map ..
    have w40 := ok.few
    refine (exq rfl ⟨rfl, pageW wss, "\n", rfl, rfl, (by decide +kernel), PySem.joinOk_length (pageW_ok ok), ?_, fun D hD => ?_⟩)
    · rw [pageW_split ok, hrl]
      exact dl (Nat.ble_eq.mpr (by (first | lia | omega)))
    rw [pageW_split ok]
    have s2 : Same H1 (upd H1 D (.lst ((wss.map rowT).map V.str))) := Same.new hD
    have hD2 : upd H1 D (.lst ((wss.map rowT).map V.str)) D = some (.lst ((wss.map rowT).map V.str)) := upd_same
    have hF2 := s2 _ _ hF1
    have s12 := s1.trans s2
    have nDF : D ≠ F := fun e => by rw [e] at hD; rw [hD] at hF1; cases hF1
    generalize upd H1 D (.lst ((wss.map rowT).map V.str)) = H2 at s2 hD2 hF2 s12
    refine ⟨D, rfl, ⟨_, SqL.of hD2⟩, for_enumS (K := K) (a := D) (xs := (wss.map rowT).map V.str) (fun i σ H3 => ∃ wv acc v3 v4 v5 v6, σ = [some (.str (pageW wss)), some wv, some (.ref F), v3, v4, v5, v6] ∧ Same H H3 ∧ H3 D = some (.lst ((wss.map rowT).map V.str)) ∧ H3 F = some (.lst acc) ∧ acc.length ≤ i ∧ i ≤ m ∧ Rep H3 wv acc (sts i))
      ⟨.non, [], none, none, none, none, rfl, s12, hD2, hF2, Nat.le_refl _, Nat.zero_le _, by rw [st0]; exact ⟨rfl, rfl, rfl⟩⟩ (fun i σ H3 _ ⟨_, _, _, _, _, _, _, _, s, _⟩ => SqL.of s) ?_ ?_⟩
    · rintro i x B σ H3 hx ⟨wv, acc, v3, v4, v5, v6, rfl, s3, hD3, hF3, hac, him, rep⟩ hB
      have s4 : Same H3 (upd H3 B (.tup [.int ((i : Int) + 1), x])) := Same.new hB
      refine ⟨B, _, rfl, SqT.of upd_same, rfl, _, _, rfl, _, _, rfl, rfl, ?_⟩
      generalize upd H3 B (.tup [.int ((i : Int) + 1), x]) = H4 at s4
      obtain ⟨r, hr', rfl⟩ : ∃ r, wss[i]? = some r ∧ x = .str (rowT r) := by
        rw [List.getElem?_map, List.getElem?_map] at hx
        obtain ⟨y, hy, rfl⟩ := Option.map_eq_some_iff.mp hx
        obtain ⟨r, hr', rfl⟩ := Option.map_eq_some_iff.mp hy
        exact ⟨r, hr', rfl⟩
      have rk := ok.rows r (List.mem_of_getElem? hr')
      have stepI : i < m → Step (sts i) r.1 r.2 (sts (i + 1)) := fun h => step i r h hr'
      have badI : i = m → BadRow (sts i) r.1 r.2 := fun h => by
        rw [h]
        exact (e r (by rw [← h]; exact hr')).1
      have fin : ∀ (E9 : Ends) (wv9 : V) (acc9 : List V) (b : Bool) (v4 v5 : Option V) (H9 : Hp), Same H H9 → H9 D = some (.lst ((wss.map rowT).map V.str)) → H9 F = some (.lst acc9) → acc9.length ≤ i + 1 → (b = true → i < m ∧ Rep H9 wv9 acc9 (sts (i + 1))) → (b = false → i = m) →
          (∀ σ H3, (∃ wv acc v3 v4 v5 v6, σ = [some (.str (pageW wss)), some wv, some (.ref F), v3, v4, v5, v6] ∧ Same H H3 ∧ H3 D = some (.lst ((wss.map rowT).map V.str)) ∧ H3 F = some (.lst acc) ∧ acc.length ≤ i + 1 ∧ i + 1 ≤ m ∧ Rep H3 wv acc (sts (i + 1))) → E9.nx σ H3) →
          zz2 E9 [some (.str (pageW wss)), some wv9, some (.ref F), some (.int ((i : Int) + 1)), v4, v5, some (.bl b)] H9 := by
        intro E9 wv9 acc9 b v4 v5 H9 s9 hD9 hF9 ha9 k1 k2 kn
        cases b with
        | true =>
          obtain ⟨h1, h2⟩ := k1 rfl
          exact (exq rfl (exq rfl (iteF (kn _ _ ⟨wv9, acc9, _, _, _, _, rfl, s9, hD9, hF9, ha9, by (first | lia | omega), h2⟩))))
        | false =>
          have hi := k2 rfl
          obtain ⟨_, ek⟩ := e r (by rw [← hi]; exact hr')
          refine (exq rfl (exq rfl (iteT (exq rfl ⟨dl rfl, fun x hx => ⟨x, _, _, rfl, upd_same, fun d hd hne => ⟨rfl, some d, ?_, ?_⟩⟩⟩))))
          · rw [upd_ne (Ne.symm hne), upd_same]
          · refine ek d _ (fun b o hb => ?_) ?_
            · have hb2 := s9 b o hb
              have h1 : b ≠ x := ne_of_none hb2 hx
              have h2 : b ≠ d := fun z => by rw [z] at hb2; rw [upd_ne hne] at hd; rw [hd] at hb2; cases hb2
              rw [del_ne h1, upd_ne h2, upd_ne h1, upd_ne h1]
              exact hb2
            · rw [del_ne hne, upd_same, ← hi]
      have hF4 := s4 _ _ hF3
      have hD4 := s4 _ _ hD3
      have s24 := s3.trans s4
      refine (exq rfl ⟨rfl, rowT r, " ", rfl, rfl, (by decide +kernel), PySem.joinOk_length (rowT_ok rk), ?_, fun W hW => ?_⟩)
      · rw [rowT_split rk]
        have := rk.few
        exact dl (Nat.ble_eq.mpr (by rw [List.length_cons]; (first | lia | omega)))
      rw [rowT_split rk]
      have s5 : Same H4 (upd H4 W (.lst (wordsV r.1 r.2))) := Same.new hW
      have hW5 : upd H4 W (.lst (wordsV r.1 r.2)) W = some (.lst (wordsV r.1 r.2)) := upd_same
      have hF5 := s5 _ _ hF4
      have hD5 := s5 _ _ hD4
      have s25 := s24.trans s5
      have s35 := s4.trans s5
      have wd : Wds r.2 := ⟨by have := rk.few; (first | lia | omega), fun y hy => by have := (rk.free y (List.mem_cons_of_mem _ hy)).2.2; (first | lia | omega)⟩
      show zz7 _ _ (upd H4 W (.lst (wordsV r.1 r.2)))
      generalize upd H4 W (.lst (wordsV r.1 r.2)) = H5 at s5 hW5 hF5 hD5 s25 s35
      have hmi : i < m ∨ i = m := by (first | lia | omega)
      generalize hst : sts i = st at rep stepI badI
      obtain ⟨sw, k⟩ := st
      cases sw with
      | none =>
        obtain ⟨rfl, rfl, rfl⟩ := rep
        refine (exq rfl ⟨rfl, exq rfl (iteT ?_)⟩)
        refine (exq rfl (exq rfl ⟨W, r.1, r.2, hW5, wd, .inl ⟨rfl, fun p p1 p2 ex ew w0 H6 s6 hw6 => ?_, fun no H6 s6 => ?_⟩⟩))
        · have hi : i < m := hmi.elim id fun z => absurd ⟨p, p1, p2, ex, ew⟩ (badI z)
          refine (exq rfl ⟨rfl, fin _ (.ref w0) [] true _ _ H6 (s25.trans s6) (s6 _ _ hD5) (s6 _ _ hF5) (Nat.zero_le _) (fun _ => ⟨hi, ?_⟩) (fun z => nomatch z) fun _ _ h => h⟩)
          obtain ⟨p', p1', p2', _, ew', est⟩ := (stepI hi).none_inv
          rw [est]
          have epp : [p] = [p'] := nums_inj (fun n hn => by rw [List.mem_singleton.mp hn]; exact Nat.lt_of_le_of_lt p2 (by decide)) (fun n hn => by rw [List.mem_singleton.mp hn]; exact Nat.lt_of_le_of_lt p2' (by decide)) (ew.symm.trans ew')
          obtain rfl : p = p' := (List.cons.inj epp).1
          exact ⟨w0, [], rfl, hw6, ⟨p1, p2, Nat.zero_le _, (fun _ h => nomatch h)⟩, .nil, (fun _ h => nomatch h), rfl⟩
        · have hi : i = m := hmi.elim (fun z => by
            obtain ⟨p', p1', p2', ex', ew', _⟩ := (stepI z).none_inv
            exact absurd ⟨p', p1', p2', ex', ew'⟩ no) id
          exact (exq rfl ⟨rfl, fin _ .non [] false _ _ H6 (s25.trans s6) (s6 _ _ hD5) (s6 _ _ hF5) (Nat.zero_le _) (fun z => nomatch z) (fun _ => hi) fun _ _ h => h⟩)
      | some pt =>
        obtain ⟨p, ts⟩ := pt
        obtain ⟨wb, as, rfl, hw, g, pr, oka, hk⟩ := rep
        have pr5 := Paired.imp' (fun _ _ y => AskP.tups s35.tups y) pr
        have hw5 := hw.same s35
        refine (exq rfl ⟨rfl, exq rfl (iteF ?_)⟩)
        refine (exq rfl ⟨dl rfl, fun l6 hl6 => ⟨_, _, .lst (SqL.of (Same.new hl6 _ _ hF5)) (asks_dat (Paired.imp' (fun _ _ y => AskP.tups (Same.new hl6).tups y) pr5)), .lst (SqL.of upd_same) (nats_dat []), shaped_asks oka, shaped_nats [], _, rfl, ?_⟩⟩)
        rw [asks_nil]
        have s6 : Same H5 (upd H5 l6 (.lst [])) := Same.new hl6
        have hW6 := s6 _ _ hW5
        have hF6 := s6 _ _ hF5
        have hD6 := s6 _ _ hD5
        have pr6 := Paired.imp' (fun _ _ y => AskP.tups s6.tups y) pr5
        have s26 := s25.trans s6
        have hw6 := hw5.same s6
        generalize upd H5 l6 (.lst []) = H6 at s6 hW6 hF6 hD6 pr6 s26 hw6
        -- a row that asks
        have asks : ∀ E9 : Ends, (k ≠ 0 ∨ r.1 ≠ "tie") → (∀ σ H3, (∃ wv acc v3 v4 v5 v6, σ = [some (.str (pageW wss)), some wv, some (.ref F), v3, v4, v5, v6] ∧ Same H H3 ∧ H3 D = some (.lst ((wss.map rowT).map V.str)) ∧ H3 F = some (.lst acc) ∧ acc.length ≤ i + 1 ∧ i + 1 ≤ m ∧ Rep H3 wv acc (sts (i + 1))) → E9.nx σ H3) → zz6 (E9.on zz2) [some (.str (pageW wss)), some (.ref wb), some (.ref F), some (.int ((i : Int) + 1)), some (.str (rowT r)), some (.ref W), v6] H6 := by
          intro E9 nt kn
          have h9 : ts.length ≤ 9 := hmi.elim (fun z => by
            rcases (stepI z).some_inv with ⟨k0, ex, _⟩ | ⟨_, h9, _⟩
            · exact absurd nt (by rw [k0, ex]; simp)
            · exact h9) fun z => by
            rcases badI z with ⟨k0, ex, _⟩ | ⟨_, h9, _⟩
            · exact absurd nt (by rw [k0, ex]; simp)
            · exact h9
          have hal := pr6.length
          have hi40 := (List.getElem?_eq_some_iff.mp hr').1
          refine (exq rfl ⟨.inl ⟨rfl, _, SqL.of hF6⟩, exq rfl (exq rfl ⟨wb, W, p, ts, r.1, r.2, rfl, hw6, h9, hW6, wd, rk.ok, fun zs okz ew r7 H7 hr7 s7 hA => ?_, fun no H7 s7 => ?_⟩)⟩)
          · have hi : i < m := hmi.elim id fun z => by
              rcases badI z with ⟨k0, ex, _⟩ | ⟨_, _, no⟩
              · exact absurd nt (by rw [k0, ex]; simp)
              · exact absurd ⟨zs, okz, ew⟩ no
            have hF7 := s7 _ _ hF6
            have s8 : Tups H6 (upd H7 F (.lst (acc ++ [.ref r7]))) := s7.tups.trans (Tups.put hF7)
            refine ⟨F, acc, _, rfl, rfl, hF7, small1000 (by (first | lia | omega)), ?_⟩
            refine (exq rfl (exq rfl (ixl (v := .ref r7) (SqL.of upd_same) (atI_last _ _) ⟨rfl, ?_⟩)))
            refine fin _ (.ref wb) (acc ++ [.ref r7]) true _ _ _ ((s26.trans s7).put hF) ?_ upd_same (by rw [List.length_append, List.length_singleton]; (first | lia | omega)) (fun _ => ⟨hi, ?_⟩) (fun z => nomatch z) kn
            · rw [upd_ne nDF]
              exact s7 _ _ hD6
            · rcases (stepI hi).some_inv with ⟨k0, ex, _⟩ | ⟨_, _, _, est⟩
              · exact absurd nt (by rw [k0, ex]; simp)
              rw [est]
              refine ⟨wb, as ++ [(r.1, zs)], rfl, hw6.tups s8, g, Paired.snoc (Paired.imp' (fun _ _ y => AskP.tups s8 y) pr6) (AskP.tups (Tups.put hF7) ⟨r7, rfl, hA⟩), fun y hy => ?_, ?_⟩
              · rcases List.mem_append.mp hy with hy | hy
                · exact oka y hy
                · rw [List.mem_singleton.mp hy]
                  exact okz
              · rw [List.length_append, hk]
                rfl
          · have hi : i = m := hmi.elim (fun z => by
              rcases (stepI z).some_inv with ⟨k0, ex, _⟩ | ⟨_, _, y, _⟩
              · exact absurd nt (by rw [k0, ex]; simp)
              · exact absurd y no) id
            have hF7 := s7 _ _ hF6
            refine ⟨F, acc, _, rfl, rfl, hF7, small1000 (by (first | lia | omega)), ?_⟩
            refine (exq rfl (exq rfl (ixl (v := .non) (SqL.of upd_same) (atI_last _ _) ⟨rfl, ?_⟩)))
            refine fin _ (.ref wb) (acc ++ [.non]) false _ _ _ ((s26.trans s7).put hF) ?_ upd_same (by rw [List.length_append, List.length_singleton]; (first | lia | omega)) (fun z => nomatch z) (fun _ => hi) kn
            rw [upd_ne nDF]
            exact s7 _ _ hD6
        by_cases k0 : as.length = 0
        case neg =>
          rw [decide_eq_false k0]
          exact iteF (iteF (asks _ (.inl (by (first | lia | omega))) fun _ _ h => h))
        rw [decide_eq_true k0]
        refine iteT (exq rfl (ixl (SqL.of hW6) (atI_nat (j := 0) rfl) ⟨rfl, exq rfl (?_)⟩))
        by_cases ht : r.1 = "tie"
        case neg =>
          rw [decide_eq_false (fun y => ht (V.str.inj y))]
          exact iteF (asks _ (.inr ht) fun _ _ h => h)
        rw [decide_eq_true (congrArg V.str ht)]
        refine iteT ?_
        have eacc : acc = [] := List.length_eq_zero_iff.mp (by rw [pr6.length]; exact k0)
        refine (exq rfl (exq rfl ⟨W, r.1, r.2, hW6, wd, .inr ⟨wb, p, ts, rfl, hw6, g, fun t gt ew w0 H7 s7 hw7 => ?_, fun no H7 s7 => ?_⟩⟩))
        · have hi : i < m := hmi.elim id fun z => by
            rcases badI z with ⟨_, _, no⟩ | ⟨nt, _⟩
            · exact absurd ⟨t, gt, ew⟩ no
            · exact nt.elim (fun y => absurd (hk.symm.trans k0) y) (fun y => absurd ht y)
          refine (exq rfl ⟨rfl, fin _ (.ref w0) acc true _ _ H7 (s26.trans s7) (s7 _ _ hD6) (s7 _ _ hF6) (by (first | lia | omega)) (fun _ => ⟨hi, ?_⟩) (fun z => nomatch z) fun _ _ h => h⟩)
          rcases (stepI hi).some_inv with ⟨_, _, t', gt', ew', est⟩ | ⟨nt, _⟩
          case inr => exact absurd ht nt
          rw [est]
          have g1 := gt.ties t (List.mem_append_right _ List.mem_cons_self)
          have g1' := gt'.ties t' (List.mem_append_right _ List.mem_cons_self)
          have g2 := g.p2
          obtain rfl : t = t' := natT_inj g1 g1' (nums_inj (natT_lt (by (first | lia | omega)) g1) (natT_lt (by (first | lia | omega)) g1') (ew.symm.trans ew'))
          exact ⟨w0, [], rfl, hw7, gt, by rw [eacc]; exact .nil, (fun _ h => nomatch h), rfl⟩
        · have hi : i = m := hmi.elim (fun z => by
            rcases (stepI z).some_inv with ⟨_, _, t', gt', ew', _⟩ | ⟨nt, _⟩
            · exact absurd ⟨t', gt', ew'⟩ no
            · exact absurd ht nt) id
          exact (exq rfl ⟨rfl, fin _ .non acc false _ _ H7 (s26.trans s7) (s7 _ _ hD6) (s7 _ _ hF6) (by (first | lia | omega)) (fun z => nomatch z) (fun _ => hi) fun _ _ h => h⟩)
    · rintro σ H3 ⟨wv, acc, v3, v4, v5, v6, rfl, s3, hD3, hF3, hac, him, rep⟩
      rw [List.length_map, List.length_map] at him
      refine (exq rfl (exq rfl ⟨dl rfl, fun r hr' => q him _ _ (s3.trans (Same.new hr'))⟩))
end

def digC (l : List Nat) : Bool := l.all fun c => decide (48 ≤ c) && decide (c ≤ 57)
def numC (l : List Nat) : Bool := decide (0 < l.length) && decide (l.length ≤ 60) && digC l && (decide (l.head? ≠ some 48) || decide (l = [48]))
def zC (l : List Nat) : Bool := numC l || (decide (l.head? = some 45) && numC l.tail && decide (l.tail ≠ [48]))
theorem numC_of {x : Str} (h : Tx.IsN x) : numC x.cps.toList = true := by
  obtain ⟨n, hn, rfl⟩ := h
  have h1 := Tx.num_len n
  have h2 := Tx.num_len_le (k := 60) (by decide) hn
  rw [len_list] at h1 h2
  have h3 : digC (Tx.numS n).cps.toList = true := List.all_eq_true.mpr fun c hc => by
    obtain ⟨a, b⟩ := Tx.digit_in hc
    rw [decide_eq_true a, decide_eq_true b]
    rfl
  by_cases h4 : (Tx.numS n).cps.toList.head? = some 48
  · have n0 := Tx.num_first n (by rw [← List.head?_eq_getElem?]; exact h4)
    subst n0
    decide +kernel
  · unfold numC
    rw [decide_eq_true (p := 0 < _) (by (first | lia | omega)), decide_eq_true h2, h3, decide_eq_true h4]
    rfl
theorem zC_of {x : Str} (h : Tx.IsZ x) : zC x.cps.toList = true := by
  obtain ⟨z, hz, rfl⟩ := h
  unfold zC
  by_cases z0 : 0 ≤ z
  · rw [Tx.int_pos z0, numC_of ⟨z.toNat, by (first | lia | omega), rfl⟩]
    rfl
  · rw [Tx.int_neg (by (first | lia | omega))]
    show (_ || (true && numC (Tx.numS (-z).toNat).cps.toList && decide ((Tx.numS (-z).toNat).cps.toList ≠ [48]))) = true
    have hne : (Tx.numS (-z).toNat).cps.toList ≠ [48] := fun e => by
      have n0 := Tx.num_first (-z).toNat (by rw [e]; rfl)
      (first | lia | omega)
    rw [numC_of ⟨(-z).toNat, by (first | lia | omega), rfl⟩, decide_eq_true hne]
    simp
def wdC (y : Str) : Bool := decide (10 ∉ y.cps.toList) && decide (32 ∉ y.cps.toList) && decide (y.length ≤ 100)
def rowC (r : RowW) : Bool := (r.1 :: r.2).all wdC && decide (r.2.length ≤ 30) && PyData.strOk r.1
theorem wdC_t {y : Str} (h : wdC y = true) : 10 ∉ y.cps.toList ∧ 32 ∉ y.cps.toList ∧ y.length ≤ 100 := by
  unfold wdC at h
  rw [Bool.and_eq_true, Bool.and_eq_true] at h
  exact ⟨of_decide_eq_true h.1.1, of_decide_eq_true h.1.2, of_decide_eq_true h.2⟩
theorem wdC_of {y : Str} (h : 10 ∉ y.cps.toList ∧ 32 ∉ y.cps.toList ∧ y.length ≤ 100) : wdC y = true := by
  unfold wdC
  rw [decide_eq_true h.1, decide_eq_true h.2.1, decide_eq_true h.2.2]
  rfl
theorem RowOk.of {r : RowW} (h : rowC r = true) : RowOk r := by
  unfold rowC at h
  rw [Bool.and_eq_true, Bool.and_eq_true] at h
  exact ⟨fun y hy => wdC_t (List.all_eq_true.mp h.1.1 y hy), of_decide_eq_true h.1.2, h.2⟩
def numBads : List Str := ["01", "00", "+1", "1_0", "-0", "", "a", "1.", "--1", "1-", "-", "\t1", "1\t", "0x1", Tx.repS "1" 61, "-" ++ Tx.repS "1" 61]
structure Bw (y : Str) : Prop where
  n : ¬ Tx.IsN y
  z : ¬ Tx.IsZ y
  wd : wdC y = true
theorem bw_all : ∀ y ∈ numBads, Bw y := fun y hy => by
  have h : ∀ y ∈ numBads, zC y.cps.toList = false ∧ wdC y = true := by decide +kernel
  obtain ⟨h1, h2⟩ := h y hy
  have hz : ¬ Tx.IsZ y := fun k => by rw [zC_of k] at h1; cases h1
  exact ⟨fun k => hz k.z, hz, h2⟩
theorem minus_n : ¬ Tx.IsN "-1" ∧ ¬ Tx.IsN "-2" ∧ ¬ Tx.IsN "" := by
  have h : numC ("-1" : Str).cps.toList = false ∧ numC ("-2" : Str).cps.toList = false ∧ numC ("" : Str).cps.toList = false := by decide +kernel
  exact ⟨fun k => by rw [numC_of k] at h; exact absurd h.1 (by decide), fun k => by rw [numC_of k] at h; exact absurd h.2.1 (by decide), fun k => by rw [numC_of k] at h; exact absurd h.2.2 (by decide)⟩
def BadT (S : Str → List Str → Prop) (y : Str) : Prop := ∃ r : RowW, y = rowT r ∧ RowOk r ∧ S r.1 r.2
theorem lit0 : (Str.ofString "tie ").cps.toList = [116, 105, 101, 32] := by decide +kernel
theorem lit1 : (Str.ofString " 0 1").cps.toList = [32, 48, 32, 49] := by decide +kernel
theorem lit2 : (Str.ofString "tie 0 ").cps.toList = [116, 105, 101, 32, 48, 32] := by decide +kernel
theorem lit3 : (Str.ofString " 1").cps.toList = [32, 49] := by decide +kernel
theorem lit4 : (Str.ofString "tie 0 1 ").cps.toList = [116, 105, 101, 32, 48, 32, 49, 32] := by decide +kernel
theorem lit5 : (Str.ofString "tie").cps.toList = [116, 105, 101] := by decide +kernel
theorem lit6 : (Str.ofString "0").cps.toList = [48] := by decide +kernel
theorem lit7 : (Str.ofString "1").cps.toList = [49] := by decide +kernel
theorem lit8 : (Str.ofString " ").cps.toList = [32] := by decide +kernel
theorem lit9 : (Str.ofString " -1").cps.toList = [32, 45, 49] := by decide +kernel
theorem lit10 : (Str.ofString "-1").cps.toList = [45, 49] := by decide +kernel
theorem lit11 : (Str.ofString "  ").cps.toList = [32, 32] := by decide +kernel
theorem lit12 : (Str.ofString " 0 0").cps.toList = [32, 48, 32, 48] := by decide +kernel
theorem lit13 : (Str.ofString " 1 0").cps.toList = [32, 49, 32, 48] := by decide +kernel
theorem lit14 : (Str.ofString "heights 1").cps.toList = [104, 101, 105, 103, 104, 116, 115, 32, 49] := by decide +kernel
theorem lit15 : (Str.ofString "heights").cps.toList = [104, 101, 105, 103, 104, 116, 115] := by decide +kernel
theorem lit16 : (Str.ofString "heights 0").cps.toList = [104, 101, 105, 103, 104, 116, 115, 32, 48] := by decide +kernel
theorem lit17 : (Str.ofString " 0").cps.toList = [32, 48] := by decide +kernel
theorem lit18 : (Str.ofString "heights -2").cps.toList = [104, 101, 105, 103, 104, 116, 115, 32, 45, 50] := by decide +kernel
theorem lit19 : (Str.ofString "-2").cps.toList = [45, 50] := by decide +kernel
theorem lit20 : (Str.ofString "heights ").cps.toList = [104, 101, 105, 103, 104, 116, 115, 32] := by decide +kernel
theorem lit21 : (Str.ofString "").cps.toList = [] := by decide +kernel
def jl : List Str → List Nat
  | [] => []
  | w :: ws => 32 :: (w.cps.toList ++ jl ws)
theorem rowT_codes : ∀ (x : Str) (ws : List Str), (rowT (x, ws)).cps.toList = x.cps.toList ++ jl ws := by
  intro x ws
  have e : (rowT (x, ws)) = Str.join ⟨#[32]⟩ (x :: ws) := by
    unfold rowT
    rw [bl_mk]
    exact PySem.StrLaws.glued_eq_join _ _
  rw [e, Tx.join_signs]
  clear e
  induction ws generalizing x with
  | nil => simp [Tx.joinL, jl]
  | cons w ws ih =>
    show x.cps.toList ++ 32 :: Tx.joinL 32 ((w :: ws).map (·.cps.toList)) = _
    rw [ih w]
    rfl
theorem jl_app : ∀ a b : List Str, jl (a ++ b) = jl a ++ jl b
  | [], _ => rfl
  | w :: a, b => by
    show 32 :: (w.cps.toList ++ jl (a ++ b)) = 32 :: (w.cps.toList ++ jl a) ++ jl b
    rw [jl_app a b]
    simp
theorem jl_rep0 : ∀ n, jl (List.replicate n "0") = (Tx.repS " 0" n).cps.toList
  | 0 => rfl
  | n + 1 => by
    show 32 :: (("0" : Str).cps.toList ++ jl (List.replicate n "0")) = ((" 0" : Str) ++ Tx.repS " 0" n).cps.toList
    rw [PySem.W.KT.app_list, jl_rep0 n, lit6, lit17]
    rfl
theorem jl_rep1 : ∀ n, jl (List.replicate n "1") = (Tx.repS " 1" n).cps.toList
  | 0 => rfl
  | n + 1 => by
    show 32 :: (("1" : Str).cps.toList ++ jl (List.replicate n "1")) = ((" 1" : Str) ++ Tx.repS " 1" n).cps.toList
    rw [PySem.W.KT.app_list, jl_rep1 n, lit7, lit3]
    rfl
def firstTexts : List Str := ["", "points", "points 0", "points 11", "points 2 ", " points 2", "points 2 2", "point 2", "Points 2", "points  2", "points -1", "tie 0 1 1", "lengths", "points two", "2", "points\t2"]
def firstRows : List RowW := [("", []), ("points", []), ("points", ["0"]), ("points", ["11"]), ("points", ["2", ""]), ("", ["points", "2"]), ("points", ["2", "2"]), ("point", ["2"]), ("Points", ["2"]), ("points", ["", "2"]), ("points", ["-1"]), ("tie", ["0", "1", "1"]), ("lengths", []), ("points", ["two"]), ("2", []), ("points\t2", [])]
theorem first_bad : ∀ y ∈ firstTexts, BadT (BadRow (none, 0)) y := fun y hy => by
  have e : firstTexts = firstRows.map rowT := by decide +kernel
  have h : ∀ r ∈ firstRows, rowC r = true ∧ (r.1 ≠ "points" ∨ ∀ p : Nat, p < 11 → 1 ≤ p → r.2 ≠ [Tx.numS p]) := by decide +kernel
  rw [e] at hy
  obtain ⟨r, hr, rfl⟩ := List.mem_map.mp hy
  obtain ⟨h1, h2⟩ := h r hr
  exact ⟨r, rfl, .of h1, fun ⟨p, p1, p2, e1, e2⟩ => h2.elim (fun k => k e1) fun k => k p (by (first | lia | omega)) p1 e2⟩
theorem first_bad2 {bad : Str} (b : Bw bad) : BadT (BadRow (none, 0)) (("points " : Str) ++ bad) := by
  refine ⟨("points", [bad]), ?_, .of ?_, fun ⟨p, p1, p2, _, e⟩ => b.n ⟨p, Nat.lt_of_le_of_lt p2 (by decide), (List.cons.inj e).1⟩⟩
  · refine Tx.str_ext ?_
    rw [rowT_codes, PySem.W.KT.app_list, show ("points " : Str).cps.toList = ("points" : Str).cps.toList ++ [32] by decide +kernel]
    simp [jl]
  · have h : wdC "points" = true ∧ PyData.strOk "points" = true := by decide +kernel
    show ([("points" : Str), bad].all wdC && true && PyData.strOk "points") = true
    simp [h, b.wd]

def BadTie (p : Nat) (ws : List Str) : Prop := ∀ t, GoodTie (p : Int) t → ws ≠ (natT t).map Tx.numS
theorem BadTie.row {p : Nat} {ws : List Str} (h : BadTie p ws) : ∀ ts : List Tie, BadRow (some (p, ts), 0) "tie" ws := fun ts => .inl ⟨rfl, rfl, fun ⟨t, g, e⟩ => h t (g.ties t (List.mem_append_right _ List.mem_cons_self)) e⟩
theorem badTie_len {p : Nat} {ws : List Str} (h : ws.length ≠ 3) : BadTie p ws := fun t _ e => h (by rw [e]; rfl)
theorem badTie_n {p : Nat} {ws : List Str} {y : Str} (hp : p ≤ 10) (h : y ∈ ws) (hn : ¬ Tx.IsN y) : BadTie p ws := fun t g e => by
  rw [e] at h
  obtain ⟨n, hm, rfl⟩ := List.mem_map.mp h
  exact hn ⟨n, natT_lt (by (first | lia | omega)) g n hm, rfl⟩
theorem badTie_3 {p a b c : Nat} (hp : p ≤ 10) (ha : a < 10 ^ 60) (hb : b < 10 ^ 60) (hc : c < 10 ^ 60) (h : ¬ (a < p ∧ b < p ∧ a ≠ b ∧ 1 ≤ c ∧ c ≤ 10 ^ 30)) : BadTie p [Tx.numS a, Tx.numS b, Tx.numS c] := fun t g e => by
  have e2 : [a, b, c] = natT t := nums_inj (fun n hn => by
    rcases List.mem_cons.mp hn with rfl | hn
    · exact ha
    rcases List.mem_cons.mp hn with rfl | hn
    · exact hb
    rcases List.mem_cons.mp hn with rfl | hn
    · exact hc
    · cases hn) (natT_lt (by (first | lia | omega)) g) e
  unfold natT at e2
  injection e2 with h1 e2
  injection e2 with h2 e2
  injection e2 with h3 _
  have a0 := g.a0
  have a1 := g.a1
  have b0 := g.b0
  have b1 := g.b1
  have l0 := g.l0
  have l1 := g.l1
  have ab := g.ne
  refine h ⟨by (first | lia | omega), by (first | lia | omega), by (first | lia | omega), by (first | lia | omega), ?_⟩
  rw [show (10 : Nat) ^ 30 = 1000000000000000000000000000000 by decide]
  (first | lia | omega)
theorem ask_word7 {n : Nat} {x : Str} {zs : List Int} (h : AskOk n x zs) : x ∈ [("lengths" : Str), "base", "forests", "even", "cut", "odd", "heights"] := by
  cases h with
  | bare h => rcases h with rfl | rfl | rfl <;> simp
  | ties h => rcases h with rfl | rfl | rfl <;> simp
  | heights => simp
def NoAsk (n : Nat) (x : Str) (ws : List Str) : Prop := ¬ ∃ zs, AskOk n x zs ∧ ws = zs.map Tx.intS
theorem noAsk_word {n : Nat} {x : Str} {ws : List Str} (h : x ∉ [("lengths" : Str), "base", "forests", "even", "cut", "odd", "heights"]) : NoAsk n x ws := fun ⟨_, ok, _⟩ => h (ask_word7 ok)
theorem num0 : ("0" : Str) = Tx.numS 0 ∧ ("1" : Str) = Tx.numS 1 := by decide +kernel
theorem wd_num {n : Nat} (h : n < 10 ^ 60) : wdC (Tx.numS n) = true := wdC_of ⟨fun k => by have := Tx.digit_in k; (first | lia | omega), fun k => by have := Tx.digit_in k; (first | lia | omega), Nat.le_trans (Tx.num_len_le (k := 60) (by decide) h) (by decide)⟩
def tieTexts (far bad : Str) : List Str := ["tie", "tie 0 1", "tie 0 1 1 1", "tie 0 0 1", "tie 0 1 0", ("tie 0 1 " : Str) ++ Tx.numS (10 ^ 30 + 1), "Tie 0 1 1", ("tie " : Str) ++ far ++ " 0 1", ("tie 0 " : Str) ++ far ++ " 1", ("tie " : Str) ++ bad ++ " 0 1", ("tie 0 " : Str) ++ bad ++ " 1", ("tie 0 1 " : Str) ++ bad, "tie -1 0 1", "tie 0 -1 1", "tie 0 1 -1", " tie 0 1 1", "tie 0 1 1 ", "tie  0 1 1"]
def tieRows (far bad : Str) : List RowW := [("tie", []), ("tie", ["0", "1"]), ("tie", ["0", "1", "1", "1"]), ("tie", ["0", "0", "1"]), ("tie", ["0", "1", "0"]), ("tie", ["0", "1", Tx.numS (10 ^ 30 + 1)]), ("Tie", ["0", "1", "1"]), ("tie", [far, "0", "1"]), ("tie", ["0", far, "1"]), ("tie", [bad, "0", "1"]), ("tie", ["0", bad, "1"]), ("tie", ["0", "1", bad]), ("tie", ["-1", "0", "1"]), ("tie", ["0", "-1", "1"]), ("tie", ["0", "1", "-1"]), ("", ["tie", "0", "1", "1"]), ("tie", ["0", "1", "1", ""]), ("tie", ["", "0", "1", "1"])]
theorem tie_texts (far bad : Str) : tieTexts far bad = (tieRows far bad).map rowT := by
  have cs : ∀ {a b : Str} {l l' : List Str}, a.cps.toList = b.cps.toList → l = l' → a :: l = b :: l' := fun h1 h2 => by rw [Tx.str_ext h1, h2]
  unfold tieTexts tieRows
  simp only [List.map_cons, List.map_nil]
  refine cs (by decide +kernel) ?_
  refine cs (by decide +kernel) ?_
  refine cs (by decide +kernel) ?_
  refine cs (by decide +kernel) ?_
  refine cs (by decide +kernel) ?_
  refine cs (by rw [rowT_codes]; simp only [jl, PySem.W.KT.app_list, lit0, lit1, lit2, lit3, lit4, lit5, lit6, lit7, lit8, lit9, lit10, lit11, lit12, lit13, lit14, lit15, lit16, lit17, lit18, lit19, lit20, lit21, List.append_assoc, List.cons_append, List.nil_append, List.append_nil]) ?_
  refine cs (by decide +kernel) ?_
  refine cs (by rw [rowT_codes]; simp only [jl, PySem.W.KT.app_list, lit0, lit1, lit2, lit3, lit4, lit5, lit6, lit7, lit8, lit9, lit10, lit11, lit12, lit13, lit14, lit15, lit16, lit17, lit18, lit19, lit20, lit21, List.append_assoc, List.cons_append, List.nil_append, List.append_nil]) ?_
  refine cs (by rw [rowT_codes]; simp only [jl, PySem.W.KT.app_list, lit0, lit1, lit2, lit3, lit4, lit5, lit6, lit7, lit8, lit9, lit10, lit11, lit12, lit13, lit14, lit15, lit16, lit17, lit18, lit19, lit20, lit21, List.append_assoc, List.cons_append, List.nil_append, List.append_nil]) ?_
  refine cs (by rw [rowT_codes]; simp only [jl, PySem.W.KT.app_list, lit0, lit1, lit2, lit3, lit4, lit5, lit6, lit7, lit8, lit9, lit10, lit11, lit12, lit13, lit14, lit15, lit16, lit17, lit18, lit19, lit20, lit21, List.append_assoc, List.cons_append, List.nil_append, List.append_nil]) ?_
  refine cs (by rw [rowT_codes]; simp only [jl, PySem.W.KT.app_list, lit0, lit1, lit2, lit3, lit4, lit5, lit6, lit7, lit8, lit9, lit10, lit11, lit12, lit13, lit14, lit15, lit16, lit17, lit18, lit19, lit20, lit21, List.append_assoc, List.cons_append, List.nil_append, List.append_nil]) ?_
  refine cs (by rw [rowT_codes]; simp only [jl, PySem.W.KT.app_list, lit0, lit1, lit2, lit3, lit4, lit5, lit6, lit7, lit8, lit9, lit10, lit11, lit12, lit13, lit14, lit15, lit16, lit17, lit18, lit19, lit20, lit21, List.append_assoc, List.cons_append, List.nil_append, List.append_nil]) ?_
  refine cs (by decide +kernel) ?_
  refine cs (by decide +kernel) ?_
  refine cs (by decide +kernel) ?_
  refine cs (by decide +kernel) ?_
  refine cs (by decide +kernel) ?_
  refine cs (by decide +kernel) ?_
  rfl
theorem tie_bad {p j : Nat} {bad : Str} (hp : p ≤ 10) (hj : j ≤ 2) (b : Bw bad) : ∀ y ∈ tieTexts (Tx.numS (p + j)) bad, BadT (fun x ws => ∀ ts : List Tie, ts.length ≤ 9 → BadRow (some (p, ts), 0) x ws) y := fun y hy => by
  rw [tie_texts] at hy
  obtain ⟨r, hr, rfl⟩ := List.mem_map.mp hy
  have far : p + j < 10 ^ 60 := Nat.lt_of_le_of_lt (show p + j ≤ 12 by (first | lia | omega)) (by decide)
  have big : 10 ^ 30 + 1 < 10 ^ 60 := by decide
  have wf := wd_num far
  have wb := wd_num big
  have wl : wdC "tie" = true ∧ wdC "Tie" = true ∧ wdC "" = true ∧ wdC "0" = true ∧ wdC "1" = true ∧ wdC "-1" = true ∧ PyData.strOk "tie" = true ∧ PyData.strOk "Tie" = true ∧ PyData.strOk "" = true := by decide +kernel
  refine ⟨r, rfl, .of ?_, ?_⟩
  · unfold tieRows at hr
    simp only [List.mem_cons, List.not_mem_nil, or_false] at hr
    rcases hr with rfl | rfl | rfl | rfl | rfl | rfl | rfl | rfl | rfl | rfl | rfl | rfl | rfl | rfl | rfl | rfl | rfl | rfl <;> simp [rowC, wl, wf, wb, b.wd]
  · have up : ∀ {ws : List Str}, BadTie p ws → ∀ ts : List Tie, ts.length ≤ 9 → BadRow (some (p, ts), 0) "tie" ws := fun h ts _ => h.row ts
    have lst : ∀ {x : Str} {ws : List Str}, x ∉ [("lengths" : Str), "base", "forests", "even", "cut", "odd", "heights"] → x ≠ "tie" → ∀ ts : List Tie, ts.length ≤ 9 → BadRow (some (p, ts), 0) x ws := fun h1 h2 ts h9 => .inr ⟨.inr h2, h9, noAsk_word h1⟩
    have z60 : (0 : Nat) < 10 ^ 60 ∧ 1 < 10 ^ 60 := by decide
    have b31 : ¬ (10 ^ 30 + 1 ≤ 10 ^ 30) := by decide
    unfold tieRows at hr
    simp only [List.mem_cons, List.not_mem_nil, or_false] at hr
    rcases hr with rfl | rfl | rfl | rfl | rfl | rfl | rfl | rfl | rfl | rfl | rfl | rfl | rfl | rfl | rfl | rfl | rfl | rfl
    · exact up (badTie_len (by decide))
    · exact up (badTie_len (by decide))
    · exact up (badTie_len (by decide))
    · rw [num0.1, num0.2]
      exact up (badTie_3 hp z60.1 z60.1 z60.2 (by (first | lia | omega)))
    · rw [num0.1, num0.2]
      exact up (badTie_3 hp z60.1 z60.2 z60.1 (by (first | lia | omega)))
    · rw [num0.1, num0.2]
      exact up (badTie_3 hp z60.1 z60.2 big fun k => b31 k.2.2.2.2)
    · exact lst (by decide +kernel) (by decide +kernel)
    · rw [num0.1, num0.2]
      exact up (badTie_3 hp far z60.1 z60.2 (by (first | lia | omega)))
    · rw [num0.1, num0.2]
      exact up (badTie_3 hp z60.1 far z60.2 (by (first | lia | omega)))
    · exact up (badTie_n (y := bad) hp (by simp) b.n)
    · exact up (badTie_n (y := bad) hp (by simp) b.n)
    · exact up (badTie_n (y := bad) hp (by simp) b.n)
    · exact up (badTie_n (y := "-1") hp (by simp) minus_n.1)
    · exact up (badTie_n (y := "-1") hp (by simp) minus_n.1)
    · exact up (badTie_n (y := "-1") hp (by simp) minus_n.1)
    · exact lst (by decide +kernel) (by decide +kernel)
    · exact up (badTie_len (by decide))
    · exact up (badTie_len (by decide))

theorem noAsk_bare {n : Nat} {x : Str} {ws : List Str} (h : x = "lengths" ∨ x = "base" ∨ x = "forests") (hw : ws ≠ []) : NoAsk n x ws := fun ⟨zs, ok, e⟩ => by
  cases ok with
  | bare _ => exact hw e
  | ties h' _ _ => exact (bare_apart h).1 h'
  | heights _ _ _ _ => exact (bare_apart h).2 rfl
theorem noAsk_ties {n : Nat} {x : Str} {ws : List Str} (h : x = "even" ∨ x = "cut" ∨ x = "odd") (hw : ∀ ks, Up n ks → ws ≠ ks.map Tx.numS) : NoAsk n x ws := fun ⟨zs, ok, e⟩ => by
  cases ok with
  | bare h' => exact (bare_apart h').1 h
  | ties _ up _ =>
    refine hw _ up ?_
    rw [e]
    unfold castI
    rw [List.map_map]
    rfl
  | heights _ _ _ _ => exact ties_apart h rfl
theorem noAsk_heights {n : Nat} {ws : List Str} (hw : ∀ r zs, ¬ HtOk n ws r zs) : NoAsk n "heights" ws := fun ⟨zs, ok, e⟩ => by
  generalize hx : ("heights" : Str) = x at ok
  cases ok with
  | bare h' => exact (bare_apart h').2 hx.symm
  | ties h' _ _ => exact ties_apart h' hx.symm
  | heights h1 h2 h3 h4 => exact hw _ _ ⟨h1, h2, h3, h4, e⟩
def askTexts (many : Nat) (word bad : Str) : List Str := ["", " ", "lengths ", " base", "base 0", "forests 1", "length", "Base", "bases", word ++ " " ++ Tx.numS many, word ++ " " ++ bad, word ++ " -1", word ++ "  ", word ++ " 0 0", word ++ " 1 0", "heights", "even\t0", ("heights 1" : Str) ++ Tx.repS " 0" many, ("heights 0" : Str) ++ Tx.repS " 0" many ++ " 0", ("heights -2" : Str) ++ Tx.repS " 0" many, ("heights 0" : Str) ++ Tx.repS " 0" many ++ " 0 0", ("heights " : Str) ++ bad ++ Tx.repS " 0" many, "points 2", ("heights 0" : Str) ++ Tx.repS " 1" (many - 1) ++ " " ++ bad, "height 0"]
def askRows (many : Nat) (word bad : Str) : List RowW := [("", []), ("", [""]), ("lengths", [""]), ("", ["base"]), ("base", ["0"]), ("forests", ["1"]), ("length", []), ("Base", []), ("bases", []), (word, [Tx.numS many]), (word, [bad]), (word, ["-1"]), (word, ["", ""]), (word, ["0", "0"]), (word, ["1", "0"]), ("heights", []), ("even\t0", []), ("heights", ("1" : Str) :: List.replicate many ("0" : Str)), ("heights", ("0" : Str) :: List.replicate many ("0" : Str) ++ [("0" : Str)]), ("heights", ("-2" : Str) :: List.replicate many ("0" : Str)), ("heights", ("0" : Str) :: List.replicate many ("0" : Str) ++ [("0" : Str), "0"]), ("heights", bad :: List.replicate many ("0" : Str)), ("points", ["2"]), ("heights", ("0" : Str) :: List.replicate (many - 1) ("1" : Str) ++ [bad]), ("height", ["0"])]
theorem ask_texts (many : Nat) (word bad : Str) : askTexts many word bad = (askRows many word bad).map rowT := by
  have cs : ∀ {a b : Str} {l l' : List Str}, a.cps.toList = b.cps.toList → l = l' → a :: l = b :: l' := fun h1 h2 => by rw [Tx.str_ext h1, h2]
  unfold askTexts askRows
  simp only [List.map_cons, List.map_nil]
  refine cs (by decide +kernel) ?_
  refine cs (by decide +kernel) ?_
  refine cs (by decide +kernel) ?_
  refine cs (by decide +kernel) ?_
  refine cs (by decide +kernel) ?_
  refine cs (by decide +kernel) ?_
  refine cs (by decide +kernel) ?_
  refine cs (by decide +kernel) ?_
  refine cs (by decide +kernel) ?_
  refine cs (by rw [rowT_codes]; simp only [jl, jl_app, jl_rep0, jl_rep1, PySem.W.KT.app_list, lit0, lit1, lit2, lit3, lit4, lit5, lit6, lit7, lit8, lit9, lit10, lit11, lit12, lit13, lit14, lit15, lit16, lit17, lit18, lit19, lit20, lit21, List.append_assoc, List.cons_append, List.nil_append, List.append_nil]) ?_
  refine cs (by rw [rowT_codes]; simp only [jl, jl_app, jl_rep0, jl_rep1, PySem.W.KT.app_list, lit0, lit1, lit2, lit3, lit4, lit5, lit6, lit7, lit8, lit9, lit10, lit11, lit12, lit13, lit14, lit15, lit16, lit17, lit18, lit19, lit20, lit21, List.append_assoc, List.cons_append, List.nil_append, List.append_nil]) ?_
  refine cs (by rw [rowT_codes]; simp only [jl, jl_app, jl_rep0, jl_rep1, PySem.W.KT.app_list, lit0, lit1, lit2, lit3, lit4, lit5, lit6, lit7, lit8, lit9, lit10, lit11, lit12, lit13, lit14, lit15, lit16, lit17, lit18, lit19, lit20, lit21, List.append_assoc, List.cons_append, List.nil_append, List.append_nil]) ?_
  refine cs (by rw [rowT_codes]; simp only [jl, jl_app, jl_rep0, jl_rep1, PySem.W.KT.app_list, lit0, lit1, lit2, lit3, lit4, lit5, lit6, lit7, lit8, lit9, lit10, lit11, lit12, lit13, lit14, lit15, lit16, lit17, lit18, lit19, lit20, lit21, List.append_assoc, List.cons_append, List.nil_append, List.append_nil]) ?_
  refine cs (by rw [rowT_codes]; simp only [jl, jl_app, jl_rep0, jl_rep1, PySem.W.KT.app_list, lit0, lit1, lit2, lit3, lit4, lit5, lit6, lit7, lit8, lit9, lit10, lit11, lit12, lit13, lit14, lit15, lit16, lit17, lit18, lit19, lit20, lit21, List.append_assoc, List.cons_append, List.nil_append, List.append_nil]) ?_
  refine cs (by rw [rowT_codes]; simp only [jl, jl_app, jl_rep0, jl_rep1, PySem.W.KT.app_list, lit0, lit1, lit2, lit3, lit4, lit5, lit6, lit7, lit8, lit9, lit10, lit11, lit12, lit13, lit14, lit15, lit16, lit17, lit18, lit19, lit20, lit21, List.append_assoc, List.cons_append, List.nil_append, List.append_nil]) ?_
  refine cs (by decide +kernel) ?_
  refine cs (by decide +kernel) ?_
  refine cs (by rw [rowT_codes]; simp only [jl, jl_app, jl_rep0, jl_rep1, PySem.W.KT.app_list, lit0, lit1, lit2, lit3, lit4, lit5, lit6, lit7, lit8, lit9, lit10, lit11, lit12, lit13, lit14, lit15, lit16, lit17, lit18, lit19, lit20, lit21, List.append_assoc, List.cons_append, List.nil_append, List.append_nil]) ?_
  refine cs (by rw [rowT_codes]; simp only [jl, jl_app, jl_rep0, jl_rep1, PySem.W.KT.app_list, lit0, lit1, lit2, lit3, lit4, lit5, lit6, lit7, lit8, lit9, lit10, lit11, lit12, lit13, lit14, lit15, lit16, lit17, lit18, lit19, lit20, lit21, List.append_assoc, List.cons_append, List.nil_append, List.append_nil]) ?_
  refine cs (by rw [rowT_codes]; simp only [jl, jl_app, jl_rep0, jl_rep1, PySem.W.KT.app_list, lit0, lit1, lit2, lit3, lit4, lit5, lit6, lit7, lit8, lit9, lit10, lit11, lit12, lit13, lit14, lit15, lit16, lit17, lit18, lit19, lit20, lit21, List.append_assoc, List.cons_append, List.nil_append, List.append_nil]) ?_
  refine cs (by rw [rowT_codes]; simp only [jl, jl_app, jl_rep0, jl_rep1, PySem.W.KT.app_list, lit0, lit1, lit2, lit3, lit4, lit5, lit6, lit7, lit8, lit9, lit10, lit11, lit12, lit13, lit14, lit15, lit16, lit17, lit18, lit19, lit20, lit21, List.append_assoc, List.cons_append, List.nil_append, List.append_nil]) ?_
  refine cs (by rw [rowT_codes]; simp only [jl, jl_app, jl_rep0, jl_rep1, PySem.W.KT.app_list, lit0, lit1, lit2, lit3, lit4, lit5, lit6, lit7, lit8, lit9, lit10, lit11, lit12, lit13, lit14, lit15, lit16, lit17, lit18, lit19, lit20, lit21, List.append_assoc, List.cons_append, List.nil_append, List.append_nil]) ?_
  refine cs (by decide +kernel) ?_
  refine cs (by rw [rowT_codes]; simp only [jl, jl_app, jl_rep0, jl_rep1, PySem.W.KT.app_list, lit0, lit1, lit2, lit3, lit4, lit5, lit6, lit7, lit8, lit9, lit10, lit11, lit12, lit13, lit14, lit15, lit16, lit17, lit18, lit19, lit20, lit21, List.append_assoc, List.cons_append, List.nil_append, List.append_nil]) ?_
  refine cs (by decide +kernel) ?_
  rfl
theorem all_rep {n : Nat} {y : Str} (h : wdC y = true) : (List.replicate n y).all wdC = true := List.all_eq_true.mpr fun z hz => by rw [List.eq_of_mem_replicate hz]; exact h
theorem ask_bad {many : Nat} {word bad : Str} (h9 : many ≤ 9) (hw : word = "even" ∨ word = "cut" ∨ word = "odd") (b : Bw bad) : ∀ y ∈ askTexts many word bad, BadT (fun x ws => x ≠ "tie" ∧ ∀ n : Nat, n ≤ many → NoAsk n x ws) y := fun y hy => by
  rw [ask_texts] at hy
  obtain ⟨r, hr, rfl⟩ := List.mem_map.mp hy
  have far : many < 10 ^ 60 := Nat.lt_of_le_of_lt h9 (by decide)
  have wf := wd_num far
  have wl : wdC "" = true ∧ wdC "lengths" = true ∧ wdC "base" = true ∧ wdC "0" = true ∧ wdC "1" = true ∧ wdC "2" = true ∧ wdC "-1" = true ∧ wdC "-2" = true ∧ wdC "forests" = true ∧ wdC "length" = true ∧ wdC "Base" = true ∧ wdC "bases" = true ∧ wdC "heights" = true ∧ wdC "even\t0" = true ∧ wdC "points" = true ∧ wdC "height" = true := by decide +kernel
  have wo : PyData.strOk "" = true ∧ PyData.strOk "lengths" = true ∧ PyData.strOk "base" = true ∧ PyData.strOk "forests" = true ∧ PyData.strOk "length" = true ∧ PyData.strOk "Base" = true ∧ PyData.strOk "bases" = true ∧ PyData.strOk "heights" = true ∧ PyData.strOk "even\t0" = true ∧ PyData.strOk "points" = true ∧ PyData.strOk "height" = true := by decide +kernel
  have ww : wdC word = true ∧ PyData.strOk word = true ∧ word ≠ "tie" := by rcases hw with rfl | rfl | rfl <;> decide +kernel
  have r0 : (List.replicate many ("0" : Str)).all wdC = true := all_rep wl.2.2.2.1
  have r1 : (List.replicate (many - 1) ("1" : Str)).all wdC = true := all_rep wl.2.2.2.2.1
  refine ⟨r, rfl, .of ?_, ?_⟩
  · unfold askRows at hr
    simp only [List.mem_cons, List.not_mem_nil, or_false] at hr
    rcases hr with rfl | rfl | rfl | rfl | rfl | rfl | rfl | rfl | rfl | rfl | rfl | rfl | rfl | rfl | rfl | rfl | rfl | rfl | rfl | rfl | rfl | rfl | rfl | rfl | rfl
    all_goals
      unfold rowC
      simp only [List.all_cons, List.all_nil, List.all_append, List.cons_append, List.nil_append, List.length_cons, List.length_nil, List.length_append, List.length_replicate, wl, wo, ww, wf, b.wd, r0, r1, Bool.and_true, Bool.true_and]
      first
        | rfl
        | exact decide_eq_true (by (first | lia | omega))
  · have tieS : ∀ {ks : List Nat} {ws : List Str} {y : Str}, ws = ks.map Tx.numS → Up 9 ks → y ∈ ws → Tx.IsN y := fun e up hm => by
      rw [e] at hm
      obtain ⟨k, hk, rfl⟩ := List.mem_map.mp hm
      exact ⟨k, up.lt (by decide) k hk, rfl⟩
    have up9 : ∀ {n : Nat} {ks : List Nat}, n ≤ many → Up n ks → Up 9 ks := fun hn up => ⟨fun i k hk => Nat.lt_of_lt_of_le (up.1 i k hk) (Nat.le_trans hn h9), up.2⟩
    have z60 : (0 : Nat) < 10 ^ 60 ∧ 1 < 10 ^ 60 := by decide
    have two : ∀ {n a c : Nat} {ks : List Nat}, n ≤ many → a < 10 ^ 60 → c < 10 ^ 60 → c ≤ a → Up n ks → [Tx.numS a, Tx.numS c] ≠ ks.map Tx.numS := fun {n a c ks} hn ha hc hac up e => by
      have e2 : [a, c] = ks := nums_inj (fun m hm => by
        rcases List.mem_cons.mp hm with rfl | hm
        · exact ha
        · rw [List.mem_singleton.mp hm]; exact hc) ((up9 hn up).lt (by decide)) e
      subst e2
      have := up.2 0 a c rfl rfl
      (first | lia | omega)
    have len : ∀ {n r : Nat} {zs : List Int} {y : Str} {ws : List Str}, HtOk n (y :: ws) r zs → ws.length = n := fun h => by
      have e := congrArg List.length h.2.2.2.2
      rw [List.length_cons, List.length_cons, List.length_map, h.2.2.1] at e
      (first | lia | omega)
    have one : ∀ {n r : Nat} {zs : List Int} {y : Str} {ws : List Str}, HtOk n (y :: ws) r zs → y = Tx.numS r ∧ r ≠ 1 ∧ r < 10 ^ 60 := fun h => ⟨(List.cons.inj h.2.2.2.2).1, h.1, h.2.1⟩
    have wt : ("" : Str) ≠ "tie" ∧ ("lengths" : Str) ≠ "tie" ∧ ("base" : Str) ≠ "tie" ∧ ("forests" : Str) ≠ "tie" ∧ ("length" : Str) ≠ "tie" ∧ ("Base" : Str) ≠ "tie" ∧ ("bases" : Str) ≠ "tie" ∧ ("heights" : Str) ≠ "tie" ∧ ("even\t0" : Str) ≠ "tie" ∧ ("points" : Str) ≠ "tie" ∧ ("height" : Str) ≠ "tie" := by decide +kernel
    unfold askRows at hr
    simp only [List.mem_cons, List.not_mem_nil, or_false] at hr
    rcases hr with rfl | rfl | rfl | rfl | rfl | rfl | rfl | rfl | rfl | rfl | rfl | rfl | rfl | rfl | rfl | rfl | rfl | rfl | rfl | rfl | rfl | rfl | rfl | rfl | rfl
    · exact ⟨by simp only [wt, ne_eq, not_false_eq_true], fun n hn => noAsk_word (by decide +kernel)⟩
    · exact ⟨by simp only [wt, ne_eq, not_false_eq_true], fun n hn => noAsk_word (by decide +kernel)⟩
    · exact ⟨by simp only [wt, ne_eq, not_false_eq_true], fun n hn => noAsk_bare (.inl rfl) (by simp)⟩
    · exact ⟨by simp only [wt, ne_eq, not_false_eq_true], fun n hn => noAsk_word (by decide +kernel)⟩
    · exact ⟨by simp only [wt, ne_eq, not_false_eq_true], fun n hn => noAsk_bare (.inr (.inl rfl)) (by simp)⟩
    · exact ⟨by simp only [wt, ne_eq, not_false_eq_true], fun n hn => noAsk_bare (.inr (.inr rfl)) (by simp)⟩
    · exact ⟨by simp only [wt, ne_eq, not_false_eq_true], fun n hn => noAsk_word (by decide +kernel)⟩
    · exact ⟨by simp only [wt, ne_eq, not_false_eq_true], fun n hn => noAsk_word (by decide +kernel)⟩
    · exact ⟨by simp only [wt, ne_eq, not_false_eq_true], fun n hn => noAsk_word (by decide +kernel)⟩
    · exact ⟨ww.2.2, fun n hn => noAsk_ties hw fun ks up e => by 
        have e2 : [many] = ks := nums_inj (fun m hm => by rw [List.mem_singleton.mp hm]; exact far) ((up9 hn up).lt (by decide)) e
        subst e2
        have := up.1 0 many rfl
        (first | lia | omega)⟩
    · exact ⟨ww.2.2, fun n hn => noAsk_ties hw fun ks up e => by exact b.n (tieS e (up9 hn up) (by simp))⟩
    · exact ⟨ww.2.2, fun n hn => noAsk_ties hw fun ks up e => by exact minus_n.1 (tieS e (up9 hn up) (by simp))⟩
    · exact ⟨ww.2.2, fun n hn => noAsk_ties hw fun ks up e => by exact minus_n.2.2 (tieS e (up9 hn up) (by simp))⟩
    · exact ⟨ww.2.2, fun n hn => noAsk_ties hw fun ks up e => by 
        rw [num0.1] at e
        exact two hn z60.1 z60.1 (by (first | lia | omega)) up e⟩
    · exact ⟨ww.2.2, fun n hn => noAsk_ties hw fun ks up e => by 
        rw [num0.1, num0.2] at e
        exact two hn z60.2 z60.1 (by (first | lia | omega)) up e⟩
    · exact ⟨by simp only [wt, ne_eq, not_false_eq_true], fun n hn => noAsk_heights fun r zs h => by cases h.2.2.2.2⟩
    · exact ⟨by simp only [wt, ne_eq, not_false_eq_true], fun n hn => noAsk_word (by decide +kernel)⟩
    · exact ⟨by simp only [wt, ne_eq, not_false_eq_true], fun n hn => noAsk_heights fun r zs h => by 
        obtain ⟨h1, h2, h3⟩ := one h
        rw [num0.2] at h1
        have e := nums_inj (ks := [1]) (ks' := [r]) (fun m hm => by rw [List.mem_singleton.mp hm]; exact z60.2) (fun m hm => by rw [List.mem_singleton.mp hm]; exact h3) (by rw [List.map_cons, List.map_cons, h1]; first | done | rfl)
        exact h2 (List.cons.inj e).1.symm⟩
    · exact ⟨by simp only [wt, ne_eq, not_false_eq_true], fun n hn => noAsk_heights fun r zs h => by 
        have : (List.replicate many ("0" : Str) ++ [("0" : Str)]).length = n := len h
        rw [List.length_append, List.length_replicate, List.length_singleton] at this
        (first | lia | omega)⟩
    · exact ⟨by simp only [wt, ne_eq, not_false_eq_true], fun n hn => noAsk_heights fun r zs h => by 
        obtain ⟨h1, h2, h3⟩ := one h
        exact minus_n.2.1 ⟨r, h3, h1⟩⟩
    · exact ⟨by simp only [wt, ne_eq, not_false_eq_true], fun n hn => noAsk_heights fun r zs h => by 
        have : (List.replicate many ("0" : Str) ++ [("0" : Str), "0"]).length = n := len h
        rw [List.length_append, List.length_replicate, List.length_cons, List.length_singleton] at this
        (first | lia | omega)⟩
    · exact ⟨by simp only [wt, ne_eq, not_false_eq_true], fun n hn => noAsk_heights fun r zs h => by 
        obtain ⟨h1, h2, h3⟩ := one h
        exact b.n ⟨r, h3, h1⟩⟩
    · exact ⟨by simp only [wt, ne_eq, not_false_eq_true], fun n hn => noAsk_word (by decide +kernel)⟩
    · exact ⟨by simp only [wt, ne_eq, not_false_eq_true], fun n hn => noAsk_heights fun r zs h => by 
        have e := (List.cons.inj h.2.2.2.2).2
        have hm : bad ∈ zs.map Tx.intS := by rw [← e]; simp
        obtain ⟨z, hz, ez⟩ := List.mem_map.mp hm
        exact b.z ⟨z, h.2.2.2.1 z hz, ez.symm⟩⟩
    · exact ⟨by simp only [wt, ne_eq, not_false_eq_true], fun n hn => noAsk_word (by decide +kernel)⟩

def sp_refused (C : Addr) : Sp := fun vs H Q _ => ∃ (wss : List RowW) (sts : Nat → StP) (m : Nat), vs = [.str (pageW wss)] ∧ PageOk wss ∧ sts 0 = (none, 0) ∧ (∀ i r, i < m → wss[i]? = some r → Step (sts i) r.1 r.2 (sts (i + 1))) ∧
  ((wss.length ≤ m ∧ ∀ H', Same H H' → Q (.int 0) H') ∨ ∃ r, wss[m]? = some r ∧ BadRow (sts m) r.1 r.2 ∧ ∀ H', Same H H' → Q (.int ((m : Int) + 1)) H')
section
variable {P : Program} {w : World} {K : PySem.W.Frag} {mg : Str → Option Value} {base : Heap} {a : Adr}
theorem G_law_refused_at (T : Txt K mg a) : FnOk P w K mg base CX0 6 a.f_law_refused_at a.d_law_refused_at ["text"] (sp_refused a.c_NoText) := by
  have G_read_page : FnOk P w K mg base (CX1 P w) 5 a.f_read_page a.d_read_page ["text"] (sp_read_page a.c_NoText) := G_read_page T
  refine T.F_law_refused_at.ok sc_law_refused_at (fun vs H Q E h => ?_) (fun cdv A outer s H vs Q E hr h => ?_)
  · obtain ⟨wss, sts, m, rfl, _⟩ := h
    rfl
  · obtain ⟨wss, sts, m, rfl, ok, st0, step, q⟩ := h
    refine ⟨_, (@pss_cons _ _ _ _ _ (@ps_set _ _ 1 _ _ _ _ sc_law_refused_at.nd rfl (Or.inl rfl) pe_non (by rfl) (by first | exact .inl rfl | exact .inr rfl | assumption)) (@pss_cons _ _ _ _ _ (@ps_tryX _ _ _ 2 _ _ _ _ _ _ _ _ _ K rfl rfl rfl sc_law_refused_at.nd rfl rfl (by rfl) T.g_RingError (fun E pn xe hp => (pss_one (ps_expr (pe_call G_read_page (hr.mono (by decide)) (by rfl) T.m_read_page T.k_read_page T.b_read_page .nil hp (pa_cons (pv 0) pa_nil))))) (fun ea pn => (pss_one (ps_set (i := 1) sc_law_refused_at.nd rfl (Or.inl rfl) (pv 2)))) (by rfl) (by decide)) (@pss_cons _ _ _ _ _ (@ps_if _ _ _ _ _ _ _ _ (@pt_cmpR _ _ _ _ _ _ _ _ op_isN (pv 1) pe_non (nomark _)) (@pss_one _ _ _ (@ps_ret _ _ _ _ pe_int)) pss_nil) (@pss_cons _ _ _ _ _ (@ps_set _ _ 3 _ _ _ _ sc_law_refused_at.nd rfl (Or.inl rfl) (@pe_lst _ _ _ _ (@pa_cons _ _ _ _ _ (@pe_callB _ _ _ _ _ _ _ _ _ (isiXD K) (by rfl) T.n_isinstance PyProof.Rows.boot_isinstance (@pa_cons _ _ _ _ _ (pv 1) (@pa_cons _ _ _ _ _ (@pe_cls _ _ _ _ (by rfl) T.g_BadSet (by decide)) pa_nil (by rfl)) (by rfl)) (by decide) (by decide) (by rfl) (by rfl)) (@pa_cons _ _ _ _ _ (@pe_callB _ _ _ _ _ _ _ _ _ (isiXD K) (by rfl) T.n_isinstance PyProof.Rows.boot_isinstance (@pa_cons _ _ _ _ _ (pv 1) (@pa_cons _ _ _ _ _ (@pe_cls _ _ _ _ (by rfl) T.g_NotEven (by decide)) pa_nil (by rfl)) (by rfl)) (by decide) (by decide) (by rfl) (by rfl)) (@pa_cons _ _ _ _ _ (@pe_callB _ _ _ _ _ _ _ _ _ (isiXD K) (by rfl) T.n_isinstance PyProof.Rows.boot_isinstance (@pa_cons _ _ _ _ _ (pv 1) (@pa_cons _ _ _ _ _ (@pe_cls _ _ _ _ (by rfl) T.g_NotRing (by decide)) pa_nil (by rfl)) (by rfl)) (by decide) (by decide) (by rfl) (by rfl)) pa_nil (by rfl)) (by rfl)) (by rfl))) (by rfl) (by first | exact .inl rfl | exact .inr rfl | assumption)) (@pss_cons _ _ _ _ _ (@ps_expr _ _ _ _ (@bmK _ _ _ _ _ _ K (@pe_bm _ _ _ _ _ _ _ _ _ _ _ _ PySem.F.plainAttrs_list PySem.F.slot_list_extend PySem.F.type_list_extend mt_extend (pv 3) (@pa_cons _ _ _ _ _ (@pe_lst _ _ _ _ (@pa_cons _ _ _ _ _ (@pe_callB _ _ _ _ _ _ _ _ _ (isiXD K) (by rfl) T.n_isinstance PyProof.Rows.boot_isinstance (@pa_cons _ _ _ _ _ (pv 1) (@pa_cons _ _ _ _ _ (@pe_cls _ _ _ _ (by rfl) T.g_NoChord (by decide)) pa_nil (by rfl)) (by rfl)) (by decide) (by decide) (by rfl) (by rfl)) (@pa_cons _ _ _ _ _ (@pe_callB _ _ _ _ _ _ _ _ _ (isiXD K) (by rfl) T.n_isinstance PyProof.Rows.boot_isinstance (@pa_cons _ _ _ _ _ (pv 1) (@pa_cons _ _ _ _ _ (@pe_cls _ _ _ _ (by rfl) T.g_NoSuch (by decide)) pa_nil (by rfl)) (by rfl)) (by decide) (by decide) (by rfl) (by rfl)) (@pa_cons _ _ _ _ _ (@pe_callB _ _ _ _ _ _ _ _ _ (isiXD K) (by rfl) T.n_isinstance PyProof.Rows.boot_isinstance (@pa_cons _ _ _ _ _ (pv 1) (@pa_cons _ _ _ _ _ (@pe_cls _ _ _ _ (by rfl) T.g_BadWeb (by decide)) pa_nil (by rfl)) (by rfl)) (by decide) (by decide) (by rfl) (by rfl)) pa_nil (by rfl)) (by rfl)) (by rfl))) pa_nil (by rfl)) (by rfl) (by rfl) (by rfl) (by rfl) (by rfl)) (by rfl)) (by rfl)) (@pss_cons _ _ _ _ _ (@ps_expr _ _ _ _ (@bmK _ _ _ _ _ _ K (@pe_bm _ _ _ _ _ _ _ _ _ _ _ _ PySem.F.plainAttrs_list PySem.F.slot_list_extend PySem.F.type_list_extend mt_extend (pv 3) (@pa_cons _ _ _ _ _ (@pe_lst _ _ _ _ (@pa_cons _ _ _ _ _ (@pe_callB _ _ _ _ _ _ _ _ _ (isiXD K) (by rfl) T.n_isinstance PyProof.Rows.boot_isinstance (@pa_cons _ _ _ _ _ (pv 1) (@pa_cons _ _ _ _ _ (@pe_cls _ _ _ _ (by rfl) T.g_BadPoint (by decide)) pa_nil (by rfl)) (by rfl)) (by decide) (by decide) (by rfl) (by rfl)) (@pa_cons _ _ _ _ _ (@pe_callB _ _ _ _ _ _ _ _ _ (isiXD K) (by rfl) T.n_isinstance PyProof.Rows.boot_isinstance (@pa_cons _ _ _ _ _ (pv 1) (@pa_cons _ _ _ _ _ (@pe_cls _ _ _ _ (by rfl) T.g_NoBase (by decide)) pa_nil (by rfl)) (by rfl)) (by decide) (by decide) (by rfl) (by rfl)) (@pa_cons _ _ _ _ _ (@pe_callB _ _ _ _ _ _ _ _ _ (isiXD K) (by rfl) T.n_isinstance PyProof.Rows.boot_isinstance (@pa_cons _ _ _ _ _ (pv 1) (@pa_cons _ _ _ _ _ (@pe_cls _ _ _ _ (by rfl) T.g_TooMany (by decide)) pa_nil (by rfl)) (by rfl)) (by decide) (by decide) (by rfl) (by rfl)) pa_nil (by rfl)) (by rfl)) (by rfl))) pa_nil (by rfl)) (by rfl) (by rfl) (by rfl) (by rfl) (by rfl)) (by rfl)) (by rfl)) (@pss_cons _ _ _ _ _ (@ps_expr _ _ _ _ (@bmK _ _ _ _ _ _ K (@pe_bm _ _ _ _ _ _ _ _ _ _ _ _ PySem.F.plainAttrs_list PySem.F.slot_list_extend PySem.F.type_list_extend mt_extend (pv 3) (@pa_cons _ _ _ _ _ (@pe_lst _ _ _ _ (@pa_cons _ _ _ _ _ (@pe_callB _ _ _ _ _ _ _ _ _ (isiXD K) (by rfl) T.n_isinstance PyProof.Rows.boot_isinstance (@pa_cons _ _ _ _ _ (pv 1) (@pa_cons _ _ _ _ _ (@pe_cls _ _ _ _ (by rfl) T.g_BadRow (by decide)) pa_nil (by rfl)) (by rfl)) (by decide) (by decide) (by rfl) (by rfl)) (@pa_cons _ _ _ _ _ (@pe_callB _ _ _ _ _ _ _ _ _ (isiXD K) (by rfl) T.n_isinstance PyProof.Rows.boot_isinstance (@pa_cons _ _ _ _ _ (pv 1) (@pa_cons _ _ _ _ _ (@pe_cls _ _ _ _ (by rfl) T.g_NoDeed (by decide)) pa_nil (by rfl)) (by rfl)) (by decide) (by decide) (by rfl) (by rfl)) pa_nil (by rfl)) (by rfl))) pa_nil (by rfl)) (by rfl) (by rfl) (by rfl) (by rfl) (by rfl)) (by rfl)) (by rfl)) (@pss_cons _ _ _ _ _ (@ps_if _ _ _ _ _ _ _ _ (PW.pt (@pw_or _ _ _ _ _ _ _ (@pt_not _ _ _ _ (@pt_val _ _ _ (@pe_callB _ _ _ _ _ _ _ _ _ (isiXD K) (by rfl) T.n_isinstance PyProof.Rows.boot_isinstance (@pa_cons _ _ _ _ _ (pv 1) (@pa_cons _ _ _ _ _ (@pe_cls _ _ _ _ (by rfl) T.g_NoText (by decide)) pa_nil (by rfl)) (by rfl)) (by decide) (by decide) (by rfl) (by rfl)) (by intro _; rfl))) (@pw_or _ _ _ _ _ _ _ (@pt_not _ _ _ _ (@pt_val _ _ _ (@pe_callB _ _ _ _ _ _ _ _ _ (isiXD K) (by rfl) T.n_isinstance PyProof.Rows.boot_isinstance (@pa_cons _ _ _ _ _ (pv 1) (@pa_cons _ _ _ _ _ (pe_ty (T := "ValueError") (by rfl) T.n_ValueError (by decide +kernel)) pa_nil (by rfl)) (by rfl)) (by decide) (by decide) (by rfl) (by rfl)) (by intro _; rfl))) (@pw_or1 _ _ _ _ (@pt_cmpR _ _ _ _ _ _ _ _ (inK K) pe_bl (pv 3) (by with_unfolding_all rfl)))))) (@pss_one _ _ _ (@ps_ret _ _ _ _ (@pe_un _ _ _ _ _ _ un_neg pe_int))) pss_nil) (@pss_cons _ _ _ _ _ (@ps_if _ _ _ _ _ _ _ _ (PW.pt (@pw_or _ _ _ _ _ _ _ (@pt_not _ _ _ _ (@pt_val _ _ _ (@pe_callB _ _ _ _ _ _ _ _ _ (isiK K) (by rfl) T.n_isinstance PyProof.Rows.boot_isinstance (@pa_cons _ _ _ _ _ (@pe_xfld _ K _ _ _ _ (pv 1) (by rfl) (by rfl)) (@pa_cons _ _ _ _ _ (pe_ty (by rfl) T.n_int PyProof.Rows.boot_int) pa_nil (by rfl)) (by rfl)) (by decide) (by decide) (by rfl) (by rfl)) (by intro _; rfl))) (@pw_or1 _ _ _ _ (@pt_val _ _ _ (@pe_callB _ _ _ _ _ _ _ _ _ (isiK K) (by rfl) T.n_isinstance PyProof.Rows.boot_isinstance (@pa_cons _ _ _ _ _ (@pe_xfld _ K _ _ _ _ (pv 1) (by rfl) (by rfl)) (@pa_cons _ _ _ _ _ (pe_ty (by rfl) T.n_bool PyProof.Rows.boot_bool) pa_nil (by rfl)) (by rfl)) (by decide) (by decide) (by rfl) (by rfl)) (by intro _; rfl))))) (@pss_one _ _ _ (@ps_ret _ _ _ _ (@pe_un _ _ _ _ _ _ un_neg pe_int))) pss_nil) (@pss_one _ _ _ (@ps_ret _ _ _ _ (@pe_xfld _ K _ _ _ _ (pv 1) (by rfl) (by rfl))))))))))))), ?_⟩
    refine hd_law_refused_at ?_
    intro zz0 zz1 zz2 zz3 zz4 zz5 zz6 zz7 zz8 zz9 zz10 zz11
    rcases q with ⟨hm, q⟩ | ⟨r, hr, bad, q⟩
    · refine ⟨fun _ _ _ => False, ?_, fun _ _ _ z => z.elim⟩
      refine (exq rfl ⟨wss, sts, m, rfl, ok, st0, step, fun _ v H' s' => ?_, fun r hr => ?_⟩)
      · exact (exq rfl ⟨rfl, exq rfl (iteT (q _ s'))⟩)
      · rw [List.getElem?_eq_none hm] at hr
        cases hr
    · refine ⟨fun cls od H' => cls = .ref a.c_NoText ∧ Same H H' ∧ ∃ d, od = some d ∧ H' d = some (.xd [("row", .int ((m : Int) + 1))]), ?_, ?_⟩
      · refine (exq rfl ⟨wss, sts, m, rfl, ok, st0, step, fun hm => ?_, fun r' hr' => ?_⟩)
        · rw [List.getElem?_eq_none hm] at hr
          cases hr
        · rw [hr] at hr'
          cases hr'
          exact ⟨bad, fun d H' s' hd => ⟨rfl, s', d, rfl, hd⟩⟩
      · rintro cls od H' ⟨rfl, s1, d, rfl, hd⟩
        refine ⟨T.h_NoText, fun ea hea => ?_⟩
        have s2 := s1.trans (Same.new (o := ExcX ea (.ref a.c_NoText) (some d)) hea)
        have hx : upd H' ea (ExcX ea (.ref a.c_NoText) (some d)) ea = some (ExcX ea (.ref a.c_NoText) (some d)) := upd_same
        have hd2 := Same.new (o := ExcX ea (.ref a.c_NoText) (some d)) hea _ _ hd
        generalize upd H' ea (ExcX ea (.ref a.c_NoText) (some d)) = H2 at s2 hx hd2
        refine (exq rfl (?_))
        refine (exq rfl ⟨rfl, exq rfl (iteF ?_)⟩)
        refine (exq rfl ⟨ea, _, a.c_NoText, _, _, _, rfl, rfl, hx, T.e_NoText, T.q_NoText_BadSet, _, rfl, ea, _, a.c_NoText, _, _, _, rfl, rfl, hx, T.e_NoText, T.q_NoText_NotEven, _, rfl, ea, _, a.c_NoText, _, _, _, rfl, rfl, hx, T.e_NoText, T.q_NoText_NotRing, dl rfl, fun l hl => ?_⟩)
        have s3 : Same H2 (upd H2 l (.lst [.bl false, .bl false, .bl false])) := Same.new hl
        have hl3 : upd H2 l (.lst [.bl false, .bl false, .bl false]) l = some (.lst [.bl false, .bl false, .bl false]) := upd_same
        generalize upd H2 l (.lst [.bl false, .bl false, .bl false]) = H3 at s3 hl3
        refine (exq rfl ⟨.inl ⟨rfl, _, SqL.of hl3⟩, exq rfl ⟨ea, _, a.c_NoText, _, _, _, rfl, rfl, (s3 _ _ hx), T.e_NoText, T.q_NoText_NoChord, _, rfl, ea, _, a.c_NoText, _, _, _, rfl, rfl, (s3 _ _ hx), T.e_NoText, T.q_NoText_NoSuch, _, rfl, ea, _, a.c_NoText, _, _, _, rfl, rfl, (s3 _ _ hx), T.e_NoText, T.q_NoText_BadWeb, dl rfl, fun e1 he1 => ⟨l, e1, _, _, rfl, rfl, Same.new he1 _ _ hl3, upd_same, dl rfl, ?_⟩⟩⟩)
        have s4 : Same H2 (upd (upd H3 e1 (.lst [.bl false, .bl false, .bl false])) l (.lst ([.bl false, .bl false, .bl false] ++ [.bl false, .bl false, .bl false]))) := (s3.trans (Same.new he1)).put hl
        have hl4 : upd (upd H3 e1 (.lst [.bl false, .bl false, .bl false])) l (.lst ([.bl false, .bl false, .bl false] ++ [.bl false, .bl false, .bl false])) l = some (.lst [.bl false, .bl false, .bl false, .bl false, .bl false, .bl false]) := upd_same
        generalize upd (upd H3 e1 (.lst [.bl false, .bl false, .bl false])) l (.lst ([.bl false, .bl false, .bl false] ++ [.bl false, .bl false, .bl false])) = H4 at s4 hl4
        clear he1
        refine (exq rfl ⟨.inl ⟨rfl, _, SqL.of hl4⟩, exq rfl ⟨ea, _, a.c_NoText, _, _, _, rfl, rfl, (s4 _ _ hx), T.e_NoText, T.q_NoText_BadPoint, _, rfl, ea, _, a.c_NoText, _, _, _, rfl, rfl, (s4 _ _ hx), T.e_NoText, T.q_NoText_NoBase, _, rfl, ea, _, a.c_NoText, _, _, _, rfl, rfl, (s4 _ _ hx), T.e_NoText, T.q_NoText_TooMany, dl rfl, fun e1 he1 => ⟨l, e1, _, _, rfl, rfl, Same.new he1 _ _ hl4, upd_same, dl rfl, ?_⟩⟩⟩)
        have s5 : Same H2 (upd (upd H4 e1 (.lst [.bl false, .bl false, .bl false])) l (.lst ([.bl false, .bl false, .bl false, .bl false, .bl false, .bl false] ++ [.bl false, .bl false, .bl false]))) := (s4.trans (Same.new he1)).put hl
        have hl5 : upd (upd H4 e1 (.lst [.bl false, .bl false, .bl false])) l (.lst ([.bl false, .bl false, .bl false, .bl false, .bl false, .bl false] ++ [.bl false, .bl false, .bl false])) l = some (.lst [.bl false, .bl false, .bl false, .bl false, .bl false, .bl false, .bl false, .bl false, .bl false]) := upd_same
        generalize upd (upd H4 e1 (.lst [.bl false, .bl false, .bl false])) l (.lst ([.bl false, .bl false, .bl false, .bl false, .bl false, .bl false] ++ [.bl false, .bl false, .bl false])) = H5 at s5 hl5
        clear he1
        refine (exq rfl ⟨.inl ⟨rfl, _, SqL.of hl5⟩, exq rfl ⟨ea, _, a.c_NoText, _, _, _, rfl, rfl, (s5 _ _ hx), T.e_NoText, T.q_NoText_BadRow, _, rfl, ea, _, a.c_NoText, _, _, _, rfl, rfl, (s5 _ _ hx), T.e_NoText, T.q_NoText_NoDeed, dl rfl, fun e1 he1 => ⟨l, e1, _, _, rfl, rfl, Same.new he1 _ _ hl5, upd_same, dl rfl, ?_⟩⟩⟩)
        have s6 : Same H2 (upd (upd H5 e1 (.lst [.bl false, .bl false])) l (.lst ([.bl false, .bl false, .bl false, .bl false, .bl false, .bl false, .bl false, .bl false, .bl false] ++ [.bl false, .bl false]))) := (s5.trans (Same.new he1)).put hl
        have hl6 : upd (upd H5 e1 (.lst [.bl false, .bl false])) l (.lst ([.bl false, .bl false, .bl false, .bl false, .bl false, .bl false, .bl false, .bl false, .bl false] ++ [.bl false, .bl false])) l = some (.lst [.bl false, .bl false, .bl false, .bl false, .bl false, .bl false, .bl false, .bl false, .bl false, .bl false, .bl false]) := upd_same
        generalize upd (upd H5 e1 (.lst [.bl false, .bl false])) l (.lst ([.bl false, .bl false, .bl false, .bl false, .bl false, .bl false, .bl false, .bl false, .bl false] ++ [.bl false, .bl false])) = H6 at s6 hl6
        clear he1
        refine (exq rfl ⟨ea, _, a.c_NoText, _, _, _, rfl, rfl, (s6 _ _ hx), T.e_NoText, T.q_NoText_NoText, _, rfl, iteF (exq rfl ⟨ea, _, a.c_NoText, _, _, _, rfl, rfl, (s6 _ _ hx), T.e_NoText, T.qV_NoText, _, rfl, iteF (exq rfl (lnq rfl (.inl (SqL.of hl6)) ⟨rfl, rfl, exq rfl (iteF ?_)⟩))⟩)⟩)
        have hx6 := s6 _ _ hx
        have hd6 := s6 _ _ hd2
        refine (exq rfl ⟨ea, a.c_NoText, a.c_RingError, a.f_NoText_init, d, _, _, rfl, hx6, hd6, rfl, T.e_NoText, T.xi_NoText, _, _, _, _, _, rfl, rfl, .int _, kit_ii K, _, rfl, iteF ?_⟩)
        refine (exq rfl ⟨ea, a.c_NoText, a.c_RingError, a.f_NoText_init, d, _, _, rfl, hx6, hd6, rfl, T.e_NoText, T.xi_NoText, _, _, _, _, _, rfl, rfl, .int _, kit_ib K, _, rfl, iteF ?_⟩)
        exact (exq rfl ⟨ea, a.c_NoText, a.c_RingError, a.f_NoText_init, d, _, _, rfl, hx6, hd6, rfl, T.e_NoText, T.xi_NoText, q _ (s2.trans s6)⟩)
end

def rowsS (p : Nat) (ts : List Tie) : List Str := rowS "points" [p] :: ts.map fun t => rowS "tie" (natT t)
def askS (q : Ask) : Str := Txt.join " " (q.1 :: q.2.map Tx.intS)
def pageL (p : Nat) (ts : List Tie) (as : List Ask) : List Str := rowsS p ts ++ as.map askS
theorem w_ask0 {n : Nat} {x : Str} {zs : List Int} (h : AskOk n x zs) : 10 ∉ x.cps.toList ∧ 32 ∉ x.cps.toList ∧ x.length ≤ 10 ∧ x ≠ "tie" := by
  cases h with
  | bare h => rcases h with rfl | rfl | rfl <;> decide +kernel
  | ties h => rcases h with rfl | rfl | rfl <;> decide +kernel
  | heights => decide +kernel
theorem w_ask {n : Nat} {q : Ask} (h : AskOk n q.1 q.2) : 10 ∉ q.1.cps.toList ∧ 32 ∉ q.1.cps.toList ∧ q.1.length ≤ 10 ∧ q.1 ≠ "tie" := w_ask0 h
theorem z_ask {n : Nat} {q : Ask} (h : AskOk n q.1 q.2) (h9 : n ≤ 9) : q.2.length ≤ 10 ∧ ∀ z ∈ q.2, z.natAbs < 10 ^ 60 := by
  obtain ⟨x, zs⟩ := q
  cases h with
  | bare h => exact ⟨Nat.zero_le _, fun _ h => nomatch h⟩
  | ties h up hl =>
    refine ⟨by show (castI _).length ≤ 10; unfold castI; rw [List.length_map]; exact hl, fun z hz => ?_⟩
    obtain ⟨k, hk, rfl⟩ := List.mem_map.mp (show z ∈ List.map _ _ from hz)
    obtain ⟨i, hi, e⟩ := List.getElem_of_mem hk
    have := up.1 i k (by rw [← e]; exact List.getElem?_eq_getElem hi)
    rw [Int.natAbs_natCast]
    exact Nat.lt_trans (Nat.lt_of_lt_of_le this h9) (by decide)
  | heights h1 hr hl hz =>
    refine ⟨by show (_ :: _).length ≤ 10; rw [List.length_cons]; (first | lia | omega), fun z hz' => ?_⟩
    rcases List.mem_cons.mp hz' with e | hz'
    · rw [e, Int.natAbs_natCast]; exact hr
    · exact hz z hz'
theorem ask_lens {n : Nat} {q : Ask} (h : AskOk n q.1 q.2) (h9 : n ≤ 9) : ∀ y ∈ q.1 :: q.2.map Tx.intS, y.length ≤ 61 := fun y hy => by
  rcases List.mem_cons.mp hy with e | hy
  · rw [e]
    have := (w_ask h).2.2.1
    (first | lia | omega)
  · obtain ⟨z, hz, rfl⟩ := List.mem_map.mp hy
    exact (Tx.int_len ((z_ask h h9).2 z hz)).2
theorem ask_ok {n : Nat} {q : Ask} (h : AskOk n q.1 q.2) (h9 : n ≤ 9) : PySem.JoinOk " " (q.1 :: q.2.map Tx.intS) = true := by
  refine join_ok (B := 61) (ask_lens h h9) ?_
  have := (z_ask h h9).1
  rw [List.length_cons, List.length_map]
  show _ * _ + _ * 1 ≤ _
  (first | lia | omega)

def sp_cell (K : PySem.W.Frag) : Sp := fun vs H Q _ => ∃ (a : Addr) (ns : List Int) (k : Nat), vs = [.ref a, .int (k : Int)] ∧ SqL K H a (ns.map V.int) ∧ ∀ z, Q (.int z) H
def sp_stir : Sp := fun vs H Q _ => ∃ c k, vs = [.int c, .int k] ∧ ∀ z, 0 ≤ z → z < 2147483629 → Q (.int z) H
def sp_tie : Sp := fun vs H Q _ => ∃ (c : Int) (p : Nat) (t : Int), vs = [.int c, .int (p : Int), .int t] ∧ 2 ≤ p ∧ p ≤ 10 ∧ 1 ≤ t ∧ t ≤ 100000000000000000000000000000 ∧
  ∀ tie b r c' H', Same H H' → GoodTie (p : Int) tie → H' b = some (.tup (tieV tie)) → H' r = some (.tup [.ref b, .int c']) → Q (.ref r) H'
def sp_web (K : PySem.W.Frag) : Sp := fun vs H Q _ => ∃ (a : Addr) (ns : List Int) (most : Nat), vs = [.ref a, .int (most : Int)] ∧ SqL K H a (ns.map V.int) ∧ ns.length ≤ 63 ∧ most ≤ 24 ∧
  ∀ w p ts H', Same H H' → GoodWeb p ts → p ≤ 6 → ts.length ≤ most → WebAt H' w p ts → Q (.ref w) H'
theorem pick4 (y : Int) : ∃ m, atI [V.int 1, .int 1, .int 1, .int (10 ^ (29 : Int).toNat)] (y % 4) = some (.int m) ∧ 1 ≤ m ∧ m ≤ 100000000000000000000000000000 := by
  obtain ⟨h0, h1⟩ := emod2 y 4 (by decide)
  generalize y % 4 = i at h0 h1
  have hi : i = 0 ∨ i = 1 ∨ i = 2 ∨ i = 3 := by (first | lia | omega)
  rcases hi with rfl | rfl | rfl | rfl
  · exact ⟨1, atI_nat (j := 0) rfl, by decide, by decide⟩
  · exact ⟨1, atI_nat (j := 1) rfl, by decide, by decide⟩
  · exact ⟨1, atI_nat (j := 2) rfl, by decide, by decide⟩
  · exact ⟨10 ^ (29 : Int).toNat, atI_nat (j := 3) rfl, by decide, by decide⟩
section
variable {P : Program} {w : World} {K : PySem.W.Frag} {mg : Str → Option Value} {base : Heap} {a : Adr}
theorem G_law_cell (T : Txt K mg a) : FnOk P w K mg base CX0 1 a.f_law_cell a.d_law_cell ["script", "k"] (sp_cell K) := by
  refine T.F_law_cell.ok sc_law_cell (fun vs H Q E h => ?_) (fun cdv A outer s H vs Q E hr h => ?_)
  · obtain ⟨b, ns, k, rfl, _⟩ := h
    rfl
  · obtain ⟨b, ns, k, rfl, hS, q⟩ := h
    refine ⟨_, (@pss_cons _ _ _ _ _ (@ps_if _ _ _ _ _ _ _ _ (@pt_cmpR _ _ _ _ _ _ _ _ op_lt (pv 1) (@pe_callB _ _ _ _ _ _ _ _ _ (lenK K) (by rfl) T.n_len PySem.boot_len (@pa_cons _ _ _ _ _ (pv 0) pa_nil (by rfl)) (by decide) (by decide) (by rfl) (by rfl)) (nomark _)) (@pss_one _ _ _ (@ps_ret _ _ _ _ (@pe_ix _ _ _ _ _ _ _ (ixL K) (pv 0) (pv 1) (fun _ _ => rfl)))) pss_nil) (@pss_one _ _ _ (@ps_ret _ _ _ _ pe_int))), ?_⟩
    refine hd_law_cell ?_
    intro zz0 zz1
    refine (exq rfl (exq rfl ⟨b, _, rfl, .inl hS, _, _, rfl, rfl, exq rfl (ite2 (fun hlt => ?_) (fun _ => q 0))⟩))
    have hlt := of_decide_eq_true hlt
    rw [List.length_map] at hlt
    exact (exq rfl (exq rfl ⟨b, _, _, _, rfl, rfl, hS, atI_nat (j := k) (ints_at (by (first | lia | omega))), q _⟩))
theorem G_law_stir (T : Txt K mg a) : FnOk P w K mg base CX0 1 a.f_law_stir a.d_law_stir ["cell", "k"] sp_stir := by
  refine T.F_law_stir.ok sc_law_stir (fun vs H Q E h => ?_) (fun cdv A outer s H vs Q E hr h => ?_)
  · obtain ⟨c, k, rfl, _⟩ := h
    rfl
  · obtain ⟨c, k, rfl, q⟩ := h
    refine ⟨_, (@pss_cons _ _ _ _ _ (@ps_set _ _ 2 _ _ _ _ sc_law_stir.nd rfl (Or.inl rfl) (@pe_op _ _ _ _ _ _ _ _ op_mod (@pe_op _ _ _ _ _ _ _ _ op_add (@pe_op _ _ _ _ _ _ _ _ op_add (pv 0) (@pe_op _ _ _ _ _ _ _ _ op_mul pe_int (pv 1))) pe_int) pe_int) (by rfl) (by first | exact .inl rfl | exact .inr rfl | assumption)) (@pss_cons _ _ _ _ _ (@ps_set _ _ 2 _ _ _ _ sc_law_stir.nd rfl (Or.inl rfl) (@pe_op _ _ _ _ _ _ _ _ op_mod (@pe_op _ _ _ _ _ _ _ _ op_mul (pv 2) (pv 2)) pe_int) (by rfl) (by first | exact .inl rfl | exact .inr rfl | assumption)) (@pss_one _ _ _ (@ps_ret _ _ _ _ (@pe_op _ _ _ _ _ _ _ _ op_fdiv (@pe_op _ _ _ _ _ _ _ _ op_mod (@pe_op _ _ _ _ _ _ _ _ op_mul (pv 2) pe_int) pe_int) pe_int))))), ?_⟩
    refine hd_law_stir ?_
    intro zz0 zz1
    refine (exq rfl (exq rfl (ijq ⟨.inl ⟨by decide, by decide⟩, ijq (ijq (ijq ⟨(modC rfl), ?_⟩))⟩)))
    have h1 := emod2 (c + 7919 * k + 101) 2147483647 (by decide)
    dsimp only
    generalize (c + 7919 * k + 101) % 2147483647 = n at h1
    refine (exq rfl (exq rfl (ijq ⟨.inl ⟨by (first | lia | omega), by (first | lia | omega)⟩, ijq ⟨(modC rfl), ?_⟩⟩)))
    refine (exq rfl (ijq ⟨.inr ⟨by decide, by decide⟩, ijq ⟨(modC rfl), ijq ⟨⟨by decide, by decide⟩, ?_⟩⟩⟩))
    have h2 := emod2 (n * n % 2147483647 * 48271) 2147483629 (by decide)
    exact q _ (Int.ediv_nonneg h2.1 (by decide)) (by (first | lia | omega))
theorem G_law_tie (T : Txt K mg a) : FnOk P w K mg base CX0 1 a.f_law_tie a.d_law_tie ["c", "points", "times"] sp_tie := by
  refine T.F_law_tie.ok sc_law_tie (fun vs H Q E h => ?_) (fun cdv A outer s H vs Q E hr h => ?_)
  · obtain ⟨c, p, t, rfl, _⟩ := h
    rfl
  · obtain ⟨c, p, t, rfl, hp1, hp2, ht1, ht2, q⟩ := h
    refine ⟨_, (@pss_cons _ _ _ _ _ (@ps_set _ _ 3 _ _ _ _ sc_law_tie.nd rfl (Or.inl rfl) (@pe_op _ _ _ _ _ _ _ _ op_mod (pv 0) (pv 1)) (by rfl) (by first | exact .inl rfl | exact .inr rfl | assumption)) (@pss_cons _ _ _ _ _ (@ps_set _ _ 0 _ _ _ _ sc_law_tie.nd rfl (Or.inl rfl) (@pe_op _ _ _ _ _ _ _ _ op_fdiv (pv 0) (pv 1)) (by rfl) (by first | exact .inl rfl | exact .inr rfl | assumption)) (@pss_cons _ _ _ _ _ (@ps_set _ _ 4 _ _ _ _ sc_law_tie.nd rfl (Or.inl rfl) (@pe_op _ _ _ _ _ _ _ _ op_mod (@pe_op _ _ _ _ _ _ _ _ op_add (@pe_op _ _ _ _ _ _ _ _ op_add (pv 3) pe_int) (@pe_op _ _ _ _ _ _ _ _ op_mod (pv 0) (@pe_op _ _ _ _ _ _ _ _ op_sub (pv 1) pe_int))) (pv 1)) (by rfl) (by first | exact .inl rfl | exact .inr rfl | assumption)) (@pss_cons _ _ _ _ _ (@ps_set _ _ 0 _ _ _ _ sc_law_tie.nd rfl (Or.inl rfl) (@pe_op _ _ _ _ _ _ _ _ op_fdiv (pv 0) (@pe_op _ _ _ _ _ _ _ _ op_sub (pv 1) pe_int)) (by rfl) (by first | exact .inl rfl | exact .inr rfl | assumption)) (@pss_one _ _ _ (@ps_ret _ _ _ _ (@pe_tup _ _ _ _ _ (@pa_cons _ _ _ _ _ (@pe_tup _ _ _ _ _ (@pa_cons _ _ _ _ _ (pv 3) (@pa_cons _ _ _ _ _ (pv 4) (@pa_cons _ _ _ _ _ (@pe_op _ _ _ _ _ _ _ _ op_mul (@pe_op _ _ _ _ _ _ _ _ op_add pe_int (@pe_op _ _ _ _ _ _ _ _ op_mod (pv 0) pe_int)) (pv 2)) pa_nil (by rfl)) (by rfl)) (by rfl))) (@pa_cons _ _ _ _ _ (@pe_op _ _ _ _ _ _ _ _ op_fdiv (pv 0) pe_int) pa_nil (by rfl)) (by rfl))))))))), ?_⟩
    refine hd_law_tie ?_
    intro zz0 zz1 zz2 zz3
    have p0 : (0 : Int) < (p : Int) := by (first | lia | omega)
    have p9 : (0 : Int) < (p : Int) - 1 := by (first | lia | omega)
    have hd : ∀ i, CDiv i (p : Int) := fun i => ⟨by (first | lia | omega), by (first | lia | omega)⟩
    have hd1 : ∀ i, CDiv i ((p : Int) - 1) := fun i => ⟨by (first | lia | omega), by (first | lia | omega)⟩
    refine (exq rfl (exq rfl (ijq ⟨p0, ?_⟩)))
    refine (exq rfl (exq rfl (ijq ⟨hd _, ?_⟩)))
    refine (exq rfl (ijq (exq rfl (exq rfl (ijq (ijq ⟨p9, _, _, rfl, rfl, exq rfl (ijq ⟨p0, ?_⟩)⟩))))))
    refine (exq rfl (exq rfl (ijq (ijq ⟨hd1 _, ?_⟩))))
    obtain ⟨r0, r1⟩ := emod2 (c / p / (p - 1)) 9 (by decide)
    refine (exq rfl (exq rfl (exq rfl (ijq ⟨(modC rfl), ijq (exq rfl (ijq ⟨.inl ⟨by (first | lia | omega), by (first | lia | omega)⟩, dl rfl, fun b hb => ?_⟩))⟩))))
    refine (exq rfl (ijq ⟨⟨by decide, by decide⟩, dl rfl, fun r hr => ?_⟩))
    obtain ⟨o1, o2, o3⟩ := other_ne (p := p) (o := c % p) (r := c / p % (p - 1)) (emod2 _ _ p0).1 (emod2 _ _ p0).2 (emod2 _ _ p9).1 (emod2 _ _ p9).2
    refine q (c % p, (c % p + 1 + c / p % (p - 1)) % p, (1 + c / p / (p - 1) % 9) * t) b r _ _ ((Same.new hb).trans (Same.new hr)) ?_ (Same.new hr _ _ upd_same) upd_same
    generalize c / p / (p - 1) % 9 = r at r0 r1
    have hr' : r = 0 ∨ r = 1 ∨ r = 2 ∨ r = 3 ∨ r = 4 ∨ r = 5 ∨ r = 6 ∨ r = 7 ∨ r = 8 := by (first | lia | omega)
    refine ⟨(emod2 _ _ p0).1, (emod2 _ _ p0).2, o1, o2, o3, ?_, ?_⟩
    · show 1 ≤ (1 + r) * t
      rcases hr' with rfl | rfl | rfl | rfl | rfl | rfl | rfl | rfl | rfl <;> (first | lia | omega)
    · show (1 + r) * t ≤ _
      rcases hr' with rfl | rfl | rfl | rfl | rfl | rfl | rfl | rfl | rfl <;> (first | lia | omega)
theorem G_law_web (T : Txt K mg a) : FnOk P w K mg base CX0 2 a.f_law_web a.d_law_web ["script", "most"] (sp_web K) := by
  have G_law_cell : FnOk P w K mg base CX0 1 a.f_law_cell a.d_law_cell ["script", "k"] (sp_cell K) := G_law_cell T
  have G_law_stir : FnOk P w K mg base CX0 1 a.f_law_stir a.d_law_stir ["cell", "k"] sp_stir := G_law_stir T
  have G_law_tie : FnOk P w K mg base CX0 1 a.f_law_tie a.d_law_tie ["c", "points", "times"] sp_tie := G_law_tie T
  refine T.F_law_web.ok sc_law_web (fun vs H Q E h => ?_) (fun cdv A outer s H vs Q E hr h => ?_)
  · obtain ⟨b, ns, most, rfl, _⟩ := h
    rfl
  · obtain ⟨b, ns, most, rfl, hS, hn, hm, q⟩ := h
    refine ⟨_, (@pss_cons _ _ _ _ _ (@ps_set _ _ 2 _ _ _ _ sc_law_web.nd rfl (Or.inl rfl) (@pe_op _ _ _ _ _ _ _ _ op_mod (@pe_call _ _ _ _ _ _ _ _ _ _ _ _ _ _ _ _ G_law_cell (hr.mono (by decide)) (by rfl) T.m_law_cell T.k_law_cell T.b_law_cell .nil pass0 (@pa_cons _ _ _ _ _ (pv 0) (@pa_cons _ _ _ _ _ pe_int pa_nil (by rfl)) (by rfl)) (by decide) (by rfl) (by rfl)) (@pe_op _ _ _ _ _ _ _ _ op_pow pe_int pe_int)) (by rfl) (by first | exact .inl rfl | exact .inr rfl | assumption)) (@pss_cons _ _ _ _ _ (@ps_set _ _ 3 _ _ _ _ sc_law_web.nd rfl (Or.inl rfl) (@pe_op _ _ _ _ _ _ _ _ op_add pe_int (@pe_op _ _ _ _ _ _ _ _ op_mod (@pe_op _ _ _ _ _ _ _ _ op_fdiv (pv 2) pe_int) pe_int)) (by rfl) (by first | exact .inl rfl | exact .inr rfl | assumption)) (@pss_cons _ _ _ _ _ (@ps_set _ _ 4 _ _ _ _ sc_law_web.nd rfl (Or.inl rfl) (@pe_ix _ _ _ _ _ _ _ (ixL K) (@pe_lst _ _ _ _ (@pa_cons _ _ _ _ _ pe_int (@pa_cons _ _ _ _ _ pe_int (@pa_cons _ _ _ _ _ pe_int (@pa_cons _ _ _ _ _ (@pe_op _ _ _ _ _ _ _ _ op_pow pe_int pe_int) pa_nil (by rfl)) (by rfl)) (by rfl)) (by rfl))) (@pe_op _ _ _ _ _ _ _ _ op_mod (@pe_op _ _ _ _ _ _ _ _ op_fdiv (pv 2) pe_int) pe_int) (fun _ _ => rfl)) (by rfl) (by first | exact .inl rfl | exact .inr rfl | assumption)) (@pss_cons _ _ _ _ _ (@ps_set _ _ 5 _ _ _ _ sc_law_web.nd rfl (Or.inl rfl) (@pe_lst _ _ _ _ pa_nil) (by rfl) (by first | exact .inl rfl | exact .inr rfl | assumption)) (@pss_cons _ _ _ _ _ (@ps_if _ _ _ _ _ _ _ _ (PW.pt (@pw_and _ _ _ _ _ _ _ (@pt_cmpR _ _ _ _ _ _ _ _ op_gt (pv 3) pe_int (nomark _)) (@pw_and1 _ _ _ _ (@pt_cmpR _ _ _ _ _ _ _ _ op_eq (@pe_op _ _ _ _ _ _ _ _ op_mod (pv 2) pe_int) pe_int (nomark _))))) (@pss_cons _ _ _ _ _ (@ps_set _ _ 6 _ _ _ _ sc_law_web.nd rfl (Or.inl rfl) (@pe_op _ _ _ _ _ _ _ _ op_mod (@pe_call _ _ _ _ _ _ _ _ _ _ _ _ _ _ _ _ G_law_cell (hr.mono (by decide)) (by rfl) T.m_law_cell T.k_law_cell T.b_law_cell .nil pass0 (@pa_cons _ _ _ _ _ (pv 0) (@pa_cons _ _ _ _ _ pe_int pa_nil (by rfl)) (by rfl)) (by decide) (by rfl) (by rfl)) (@pe_op _ _ _ _ _ _ _ _ op_mulB (@pe_op _ _ _ _ _ _ _ _ op_pow pe_int pe_int) (@pe_op _ _ _ _ _ _ _ _ op_pow pe_int pe_int))) (by rfl) (by first | exact .inl rfl | exact .inr rfl | assumption)) (@pss_one _ _ _ (@ps_for _ _ _ _ _ _ _ _ PassesOwn.never rfl (@pi_range1 _ _ _ _ _ _ (by rfl) T.n_range (@pa_cons _ _ _ _ _ (@pe_op _ _ _ _ _ _ _ _ op_mod (@pe_op _ _ _ _ _ _ _ _ op_fdiv (pv 2) pe_int) (@pe_op _ _ _ _ _ _ _ _ op_add (pv 1) pe_int)) pa_nil (by rfl)) (by rfl)) (pg_name (i := 7) sc_law_web.nd rfl (Or.inl rfl)) (@pss_cons _ _ _ _ _ (@ps_asg _ _ _ _ _ _ (@pe_call _ _ _ _ _ _ _ _ _ _ _ _ _ _ _ _ G_law_tie (hr.mono (by decide)) (by rfl) T.m_law_tie T.k_law_tie T.b_law_tie .nil pass0 (@pa_cons _ _ _ _ _ (pv 6) (@pa_cons _ _ _ _ _ (pv 3) (@pa_cons _ _ _ _ _ (pv 4) pa_nil (by rfl)) (by rfl)) (by rfl)) (by decide) (by rfl) (by rfl)) (@pgT _ _ K _ _ 2 _ rfl (@pgs_cons _ _ _ _ _ (pg_name (i := 8) sc_law_web.nd rfl (Or.inl rfl)) (@pgs_cons _ _ _ _ _ (pg_name (i := 6) sc_law_web.nd rfl (Or.inl rfl)) pgs_nil (by rfl)) (by rfl)) (by rfl) (by rfl) (by rfl)) (by rfl) (by rfl) (by rfl)) (@pss_one _ _ _ (@ps_expr _ _ _ _ (@bmK _ _ _ _ _ _ K (@pe_bm _ _ _ _ _ _ _ _ _ _ _ _ PySem.F.plainAttrs_list PySem.F.slot_list_append PySem.F.type_list_append mt_append (pv 5) (@pa_cons _ _ _ _ _ (pv 8) pa_nil (by rfl)) (by rfl) (by rfl) (by rfl) (by rfl) (by rfl)) (by rfl)) (by rfl)))) (by intro _; rfl)))) pss_nil) (@pss_cons _ _ _ _ _ (@ps_if _ _ _ _ _ _ _ _ (PW.pt (@pw_and _ _ _ _ _ _ _ (@pt_cmpR _ _ _ _ _ _ _ _ op_gt (pv 3) pe_int (nomark _)) (@pw_and1 _ _ _ _ (@pt_cmpR _ _ _ _ _ _ _ _ op_eq (@pe_op _ _ _ _ _ _ _ _ op_mod (pv 2) pe_int) pe_int (nomark _))))) (@pss_one _ _ _ (@ps_for _ _ _ _ _ _ _ _ PassesOwn.never rfl (@pi_range2 _ _ _ _ _ _ _ (by rfl) T.n_range (@pa_cons _ _ _ _ _ pe_int (@pa_cons _ _ _ _ _ (@pe_callB _ _ _ _ _ _ _ _ _ (call_min2 rfl) (by rfl) T.n_min PyProof.Rows.boot_min (@pa_cons _ _ _ _ _ (@pe_callB _ _ _ _ _ _ _ _ _ (lenK K) (by rfl) T.n_len PySem.boot_len (@pa_cons _ _ _ _ _ (pv 0) pa_nil (by rfl)) (by decide) (by decide) (by rfl) (by rfl)) (@pa_cons _ _ _ _ _ (@pe_op _ _ _ _ _ _ _ _ op_add pe_int (pv 1)) pa_nil (by rfl)) (by rfl)) (by decide) (by decide) (by rfl) (by rfl)) pa_nil (by rfl)) (by rfl)) (by rfl) (by rfl)) (pg_name (i := 7) sc_law_web.nd rfl (Or.inl rfl)) (@pss_one _ _ _ (@ps_expr _ _ _ _ (@bmK _ _ _ _ _ _ K (@pe_bm _ _ _ _ _ _ _ _ _ _ _ _ PySem.F.plainAttrs_list PySem.F.slot_list_append PySem.F.type_list_append mt_append (pv 5) (@pa_cons _ _ _ _ _ (@pe_ix _ _ _ _ _ _ _ (ixT K) (@pe_call _ _ _ _ _ _ _ _ _ _ _ _ _ _ _ _ G_law_tie (hr.mono (by decide)) (by rfl) T.m_law_tie T.k_law_tie T.b_law_tie .nil pass0 (@pa_cons _ _ _ _ _ (@pe_call _ _ _ _ _ _ _ _ _ _ _ _ _ _ _ _ G_law_stir (hr.mono (by decide)) (by rfl) T.m_law_stir T.k_law_stir T.b_law_stir .nil pass0 (@pa_cons _ _ _ _ _ (@pe_ix _ _ _ _ _ _ _ (ixL K) (pv 0) (pv 7) (fun _ _ => rfl)) (@pa_cons _ _ _ _ _ (pv 7) pa_nil (by rfl)) (by rfl)) (by decide) (by rfl) (by rfl)) (@pa_cons _ _ _ _ _ (pv 3) (@pa_cons _ _ _ _ _ (pv 4) pa_nil (by rfl)) (by rfl)) (by rfl)) (by decide) (by rfl) (by rfl)) pe_int (fun _ _ => rfl)) pa_nil (by rfl)) (by rfl) (by rfl) (by rfl) (by rfl) (by rfl)) (by rfl)) (by rfl))) (by intro _; rfl))) pss_nil) (@pss_one _ _ _ (@ps_ret _ _ _ _ (@pe_tup _ _ _ _ _ (@pa_cons _ _ _ _ _ (pv 3) (@pa_cons _ _ _ _ _ (@pe_callTy _ _ _ _ _ _ _ _ _ (tuplK K) (by rfl) T.n_tuple PyProof.Rows.boot_tuple (@pa_cons _ _ _ _ _ (pv 5) pa_nil (by rfl)) (by decide) (by decide) (by rfl) (by rfl)) pa_nil (by rfl)) (by rfl))))))))))), ?_⟩
    refine hd_law_web ?_
    intro zz0 zz1 zz2 zz3 zz4 zz5 zz6 zz7 zz8 zz9 zz10 zz11
    refine (exq rfl ⟨b, ns, 0, rfl, hS, fun z => (ijq ⟨⟨by decide, by decide, by decide⟩, ijq ⟨(modC rfl), ?_⟩⟩)⟩)
    have h0 := (emod2 z (10 ^ (60 : Int).toNat) (by decide)).1
    dsimp only
    generalize z % 10 ^ (60 : Int).toNat = hd at h0
    refine (exq rfl (ijq ⟨⟨by decide, by decide⟩, ijq ⟨(modC rfl), ijq (?_)⟩⟩))
    obtain ⟨p, hp, p1, p6⟩ : ∃ p : Nat, 1 + hd / 2 % 6 = (p : Int) ∧ 1 ≤ p ∧ p ≤ 6 := ⟨(1 + hd / 2 % 6).toNat, by (first | lia | omega), by (first | lia | omega), by (first | lia | omega)⟩
    dsimp only
    rw [hp]
    obtain ⟨m, hat, m1, m2⟩ := pick4 (hd / 12)
    refine (ijq ⟨⟨by decide, by decide, by decide⟩, dl rfl, fun l hl => (exq rfl (ijq ⟨⟨by decide, by decide⟩, ijq ⟨(modC rfl), ixl (SqL.of upd_same) (hat) (?_)⟩⟩))⟩)
    have s1 : Same H (upd H l (.lst [.int 1, .int 1, .int 1, .int (10 ^ (29 : Int).toNat)])) := Same.new hl
    generalize upd H l (.lst [.int 1, .int 1, .int 1, .int (10 ^ (29 : Int).toNat)]) = H1 at s1
    refine ⟨dl rfl, fun D hD => ?_⟩
    have hk0 : 0 ≤ hd / 48 % ((most : Int) + 1) ∧ hd / 48 % ((most : Int) + 1) < (most : Int) + 1 := emod2 _ _ (by (first | lia | omega))
    -- the web is told
    have fin : ∀ (n : Nat) (H2 : Hp), Ties (p : Int) H1 D n H2 → n ≤ most → ∃ acc, H2 D = some (.lst acc) ∧ ∀ l', H2 l' = none → ([V.int (p : Int), .ref l'] : List V).length ≤ sizeLine ∧ ∀ w', upd H2 l' (.tup acc) w' = none → Q (.ref w') (upd (upd H2 l' (.tup acc)) w' (.tup [.int (p : Int), .ref l'])) := by
      intro n H2 ht hnm
      obtain ⟨acc, ts, hd, hl, gt, z⟩ := ht.fin
      refine ⟨acc, hd, fun l' hl' => ⟨dl rfl, fun w' hw => ?_⟩⟩
      obtain ⟨z1, z2⟩ := z l' hl' w' hw
      exact q w' p ts _ (s1.trans z1) ⟨p1, by (first | lia | omega), by (first | lia | omega), gt⟩ p6 (by (first | lia | omega)) z2
    have t0 : Ties (p : Int) H1 D 0 (upd H1 D (.lst [])) := Ties.start hD
    generalize upd H1 D (.lst []) = H2 at t0
    by_cases hp1 : p = 1
    · subst hp1
      refine (exq rfl (ijq (exq rfl (iteD (by decide) (iteF ?_)))))
      refine (exq rfl (ijq (exq rfl (iteD (by decide) (iteF ?_)))))
      obtain ⟨acc, hD2, z⟩ := fin 0 H2 t0 (by (first | lia | omega))
      exact (exq rfl (exq rfl ⟨D, acc, rfl, .inl ⟨SqL.of hD2, z⟩⟩))
    · by_cases hpar : hd % 2 = 0
      · refine (exq rfl (ijq (exq rfl (iteP (by (first | lia | omega)) (exq rfl (ijq ⟨(modC rfl), rfl, exq rfl (iteP (congrArg V.int hpar) ?_)⟩))))))
        refine (exq rfl ⟨b, ns, 1, rfl, (s1.trans t0.1).seq hS, fun z1 => (ijq ⟨⟨by decide, by decide, by decide⟩, ijq ⟨⟨by decide, by decide, by decide⟩, ijq ⟨mulOk_of (by decide) (by decide), ijq ⟨(modC rfl), ?_⟩⟩⟩⟩)⟩)
        refine (exq rfl (ijq ⟨⟨by decide, by decide⟩, exq rfl (ijq (ijq ⟨(by (first | lia | omega)), exq rfl ⟨(by (first | lia | omega)), (by (first | lia | omega)), ?_⟩⟩))⟩))
        refine for_range (lo := 0) (n := (hd / 48 % ((most : Int) + 1)).toNat) (fun i σ H3 => ∃ c v7 v8, σ = [some (.ref b), some (.int (most : Int)), some (.int hd), some (.int (p : Int)), some (.int m), some (.ref D), some (.int c), v7, v8] ∧ Ties (p : Int) H1 D i H3) ⟨_, none, none, rfl, t0⟩ ?_ ?_
        · rintro i σ H3 hi ⟨c, v7, v8, rfl, t3⟩
          refine (exq rfl (exq rfl (exq rfl ⟨c, p, m, rfl, by (first | lia | omega), by (first | lia | omega), m1, m2, fun tie bb r c' H4 s4 gt hb hr => ?_⟩)))
          obtain ⟨acc, hD4, hac, t5⟩ := t3.push hD s4 gt hb
          refine ⟨r, _, rfl, SqT.of hr, rfl, _, _, rfl, _, _, rfl, rfl, ?_⟩
          exact (exq rfl ⟨.inl ⟨rfl, _, SqL.of hD4⟩, exq rfl ⟨D, acc, _, rfl, rfl, hD4, smallL (by (first | lia | omega)), _, _, _, rfl, t5⟩⟩)
        · rintro σ H3 ⟨c, v7, v8, rfl, t3⟩
          refine (exq rfl (ijq (exq rfl (iteP (by (first | lia | omega)) (exq rfl (ijq ⟨(modC rfl), rfl, exq rfl (iteD (fun z => by have := V.int.inj z; (first | lia | omega)) ?_)⟩))))))
          obtain ⟨acc, hD2, z⟩ := fin _ H3 t3 (by (first | lia | omega))
          exact (exq rfl (exq rfl ⟨D, acc, rfl, .inl ⟨SqL.of hD2, z⟩⟩))
      · refine (exq rfl (ijq (exq rfl (iteP (by (first | lia | omega)) (exq rfl (ijq ⟨(modC rfl), rfl, exq rfl (iteD (fun z => hpar (V.int.inj z)) ?_)⟩))))))
        refine (exq rfl (ijq (exq rfl (iteP (by (first | lia | omega)) (exq rfl (ijq ⟨(modC rfl), rfl, exq rfl (iteP (congrArg V.int (by (first | lia | omega))) ?_)⟩))))))
        have hml : (ns.map V.int).length = ns.length := List.length_map ..
        refine (exq rfl ⟨b, _, rfl, .inl ((s1.trans t0.1).seq hS), exq rfl (ijq ⟨_, _, rfl, _, _, rfl, ⟨by decide, by decide, ?_, ?_⟩, ?_⟩)⟩)
        · rw [hml]; split <;> (first | lia | omega)
        · rw [hml]; split <;> (first | lia | omega)
        have hr1 : ∃ r : Nat, ((if (2 + (most : Int)) < ((ns.map V.int).length : Int) then 2 + (most : Int) else ((ns.map V.int).length : Int)) - 2).toNat = r ∧ r ≤ most ∧ (r = 0 ∨ r + 2 ≤ ns.length) := (exq rfl ⟨by rw [hml]; split <;> (first | lia | omega), by rw [hml]; split <;> (first | lia | omega)⟩)
        obtain ⟨r, hr0, hr1, hr2⟩ := hr1
        refine for_range (lo := 2) (n := _) (fun i σ H3 => ∃ v6 v7 v8, σ = [some (.ref b), some (.int (most : Int)), some (.int hd), some (.int (p : Int)), some (.int m), some (.ref D), v6, v7, v8] ∧ Ties (p : Int) H1 D i H3) ⟨none, none, none, rfl, t0⟩ ?_ ?_
        · rintro i σ H3 hi ⟨v6, v7, v8, rfl, t3⟩
          rw [hr0] at hi
          have ek : (2 : Int) + (i : Int) = ((2 + i : Nat) : Int) := by (first | lia | omega)
          rw [ek]
          have hD3 : ∃ acc, H3 D = some (.lst acc) := let ⟨_, acc, _, z, _⟩ := t3; ⟨acc, z⟩
          obtain ⟨acc0, hD3⟩ := hD3
          refine (exq rfl ⟨.inl ⟨rfl, _, SqL.of hD3⟩, exq rfl (exq rfl ⟨b, _, _, _, rfl, rfl, (s1.trans t3.1).seq hS, atI_nat (j := 2 + i) (ints_at (by (first | lia | omega))), exq rfl ⟨_, _, rfl, fun z z0 _ => ?_⟩⟩)⟩)
          refine (exq rfl (exq rfl ⟨z, p, m, rfl, by (first | lia | omega), by (first | lia | omega), m1, m2, fun tie bb rr c' H4 s4 gt hb hr => ?_⟩))
          obtain ⟨acc, hD4, hac, t5⟩ := t3.push hD s4 gt hb
          exact (ixq (SqT.of hr) (atI_nat (j := 0) rfl) ⟨D, acc, _, rfl, rfl, hD4, smallL (by (first | lia | omega)), _, _, _, rfl, t5⟩)
        · rintro σ H3 ⟨v6, v7, v8, rfl, t3⟩
          rw [hr0] at t3
          obtain ⟨acc, hD2, z⟩ := fin _ H3 t3 (by (first | lia | omega))
          exact (exq rfl (exq rfl ⟨D, acc, rfl, .inl ⟨SqL.of hD2, z⟩⟩))
end

def sp_row_of : Sp := fun vs H Q _ => ∃ (wb : Addr) (p : Nat) (ts : List Tie) (cell : Int) (gr : Nat), vs = [.ref wb, .int cell, .int (gr : Int)] ∧ gr ≤ 1 ∧ WebAt H wb p ts ∧ GoodWeb p ts ∧ p ≤ 6 ∧ ts.length ≤ 9 ∧
  ∀ l x zs H', H l = none → Same H H' → H' l = some (.lst (askV x zs)) → AskOk ts.length x zs → Q (.ref l) H'
theorem up_mono {n : Nat} {ks : List Nat} (h : Up n ks) : Up (n + 1) ks := ⟨fun i k e => Nat.lt_succ_of_lt (h.1 i k e), h.2⟩
theorem up_snoc {n : Nat} {ks : List Nat} (h : Up n ks) : Up (n + 1) (ks ++ [n]) := by
  refine ⟨fun i k e => ?_, fun i j k e1 e2 => ?_⟩
  · rcases List.mem_append.mp (List.mem_of_getElem? e) with m | m
    · obtain ⟨i', hi', e'⟩ := List.getElem_of_mem m
      exact Nat.lt_succ_of_lt (h.1 i' k (by rw [← e']; exact List.getElem?_eq_getElem hi'))
    · rw [List.mem_singleton.mp m]
      exact Nat.lt_succ_self n
  · have l2 := (List.getElem?_eq_some_iff.mp e2).1
    rw [List.length_append, List.length_singleton] at l2
    rw [List.getElem?_append_left (by (first | lia | omega))] at e1
    by_cases hi : i + 1 < ks.length
    · rw [List.getElem?_append_left hi] at e2
      exact h.2 i j k e1 e2
    · rw [List.getElem?_append_right (by (first | lia | omega)), show i + 1 - ks.length = 0 by (first | lia | omega)] at e2
      have : n = k := Option.some.inj e2
      have := h.1 i j e1
      (first | lia | omega)
theorem pickW {k : Int} (h0 : ¬ k < 3) (h1 : k < 6) : ∃ x : Str, atI [V.str "even", .str "cut", .str "odd"] (k - 3) = some (.str x) ∧ (x = "even" ∨ x = "cut" ∨ x = "odd") := by
  have hk : k = 3 ∨ k = 4 ∨ k = 5 := by (first | lia | omega)
  rcases hk with rfl | rfl | rfl
  · exact ⟨_, atI_nat (j := 0) rfl, .inl rfl⟩
  · exact ⟨_, atI_nat (j := 1) rfl, .inr (.inl rfl)⟩
  · exact ⟨_, atI_nat (j := 2) rfl, .inr (.inr rfl)⟩
theorem pickR (y : Int) : ∃ r : Nat, atI [V.int 0, .int 0, .int 2, .int 3, .int 4, .int 5, .int 6, .int 8, .int (10 ^ (59 : Int).toNat)] (y % 9) = some (.int (r : Int)) ∧ r ≠ 1 ∧ r < 10 ^ 60 := by
  obtain ⟨h0, h1⟩ := emod2 y 9 (by decide)
  generalize y % 9 = i at h0 h1
  have hi : i = 0 ∨ i = 1 ∨ i = 2 ∨ i = 3 ∨ i = 4 ∨ i = 5 ∨ i = 6 ∨ i = 7 ∨ i = 8 := by (first | lia | omega)
  rcases hi with rfl | rfl | rfl | rfl | rfl | rfl | rfl | rfl | rfl
  · exact ⟨0, atI_nat (j := 0) rfl, by decide, by decide⟩
  · exact ⟨0, atI_nat (j := 1) rfl, by decide, by decide⟩
  · exact ⟨2, atI_nat (j := 2) rfl, by decide, by decide⟩
  · exact ⟨3, atI_nat (j := 3) rfl, by decide, by decide⟩
  · exact ⟨4, atI_nat (j := 4) rfl, by decide, by decide⟩
  · exact ⟨5, atI_nat (j := 5) rfl, by decide, by decide⟩
  · exact ⟨6, atI_nat (j := 6) rfl, by decide, by decide⟩
  · exact ⟨8, atI_nat (j := 7) rfl, by decide, by decide⟩
  · exact ⟨10 ^ 59, atI_nat (j := 8) rfl, by decide, by decide⟩
theorem pickM {gr : Nat} (h : gr ≤ 1) : ∃ m : Nat, atI [V.int 1, .int (10 ^ (59 : Int).toNat)] (gr : Int) = some (.int (m : Int)) ∧ m ≤ 10 ^ 59 := by
  have hg : gr = 0 ∨ gr = 1 := by (first | lia | omega)
  rcases hg with rfl | rfl
  · exact ⟨1, atI_nat (j := 0) rfl, by decide⟩
  · exact ⟨10 ^ 59, atI_nat (j := 1) rfl, Nat.le_refl _⟩
theorem rise_lt {r : Int} {m : Nat} (h0 : -4 ≤ r) (h1 : r ≤ 4) (hm : m ≤ 10 ^ 59) : (r * (m : Int)).natAbs < 10 ^ 60 := by
  rw [Int.natAbs_mul, Int.natAbs_natCast]
  have hr : r.natAbs ≤ 4 := by (first | lia | omega)
  exact Nat.lt_of_le_of_lt (Nat.mul_le_mul hr hm) (by decide)
theorem log_int {z : Int} (h : z.natAbs < 10 ^ 60) : z.natAbs.log2 < 1920 := by
  have e := log_small h
  rwa [Int.natAbs_natCast] at e
section
variable {P : Program} {w : World} {K : PySem.W.Frag} {mg : Str → Option Value} {base : Heap} {a : Adr}
theorem G_law_row_of (T : Txt K mg a) : FnOk P w K mg base CX0 1 a.f_law_row_of a.d_law_row_of ["web", "cell", "great"] sp_row_of := by
  refine T.F_law_row_of.ok sc_law_row_of (fun vs H Q E h => ?_) (fun cdv A outer s H vs Q E hr h => ?_)
  · obtain ⟨wb, p, ts, cell, gr, rfl, _⟩ := h
    rfl
  · obtain ⟨wb, p, ts, cell, gr, rfl, hgr, hw, g, p6, h9, q⟩ := h
    refine ⟨_, (@pss_cons _ _ _ _ _ (@ps_set _ _ 3 _ _ _ _ sc_law_row_of.nd rfl (Or.inr rfl) (@pe_op _ _ _ _ _ _ _ _ op_mod (pv 1) (@pe_op _ _ _ _ _ _ _ _ op_mulB (@pe_op _ _ _ _ _ _ _ _ op_pow pe_int pe_int) (@pe_op _ _ _ _ _ _ _ _ op_pow pe_int pe_int))) (by rfl) (by first | exact .inl rfl | exact .inr rfl | assumption)) (@pss_cons _ _ _ _ _ (@ps_set _ _ 4 _ _ _ _ sc_law_row_of.nd rfl (Or.inl rfl) (@pe_op _ _ _ _ _ _ _ _ op_mod (pv 3) pe_int) (by rfl) (by first | exact .inl rfl | exact .inr rfl | assumption)) (@pss_cons _ _ _ _ _ (@ps_set _ _ 3 _ _ _ _ sc_law_row_of.nd rfl (Or.inr rfl) (@pe_op _ _ _ _ _ _ _ _ op_fdiv (pv 3) pe_int) (by rfl) (by first | exact .inl rfl | exact .inr rfl | assumption)) (@pss_cons _ _ _ _ _ (@ps_set _ _ 5 _ _ _ _ sc_law_row_of.nd rfl (Or.inl rfl) (@pe_callB _ _ _ _ _ _ _ _ _ (lenK K) (by rfl) T.n_len PySem.boot_len (@pa_cons _ _ _ _ _ (@pe_ix _ _ _ _ _ _ _ (ixT K) (pv 0) pe_int (fun _ _ => rfl)) pa_nil (by rfl)) (by decide) (by decide) (by rfl) (by rfl)) (by rfl) (by first | exact .inl rfl | exact .inr rfl | assumption)) (@pss_cons _ _ _ _ _ (@ps_if _ _ _ _ _ _ _ _ (@pt_cmpR _ _ _ _ _ _ _ _ op_lt (pv 4) pe_int (nomark _)) (@pss_one _ _ _ (@ps_ret _ _ _ _ (@pe_ix _ _ _ _ _ _ _ (ixL K) (@pe_lst _ _ _ _ (@pa_cons _ _ _ _ _ (@pe_lst _ _ _ _ (@pa_cons _ _ _ _ _ pe_str pa_nil (by rfl))) (@pa_cons _ _ _ _ _ (@pe_lst _ _ _ _ (@pa_cons _ _ _ _ _ pe_str pa_nil (by rfl))) (@pa_cons _ _ _ _ _ (@pe_lst _ _ _ _ (@pa_cons _ _ _ _ _ pe_str pa_nil (by rfl))) pa_nil (by rfl)) (by rfl)) (by rfl))) (pv 4) (fun _ _ => rfl)))) pss_nil) (@pss_cons _ _ _ _ _ (@ps_if _ _ _ _ _ _ _ _ (@pt_cmpR _ _ _ _ _ _ _ _ op_lt (pv 4) pe_int (nomark _)) (@pss_one _ _ _ (@ps_ret _ _ _ _ (@pe_op _ _ _ _ _ _ _ _ (catL K) (@pe_lst _ _ _ _ (@pa_cons _ _ _ _ _ (@pe_ix _ _ _ _ _ _ _ (ixL K) (@pe_lst _ _ _ _ (@pa_cons _ _ _ _ _ pe_str (@pa_cons _ _ _ _ _ pe_str (@pa_cons _ _ _ _ _ pe_str pa_nil (by rfl)) (by rfl)) (by rfl))) (@pe_op _ _ _ _ _ _ _ _ op_sub (pv 4) pe_int) (fun _ _ => rfl)) pa_nil (by rfl))) (@pe_comp _ _ _ _ _ _ _ ["tie"] ["c"] [3] _ _ _ _ (compText_of (defScope s_law_row_of) ["web", "cell", "great", "c", "kind", "many", "rest", "numbers", "by_points", "drawn", "k", "one", "other", "length", "rise"]) rfl (@pi_range1 _ _ _ _ _ _ (by rfl) T.n_range (@pa_cons _ _ _ _ _ (pv 5) pa_nil (by rfl)) (by rfl)) (fun _ _ _ _ => (pg_name (i := 0) (show (["tie", "c"] : List Str).Nodup by decide +kernel) rfl (Or.inl rfl))) (fun _ _ _ _ => (pts_one (pt_cmpR op_eq (pe_op op_mod (pe_op op_shr (pv 1) (pv 0)) pe_int) pe_int (nomark _)))) (fun _ _ _ _ => (pe_callTy call_str_int (by rfl) T.n_str PyProof.Rows.boot_str (pa_cons (pv 0) pa_nil))) (by intro _; rfl))))) pss_nil) (@pss_cons _ _ _ _ _ (@ps_set _ _ 6 _ _ _ _ sc_law_row_of.nd rfl (Or.inl rfl) (@pe_ix _ _ _ _ _ _ _ (ixL K) (@pe_lst _ _ _ _ (@pa_cons _ _ _ _ _ pe_int (@pa_cons _ _ _ _ _ pe_int (@pa_cons _ _ _ _ _ pe_int (@pa_cons _ _ _ _ _ pe_int (@pa_cons _ _ _ _ _ pe_int (@pa_cons _ _ _ _ _ pe_int (@pa_cons _ _ _ _ _ pe_int (@pa_cons _ _ _ _ _ pe_int (@pa_cons _ _ _ _ _ (@pe_op _ _ _ _ _ _ _ _ op_pow pe_int pe_int) pa_nil (by rfl)) (by rfl)) (by rfl)) (by rfl)) (by rfl)) (by rfl)) (by rfl)) (by rfl)) (by rfl))) (@pe_op _ _ _ _ _ _ _ _ op_mod (pv 3) pe_int) (fun _ _ => rfl)) (by rfl) (by first | exact .inl rfl | exact .inr rfl | assumption)) (@pss_cons _ _ _ _ _ (@ps_set _ _ 3 _ _ _ _ sc_law_row_of.nd rfl (Or.inr rfl) (@pe_op _ _ _ _ _ _ _ _ op_fdiv (pv 3) pe_int) (by rfl) (by first | exact .inl rfl | exact .inr rfl | assumption)) (@pss_cons _ _ _ _ _ (@ps_set _ _ 7 _ _ _ _ sc_law_row_of.nd rfl (Or.inl rfl) (@pe_lst _ _ _ _ pa_nil) (by rfl) (by first | exact .inl rfl | exact .inr rfl | assumption)) (@pss_cons _ _ _ _ _ (@ps_set _ _ 8 _ _ _ _ sc_law_row_of.nd rfl (Or.inl rfl) (@pe_cmpR _ _ _ _ _ _ _ _ op_eq (@pe_op _ _ _ _ _ _ _ _ op_mod (pv 3) pe_int) pe_int (nomark _)) (by rfl) (by first | exact .inl rfl | exact .inr rfl | assumption)) (@pss_cons _ _ _ _ _ (@ps_set _ _ 3 _ _ _ _ sc_law_row_of.nd rfl (Or.inr rfl) (@pe_op _ _ _ _ _ _ _ _ op_fdiv (pv 3) pe_int) (by rfl) (by first | exact .inl rfl | exact .inr rfl | assumption)) (@pss_cons _ _ _ _ _ (@ps_set _ _ 9 _ _ _ _ sc_law_row_of.nd rfl (Or.inl rfl) (@pe_lst _ _ _ _ pa_nil) (by rfl) (by first | exact .inl rfl | exact .inr rfl | assumption)) (@pss_cons _ _ _ _ _ (@ps_for _ _ _ _ _ _ _ _ PassesOwn.never rfl (@pi_range1 _ _ _ _ _ _ (by rfl) T.n_range (@pa_cons _ _ _ _ _ (@pe_op _ _ _ _ _ _ _ _ op_add (pv 5) (@pe_ix _ _ _ _ _ _ _ (ixT K) (pv 0) pe_int (fun _ _ => rfl))) pa_nil (by rfl)) (by rfl)) (pg_name (i := 10) sc_law_row_of.nd rfl (Or.inl rfl)) (@pss_cons _ _ _ _ _ (@ps_expr _ _ _ _ (@bmK _ _ _ _ _ _ K (@pe_bm _ _ _ _ _ _ _ _ _ _ _ _ PySem.F.plainAttrs_list PySem.F.slot_list_append PySem.F.type_list_append mt_append (pv 9) (@pa_cons _ _ _ _ _ (@pe_op _ _ _ _ _ _ _ _ op_sub (@pe_op _ _ _ _ _ _ _ _ op_mod (pv 3) pe_int) pe_int) pa_nil (by rfl)) (by rfl) (by rfl) (by rfl) (by rfl) (by rfl)) (by rfl)) (by rfl)) (@pss_one _ _ _ (@ps_set _ _ 3 _ _ _ _ sc_law_row_of.nd rfl (Or.inr rfl) (@pe_op _ _ _ _ _ _ _ _ op_fdiv (pv 3) pe_int) (by rfl) (by first | exact .inl rfl | exact .inr rfl | assumption)))) (by intro _; rfl)) (@pss_cons _ _ _ _ _ (@ps_for _ _ _ _ _ _ _ _ PassesOwn.never rfl (@pi_range1 _ _ _ _ _ _ (by rfl) T.n_range (@pa_cons _ _ _ _ _ (pv 5) pa_nil (by rfl)) (by rfl)) (pg_name (i := 10) sc_law_row_of.nd rfl (Or.inl rfl)) (@pss_cons _ _ _ _ _ (@ps_asg _ _ _ _ _ _ (@pe_ix _ _ _ _ _ _ _ (ixT K) (@pe_ix _ _ _ _ _ _ _ (ixT K) (pv 0) pe_int (fun _ _ => rfl)) (pv 10) (fun _ _ => rfl)) (@pgT _ _ K _ _ 3 _ rfl (@pgs_cons _ _ _ _ _ (pg_name (i := 11) sc_law_row_of.nd rfl (Or.inl rfl)) (@pgs_cons _ _ _ _ _ (pg_name (i := 12) sc_law_row_of.nd rfl (Or.inl rfl)) (@pgs_cons _ _ _ _ _ (pg_name (i := 13) sc_law_row_of.nd rfl (Or.inl rfl)) pgs_nil (by rfl)) (by rfl)) (by rfl)) (by rfl) (by rfl) (by rfl)) (by rfl) (by rfl) (by rfl)) (@pss_cons _ _ _ _ _ (@ps_set _ _ 14 _ _ _ _ sc_law_row_of.nd rfl (Or.inl rfl) (@pe_ix _ _ _ _ _ _ _ (ixL K) (pv 9) (pv 10) (fun _ _ => rfl)) (by rfl) (by first | exact .inl rfl | exact .inr rfl | assumption)) (@pss_cons _ _ _ _ _ (@ps_if _ _ _ _ _ _ _ _ (@pt_val _ _ _ (pv 8) (by intro _; rfl)) (@pss_one _ _ _ (@ps_set _ _ 14 _ _ _ _ sc_law_row_of.nd rfl (Or.inl rfl) (@pe_op _ _ _ _ _ _ _ _ op_sub (@pe_ix _ _ _ _ _ _ _ (ixL K) (pv 9) (@pe_op _ _ _ _ _ _ _ _ op_add (pv 5) (pv 12)) (fun _ _ => rfl)) (@pe_ix _ _ _ _ _ _ _ (ixL K) (pv 9) (@pe_op _ _ _ _ _ _ _ _ op_add (pv 5) (pv 11)) (fun _ _ => rfl))) (by rfl) (by first | exact .inl rfl | exact .inr rfl | assumption))) pss_nil) (@pss_one _ _ _ (@ps_expr _ _ _ _ (@bmK _ _ _ _ _ _ K (@pe_bm _ _ _ _ _ _ _ _ _ _ _ _ PySem.F.plainAttrs_list PySem.F.slot_list_append PySem.F.type_list_append mt_append (pv 7) (@pa_cons _ _ _ _ _ (@pe_op _ _ _ _ _ _ _ _ op_mul (pv 14) (@pe_ix _ _ _ _ _ _ _ (ixL K) (@pe_lst _ _ _ _ (@pa_cons _ _ _ _ _ pe_int (@pa_cons _ _ _ _ _ (@pe_op _ _ _ _ _ _ _ _ op_pow pe_int pe_int) pa_nil (by rfl)) (by rfl))) (pv 2) (fun _ _ => rfl))) pa_nil (by rfl)) (by rfl) (by rfl) (by rfl) (by rfl) (by rfl)) (by rfl)) (by rfl)))))) (by intro _; rfl)) (@pss_one _ _ _ (@ps_ret _ _ _ _ (@pe_op _ _ _ _ _ _ _ _ (catL K) (@pe_lst _ _ _ _ (@pa_cons _ _ _ _ _ pe_str (@pa_cons _ _ _ _ _ (@pe_callTy _ _ _ _ _ _ _ _ _ call_str_int (by rfl) T.n_str PyProof.Rows.boot_str (@pa_cons _ _ _ _ _ (pv 6) pa_nil (by rfl)) (by decide) (by decide) (by rfl) (by rfl)) pa_nil (by rfl)) (by rfl))) (@pe_comp _ _ _ _ _ _ _ ["number"] [] [] _ _ _ _ (compText_of (defScope s_law_row_of) ["web", "cell", "great", "c", "kind", "many", "rest", "numbers", "by_points", "drawn", "k", "one", "other", "length", "rise"]) rfl (@piL _ _ _ _ K (pv 7) (by rfl)) (fun _ _ _ _ => (pg_name (i := 0) (show (["number"] : List Str).Nodup by decide +kernel) rfl (Or.inl rfl))) (fun _ _ _ _ => pts_nil) (fun _ _ _ _ => (pe_callTy call_str_int (by rfl) T.n_str PyProof.Rows.boot_str (pa_cons (pv 0) pa_nil))) (by intro _; rfl))))))))))))))))))), ?_⟩
    refine hd_law_row_of ?_
    intro zz0 zz1 zz2 zz3 zz4 zz5 zz6 zz7 zz8 zz9 zz10 zz11 zz12 zz13 zz14 zz15 zz16 zz17 zz18 zz19 zz20 zz21 zz22
    obtain ⟨bt, xs, h1, h2, h3⟩ := id hw.ex
    have hxl := h3.length
    refine (exq rfl (ijq ⟨⟨by decide, by decide, by decide⟩, ijq ⟨⟨by decide, by decide, by decide⟩, ijq ⟨mulOk_of (by decide) (by decide), ijq ⟨(modC rfl), ?_⟩⟩⟩⟩))
    have c0 := (emod2 cell (10 ^ (60 : Int).toNat * 10 ^ (60 : Int).toNat) (by decide)).1
    dsimp only
    generalize cell % (10 ^ (60 : Int).toNat * 10 ^ (60 : Int).toNat) = c at c0
    obtain ⟨k0, k8⟩ := emod2 c 8 (by decide)
    have c8 : 0 ≤ c / 8 := Int.ediv_nonneg c0 (by decide)
    refine (exq rfl (ijq ⟨(modC rfl), ?_⟩))
    refine (exq rfl (ijq ⟨⟨by decide, by decide⟩, ?_⟩))
    dsimp only
    generalize c % 8 = kd at k0 k8
    generalize c / 8 = d at c8
    refine (exq rfl (ixq (SqT.of h1) (atI_nat (j := 1) rfl) ⟨bt, xs, rfl, .inr (SqT.of h2), ?_⟩))
    rw [hxl]
    refine (exq rfl (ijq (exq rfl (ite2 (fun hk => ?_) (fun hk => ?_)))))
    · have hk := of_decide_eq_true hk
      refine ⟨dl rfl, fun l1 hl1 => ?_⟩
      have s1 := Same.new (o := .lst [.str "lengths"]) hl1
      have e1 : upd H l1 (.lst [.str "lengths"]) l1 = some (.lst [.str "lengths"]) := upd_same
      generalize upd H l1 (.lst [.str "lengths"]) = H1 at s1 e1
      refine ⟨dl rfl, fun l2 hl2 => ?_⟩
      have s2 := Same.new (o := .lst [.str "base"]) hl2
      have e2 : upd H1 l2 (.lst [.str "base"]) l2 = some (.lst [.str "base"]) := upd_same
      have e12 := s2 _ _ e1
      generalize upd H1 l2 (.lst [.str "base"]) = H2 at s2 e2 e12
      refine ⟨dl rfl, fun l3 hl3 => ?_⟩
      have s3 := Same.new (o := .lst [.str "forests"]) hl3
      have e3 : upd H2 l3 (.lst [.str "forests"]) l3 = some (.lst [.str "forests"]) := upd_same
      have e13 := s3 _ _ e12
      have e23 := s3 _ _ e2
      generalize upd H2 l3 (.lst [.str "forests"]) = H3 at s3 e3 e13 e23
      refine ⟨dl rfl, fun l4 hl4 => ?_⟩
      have s4 := Same.new (o := .lst [.ref l1, .ref l2, .ref l3]) hl4
      have s04 := ((s1.trans s2).trans s3).trans s4
      have hkd : kd = 0 ∨ kd = 1 ∨ kd = 2 := by (first | lia | omega)
      rcases hkd with rfl | rfl | rfl
      · exact (exq rfl (ixl (v := .ref l1) (SqL.of upd_same) (atI_nat (j := 0) rfl) (q l1 "lengths" [] _ hl1 s04 (s4 _ _ e13) (.bare (.inl rfl)))))
      · exact (exq rfl (ixl (v := .ref l2) (SqL.of upd_same) (atI_nat (j := 1) rfl) (q l2 "base" [] _ (s1.free hl2) s04 (s4 _ _ e23) (.bare (.inr (.inl rfl))))))
      · exact (exq rfl (ixl (v := .ref l3) (SqL.of upd_same) (atI_nat (j := 2) rfl) (q l3 "forests" [] _ ((s1.trans s2).free hl3) s04 (s4 _ _ e3) (.bare (.inr (.inr rfl))))))
    have hk := of_decide_eq_false (Bool.eq_false_iff.mpr hk)
    refine (exq rfl (ijq (exq rfl (ite2 (fun hk6 => ?_) (fun hk6 => ?_)))))
    · have hk6 := of_decide_eq_true hk6
      obtain ⟨x, hat, hx⟩ := pickW hk hk6
      refine ⟨dl rfl, fun l1 hl1 => ?_⟩
      have s1 := Same.new (o := .lst [.str "even", .str "cut", .str "odd"]) hl1
      have e1 : upd H l1 (.lst [.str "even", .str "cut", .str "odd"]) l1 = some (.lst [.str "even", .str "cut", .str "odd"]) := upd_same
      generalize upd H l1 (.lst [.str "even", .str "cut", .str "odd"]) = H1 at s1 e1
      refine (exq rfl (ijq (ixl (v := .str x) (SqL.of e1) (hat) ⟨dl rfl, fun l2 hl2 => ?_⟩)))
      have s2 := Same.new (o := .lst [.str x]) hl2
      have e2 : upd H1 l2 (.lst [.str x]) l2 = some (.lst [.str x]) := upd_same
      generalize upd H1 l2 (.lst [.str x]) = H2 at s2 e2
      refine (exq rfl (exq rfl ⟨(by (first | lia | omega)), (by (first | lia | omega)), fun D hD => comp_range (lo := 0) (m := ((ts.length : Nat) : Int).toNat) (fun i acc H3 => Same H2 H3 ∧ H3 D = some (.lst acc) ∧ ∃ ks : List Nat, acc = (ks.map Tx.numS).map V.str ∧ ks.length ≤ i ∧ Up i ks) ⟨Same.new hD, upd_same, [], rfl, Nat.le_refl _, (fun _ _ e => nomatch e), fun _ _ _ e => nomatch e⟩ ?_ (by rw [Int.toNat_natCast]; exact small24 (by (first | lia | omega))) ?_ ?_⟩))
      · rintro i acc H3 _ ⟨s3, e3, ks, rfl, kl, _⟩
        exact ⟨e3, by rw [List.length_map, List.length_map]; exact kl⟩
      · rintro i acc H3 hi ⟨s3, e3, ks, rfl, kl, up⟩
        rw [Int.zero_add]
        refine ⟨rfl, exq rfl (exq rfl (ijq ⟨(by (first | lia | omega)), ijq ⟨(modC rfl), rfl, exq rfl (?_)⟩⟩))⟩
        refine ite2 (fun _ => ?_) (fun _ => ?_)
        · refine (exq rfl ⟨(i : Int), rfl, log_small (Nat.lt_of_lt_of_le hi (by rw [Int.toNat_natCast]; exact Nat.le_trans h9 (by decide))), e3, s3.put hD, upd_same, ks ++ [i], ?_, ?_, up_snoc up⟩)
          · rw [List.map_append, List.map_append]
            rfl
          · rw [List.length_append, List.length_singleton]
            (first | lia | omega)
        · exact ⟨s3, e3, ks, rfl, Nat.le_succ_of_le kl, up_mono up⟩
      · rintro acc H3 ⟨s3, e3, ks, rfl, kl, up⟩
        rw [Int.toNat_natCast] at kl up
        refine ⟨l2, D, [.str x], _, rfl, rfl, SqL.of (s3 _ _ e2), SqL.of e3, ?_, fun l4 hl4 => ?_⟩
        · rw [List.length_map, List.length_map]
          exact dl (Nat.ble_eq.mpr (by show 1 + ks.length ≤ 1000; (first | lia | omega)))
        · have s03 := (s1.trans s2).trans s3
          refine q l4 x (castI ks) _ (s03.free hl4) (s03.trans (Same.new hl4)) ?_ (.ties hx up (by (first | lia | omega)))
          have ekv : askV x (castI ks) = [.str x] ++ (ks.map Tx.numS).map V.str := by
            unfold askV castI
            rw [List.map_cons, List.map_map, List.map_map, List.map_map]
            rfl
          rw [ekv]
          exact upd_same
    have hk6 := of_decide_eq_false (Bool.eq_false_iff.mpr hk6)
    obtain ⟨r0, hat, hr1, hr60⟩ := pickR d
    refine (ijq ⟨⟨by decide, by decide, by decide⟩, dl rfl, fun l hl => (exq rfl (ijq ⟨(modC rfl), ixl (SqL.of upd_same) (hat) (?_)⟩))⟩)
    have s1 := Same.new (o := .lst [.int 0, .int 0, .int 2, .int 3, .int 4, .int 5, .int 6, .int 8, .int (10 ^ (59 : Int).toNat)]) hl
    generalize upd H l (.lst [.int 0, .int 0, .int 2, .int 3, .int 4, .int 5, .int 6, .int 8, .int (10 ^ (59 : Int).toNat)]) = H1 at s1
    refine (exq rfl (ijq ⟨⟨by decide, by decide⟩, dl rfl, fun N hN => ?_⟩))
    have s2 := Same.new (o := .lst []) hN
    have eN : upd H1 N (.lst []) N = some (.lst []) := upd_same
    generalize upd H1 N (.lst []) = H2 at s2 eN
    refine (exq rfl (ijq ⟨(modC rfl), rfl, ?_⟩))
    generalize decide (V.int (d / 9 % 2) = V.int 0) = bp
    refine (exq rfl (ijq ⟨⟨by decide, by decide⟩, dl rfl, fun D hD => ?_⟩))
    have nDN : D ≠ N := fun e => by rw [e, eN] at hD; cases hD
    have s3 := Same.new (o := .lst []) hD
    have eD : upd H2 D (.lst []) D = some (.lst []) := upd_same
    have eN3 := s3 _ _ eN
    have s13 : Same H1 (upd H2 D (.lst [])) := s2.trans s3
    generalize upd H2 D (.lst []) = H3 at s3 eD eN3 s13
    refine (exq rfl (exq rfl (ixq (SqT.of (s13 _ _ (s1 _ _ h1))) (atI_nat (j := 0) rfl) (ijq (?_)))))
    refine (exq rfl ⟨(by (first | lia | omega)), (by (first | lia | omega)), ?_⟩)
    refine for_range (lo := 0) (n := (((ts.length : Nat) : Int) + (p : Int)).toNat) (fun i σ H4 => ∃ (c' : Int) (ds : List Int) (v10 : Option V), σ = [some (.ref wb), some (.int cell), some (.int (gr : Int)), some (.int c'), some (.int kd), some (.int ((ts.length : Nat) : Int)), some (.int (r0 : Int)), some (.ref N), some (.bl bp), some (.ref D), v10, none, none, none, none] ∧ Same H1 H4 ∧ H4 N = some (.lst []) ∧ H4 D = some (.lst (intsV ds)) ∧ ds.length = i ∧ ∀ y ∈ ds, -2 ≤ y ∧ y ≤ 2) ⟨_, [], none, rfl, s13, eN3, eD, rfl, fun _ h => nomatch h⟩ ?_ ?_
    · rintro i σ H4 hi ⟨c', ds, v10, rfl, s4, eN4, eD4, dl4, hds⟩
      obtain ⟨f0, f1⟩ := emod2 c' 5 (by decide)
      refine (exq rfl ⟨.inl ⟨rfl, _, SqL.of eD4⟩, exq rfl (ijq ⟨(modC rfl), ijq ⟨D, _, _, rfl, rfl, eD4, small1000 (by unfold intsV; rw [List.length_map]; (first | lia | omega)), ?_⟩⟩)⟩)
      refine (exq rfl (ijq ⟨⟨by decide, by decide⟩, _, ds ++ [c' % 5 - 2], _, rfl, s4.put (s2.free hD), ?_, ?_, ?_, ?_⟩))
      · rw [upd_ne (Ne.symm nDN)]
        exact eN4
      · unfold intsV
        rw [List.map_append]
        exact upd_same
      · rw [List.length_append, List.length_singleton, dl4]
      · intro y hy
        rcases List.mem_append.mp hy with hy | hy
        · exact hds y hy
        · rw [List.mem_singleton.mp hy]
          (first | lia | omega)
    · rintro σ H4 ⟨c', ds, v10, rfl, s4, eN4, eD4, dl4, hds⟩
      refine (exq rfl (exq rfl ⟨(by (first | lia | omega)), (by (first | lia | omega)), ?_⟩))
      refine for_range (lo := 0) (n := ((ts.length : Nat) : Int).toNat) (fun i σ H5 => ∃ (zs : List Int) (v10 v11 v12 v13 v14 : Option V), σ = [some (.ref wb), some (.int cell), some (.int (gr : Int)), some (.int c'), some (.int kd), some (.int ((ts.length : Nat) : Int)), some (.int (r0 : Int)), some (.ref N), some (.bl bp), some (.ref D), v10, v11, v12, v13, v14] ∧ Same H1 H5 ∧ H5 N = some (.lst (intsV zs)) ∧ H5 D = some (.lst (intsV ds)) ∧ zs.length = i ∧ ∀ y ∈ zs, y.natAbs < 10 ^ 60) ⟨[], v10, none, none, none, none, rfl, s4, eN4, eD4, rfl, fun _ h => nomatch h⟩ ?_ ?_
      · rintro i σ H5 hi ⟨zs, v10, v11, v12, v13, v14, rfl, s5, eN5, eD5, zl5, hzs⟩
        rw [Int.zero_add]
        have hi : i < ts.length := by (first | lia | omega)
        obtain ⟨t, ht⟩ : ∃ t, ts[i]? = some t := ⟨ts[i], List.getElem?_eq_getElem hi⟩
        have gt := g.ties t (List.mem_of_getElem? ht)
        obtain ⟨xv, hxv⟩ : ∃ xv, xs[i]? = some xv := ⟨xs[i]'(by (first | lia | omega)), List.getElem?_eq_getElem (by (first | lia | omega))⟩
        obtain ⟨t2, ht2, b, rfl, hb⟩ := Paired.getP h3 hxv
        obtain rfl : t = t2 := Option.some.inj (ht.symm.trans ht2)
        have a0 := gt.a0
        have a1 := gt.a1
        have b0 := gt.b0
        have b1 := gt.b1
        have sH5 := s1.trans s5
        obtain ⟨mm, hmat, hmm⟩ := pickM hgr
        have hdl : ∀ j : Nat, j < ts.length + p → (intsV ds)[j]? = some (.int (ds.getD j 0)) ∧ -2 ≤ ds.getD j 0 ∧ ds.getD j 0 ≤ 2 := fun j hj => by
          have hj' : j < ds.length := by (first | lia | omega)
          refine ⟨ints_at hj', ?_⟩
          have e : ds.getD j 0 = ds[j] := by rw [List.getD_eq_getElem?_getD, List.getElem?_eq_getElem hj']; rfl
          rw [e]
          exact hds _ (List.getElem_mem hj')
        obtain ⟨o1, o2, o3⟩ := t
        refine (exq rfl (ixq (SqT.of (sH5 _ _ h1)) (atI_nat (j := 1) rfl) (exq rfl (ixq (v := .ref b) (SqT.of (sH5 _ _ h2)) (atI_nat (j := i) hxv) ⟨b, _, rfl, SqT.of (sH5 _ _ hb), rfl, _, _, rfl, _, _, rfl, _, _, rfl, rfl, ?_⟩))))
        obtain ⟨y1, y2, y3⟩ := hdl i (by (first | lia | omega))
        refine (exq rfl (exq rfl (ixl (SqL.of eD5) (atI_nat (j := i) y1) (?_))))
        have fin : ∀ (E : Ends) (ri : Int), -4 ≤ ri → ri ≤ 4 → (∀ H6, Same H1 H6 → H6 N = some (.lst (intsV (zs ++ [ri * (mm : Int)]))) → H6 D = some (.lst (intsV ds)) → E.nx [some (.ref wb), some (.int cell), some (.int (gr : Int)), some (.int c'), some (.int kd), some (.int ((ts.length : Nat) : Int)), some (.int (r0 : Int)), some (.ref N), some (.bl bp), some (.ref D), some (.int (i : Int)), some (.int o1), some (.int o2), some (.int o3), some (.int ri)] H6) → zz1 E [some (.ref wb), some (.int cell), some (.int (gr : Int)), some (.int c'), some (.int kd), some (.int ((ts.length : Nat) : Int)), some (.int (r0 : Int)), some (.ref N), some (.bl bp), some (.ref D), some (.int (i : Int)), some (.int o1), some (.int o2), some (.int o3), some (.int ri)] H5 := by
          intro E ri ri0 ri1 k
          refine (exq rfl ⟨.inl ⟨rfl, _, SqL.of eN5⟩, exq rfl (ijq ⟨⟨by decide, by decide, by decide⟩, dl rfl, fun l6 hl6 => ?_⟩)⟩)
          have s6 := Same.new (o := .lst [.int 1, .int (10 ^ (59 : Int).toNat)]) hl6
          have e6 : upd H5 l6 (.lst [.int 1, .int (10 ^ (59 : Int).toNat)]) l6 = some (.lst [.int 1, .int (10 ^ (59 : Int).toNat)]) := upd_same
          generalize upd H5 l6 (.lst [.int 1, .int (10 ^ (59 : Int).toNat)]) = H6 at s6 e6
          have eN6 := s6 _ _ eN5
          refine (exq rfl (ixl (SqL.of e6) (hmat) ⟨ri, (mm : Int), rfl, rfl, .inl ⟨by (first | lia | omega), by (first | lia | omega)⟩, N, intsV zs, _, rfl, rfl, eN6, small1000 (by unfold intsV; rw [List.length_map]; (first | lia | omega)), k _ ((s5.trans s6).put hN) ?_ ?_⟩))
          · unfold intsV
            rw [List.map_append]
            exact upd_same
          · rw [upd_ne nDN]
            exact s6 _ _ eD5
        have inv : ∀ ri : Int, -4 ≤ ri → ri ≤ 4 → ∀ y ∈ zs ++ [ri * (mm : Int)], y.natAbs < 10 ^ 60 := fun ri q0 q1 y hy => by
          rcases List.mem_append.mp hy with hy | hy
          · exact hzs y hy
          · rw [List.mem_singleton.mp hy]
            exact rise_lt q0 q1 hmm
        have zl6 : ∀ ri : Int, (zs ++ [ri * (mm : Int)]).length = i + 1 := fun ri => by rw [List.length_append, List.length_singleton, zl5]
        refine (exq rfl (exq rfl (ite2 (fun _ => ?_) (fun _ => ?_))))
        · have u1 : ((ts.length : Nat) : Int) + o2 = ((ts.length + o2.toNat : Nat) : Int) := by have b0 : 0 ≤ o2 := b0; (first | lia | omega)
          have u2 : ((ts.length : Nat) : Int) + o1 = ((ts.length + o1.toNat : Nat) : Int) := by have a0 : 0 ≤ o1 := a0; (first | lia | omega)
          obtain ⟨w1, w2, w3⟩ := hdl (ts.length + o2.toNat) (by have b1 : o2 < (p : Int) := b1; have b0 : 0 ≤ o2 := b0; (first | lia | omega))
          obtain ⟨x1, x2, x3⟩ := hdl (ts.length + o1.toNat) (by have a1 : o1 < (p : Int) := a1; have a0 : 0 ≤ o1 := a0; (first | lia | omega))
          refine (exq rfl (exq rfl (exq rfl (ijq (ixl (SqL.of eD5) ((by rw [show (o1, o2, o3).snd.fst = o2 from rfl, u1]; exact atI_nat w1)) (?_))))))
          refine (exq rfl (exq rfl (exq rfl (ijq (ixl (SqL.of eD5) ((by rw [show (o1, o2, o3).fst = o1 from rfl, u2]; exact atI_nat x1)) (ijq (?_)))))))
          exact fin _ _ (by (first | lia | omega)) (by (first | lia | omega)) fun H6 q1 q2 q3 => ⟨_, _, _, _, _, _, rfl, q1, q2, q3, zl6 _, inv _ (by (first | lia | omega)) (by (first | lia | omega))⟩
        · exact fin _ _ (by (first | lia | omega)) (by (first | lia | omega)) fun H6 q1 q2 q3 => ⟨_, _, _, _, _, _, rfl, q1, q2, q3, zl6 _, inv _ (by (first | lia | omega)) (by (first | lia | omega))⟩
      · rintro σ H5 ⟨zs, v10, v11, v12, v13, v14, rfl, s5, eN5, eD5, zl5, hzs⟩
        rw [Int.toNat_natCast] at zl5
        have e5 : (intsV zs).length = zs.length := by unfold intsV; rw [List.length_map]
        refine (exq rfl ⟨(r0 : Int), rfl, log_small hr60, dl rfl, fun l6 hl6 => ?_⟩)
        have s6 := Same.new (o := .lst [.str "heights", .str (Tx.numS r0)]) hl6
        have e6 : upd H5 l6 (.lst [.str "heights", .str (Tx.numS r0)]) l6 = some (.lst [.str "heights", .str (Tx.numS r0)]) := upd_same
        have eN6 := s6 _ _ eN5
        have eH : upd H5 l6 (.lst [.str "heights", .str (Tx.numS r0)]) = upd H5 l6 (.lst [.str "heights", .str (Str.ofString (toString (r0 : Int)))]) := rfl
        rw [← eH]
        generalize upd H5 l6 (.lst [.str "heights", .str (Tx.numS r0)]) = H6 at s6 e6 eN6
        refine (exq rfl ⟨N, rfl, ⟨_, SqL.of eN6⟩, fun C hC => comp_list (xs := intsV zs) (fun i acc H7 => Same H6 H7 ∧ H7 C = some (.lst acc) ∧ acc = ((zs.take i).map Tx.intS).map V.str) ⟨Same.new hC, upd_same, rfl⟩ ?_ (by rw [e5]; exact small24 (by (first | lia | omega))) ?_ ?_⟩)
        · rintro i acc H7 _ ⟨s7, e7, rfl⟩
          refine ⟨SqL.of (s7 _ _ eN6), e7, ?_⟩
          rw [List.length_map, List.length_map, List.length_take]
          exact Nat.min_le_left _ _
        · rintro i y acc H7 hy ⟨s7, e7, rfl⟩
          obtain ⟨z, hz, rfl⟩ := Option.map_eq_some_iff.mp (show zs[i]?.map V.int = some y by rw [← List.getElem?_map]; exact hy)
          refine ⟨rfl, exq rfl ⟨z, rfl, log_int (hzs z (List.mem_of_getElem? hz)), e7, s7.put hC, upd_same, ?_⟩⟩
          rw [List.take_add_one, hz, Option.toList_some, List.map_append, List.map_append]
          rfl
        · rintro acc H7 ⟨s7, e7, rfl⟩
          rw [e5, List.take_length] at e7
          refine ⟨l6, C, [.str "heights", .str (Tx.numS r0)], _, rfl, rfl, SqL.of (s7 _ _ e6), SqL.of e7, ?_, fun l8 hl8 => ?_⟩
          · rw [List.length_map, List.length_map]
            exact dl (Nat.ble_eq.mpr (by show 2 + zs.length ≤ 1000; (first | lia | omega)))
          · have s07 := ((s1.trans s5).trans s6).trans s7
            exact q l8 "heights" ((r0 : Int) :: zs) _ (s07.free hl8) (s07.trans (Same.new hl8)) upd_same (.heights hr1 hr60 (by (first | lia | omega)) hzs)
end

def RowV (H : Hp) (v : V) (q : Ask) : Prop := ∃ l, v = .ref l ∧ H l = some (.lst (askV q.1 q.2))
def RowR (R : Addr) (H : Hp) (v : V) (q : Ask) : Prop := ∃ l, v = .ref l ∧ l ≠ R ∧ H l = some (.lst (askV q.1 q.2))
theorem RowR.same {R : Addr} {H H' : Hp} {v : V} {q : Ask} (s : Same H H') (h : RowR R H v q) : RowR R H' v q := by
  obtain ⟨l, e, n, h1⟩ := h
  exact ⟨l, e, n, s _ _ h1⟩
theorem RowR.put {R : Addr} {H : Hp} {v : V} {q : Ask} {o : HO} (h : RowR R H v q) : RowR R (upd H R o) v q := by
  obtain ⟨l, e, n, h1⟩ := h
  exact ⟨l, e, n, by rw [upd_ne n]; exact h1⟩
theorem RowR.w {R : Addr} {H : Hp} {v : V} {q : Ask} (h : RowR R H v q) : RowV H v q := by
  obtain ⟨l, e, _, h1⟩ := h
  exact ⟨l, e, h1⟩
def sp_page (K : PySem.W.Frag) : Sp := fun vs H Q _ => ∃ (a : Addr) (ns : List Int), vs = [.ref a, .int 9] ∧ SqL K H a (ns.map V.int) ∧ ns.length ≤ 63 ∧
  ∀ r wb R p ts xs as H', Same H H' → H' r = some (.tup [.ref wb, .ref R]) → GoodWeb p ts → p ≤ 6 → ts.length ≤ 9 → WebAt H' wb p ts → H' R = some (.lst xs) → Paired (RowV H') xs as → AsksOk ts.length as → as.length ≤ 5 → Q (.ref r) H'
section
variable {P : Program} {w : World} {K : PySem.W.Frag} {mg : Str → Option Value} {base : Heap} {a : Adr}
theorem G_law_page (T : Txt K mg a) : FnOk P w K mg base CX0 3 a.f_law_page a.d_law_page ["script", "most"] (sp_page K) := by
  have G_law_web : FnOk P w K mg base CX0 2 a.f_law_web a.d_law_web ["script", "most"] (sp_web K) := G_law_web T
  have G_law_cell : FnOk P w K mg base CX0 1 a.f_law_cell a.d_law_cell ["script", "k"] (sp_cell K) := G_law_cell T
  have G_law_stir : FnOk P w K mg base CX0 1 a.f_law_stir a.d_law_stir ["cell", "k"] sp_stir := G_law_stir T
  have G_law_row_of : FnOk P w K mg base CX0 1 a.f_law_row_of a.d_law_row_of ["web", "cell", "great"] sp_row_of := G_law_row_of T
  refine T.F_law_page.ok sc_law_page (fun vs H Q E h => ?_) (fun cdv A outer s H vs Q E hr h => ?_)
  · obtain ⟨b, ns, rfl, _⟩ := h
    rfl
  · obtain ⟨b, ns, rfl, hS, hn, q⟩ := h
    refine ⟨_, (@pss_cons _ _ _ _ _ (@ps_set _ _ 2 _ _ _ _ sc_law_page.nd rfl (Or.inl rfl) (@pe_call _ _ _ _ _ _ _ _ _ _ _ _ _ _ _ _ G_law_web (hr.mono (by decide)) (by rfl) T.m_law_web T.k_law_web T.b_law_web .nil pass0 (@pa_cons _ _ _ _ _ (pv 0) (@pa_cons _ _ _ _ _ (pv 1) pa_nil (by rfl)) (by rfl)) (by decide) (by rfl) (by rfl)) (by rfl) (by first | exact .inl rfl | exact .inr rfl | assumption)) (@pss_cons _ _ _ _ _ (@ps_set _ _ 3 _ _ _ _ sc_law_page.nd rfl (Or.inl rfl) (@pe_callTy _ _ _ _ _ _ _ _ _ call_int1 (by rfl) T.n_int PyProof.Rows.boot_int (@pa_cons _ _ _ _ _ (@pe_cmpR _ _ _ _ _ _ _ _ op_eq (@pe_op _ _ _ _ _ _ _ _ op_mod (@pe_op _ _ _ _ _ _ _ _ op_fdiv (@pe_op _ _ _ _ _ _ _ _ op_mod (@pe_call _ _ _ _ _ _ _ _ _ _ _ _ _ _ _ _ G_law_cell (hr.mono (by decide)) (by rfl) T.m_law_cell T.k_law_cell T.b_law_cell .nil pass0 (@pa_cons _ _ _ _ _ (pv 0) (@pa_cons _ _ _ _ _ pe_int pa_nil (by rfl)) (by rfl)) (by decide) (by rfl) (by rfl)) (@pe_op _ _ _ _ _ _ _ _ op_pow pe_int pe_int)) pe_int) pe_int) pe_int (nomark _)) pa_nil (by rfl)) (by decide) (by decide) (by rfl) (by rfl)) (by rfl) (by first | exact .inl rfl | exact .inr rfl | assumption)) (@pss_cons _ _ _ _ _ (@ps_set _ _ 4 _ _ _ _ sc_law_page.nd rfl (Or.inl rfl) (@pe_lst _ _ _ _ pa_nil) (by rfl) (by first | exact .inl rfl | exact .inr rfl | assumption)) (@pss_cons _ _ _ _ _ (@ps_for _ _ _ _ _ _ _ _ PassesOwn.never rfl (@pi_range2 _ _ _ _ _ _ _ (by rfl) T.n_range (@pa_cons _ _ _ _ _ pe_int (@pa_cons _ _ _ _ _ (@pe_callB _ _ _ _ _ _ _ _ _ (call_min2 rfl) (by rfl) T.n_min PyProof.Rows.boot_min (@pa_cons _ _ _ _ _ (@pe_callB _ _ _ _ _ _ _ _ _ (lenK K) (by rfl) T.n_len PySem.boot_len (@pa_cons _ _ _ _ _ (pv 0) pa_nil (by rfl)) (by decide) (by decide) (by rfl) (by rfl)) (@pa_cons _ _ _ _ _ pe_int pa_nil (by rfl)) (by rfl)) (by decide) (by decide) (by rfl) (by rfl)) pa_nil (by rfl)) (by rfl)) (by rfl) (by rfl)) (pg_name (i := 5) sc_law_page.nd rfl (Or.inl rfl)) (@pss_cons _ _ _ _ _ (@ps_set _ _ 6 _ _ _ _ sc_law_page.nd rfl (Or.inl rfl) (@pe_ix _ _ _ _ _ _ _ (ixL K) (pv 0) (pv 5) (fun _ _ => rfl)) (by rfl) (by first | exact .inl rfl | exact .inr rfl | assumption)) (@pss_cons _ _ _ _ _ (@ps_if _ _ _ _ _ _ _ _ (@pt_cmpR _ _ _ _ _ _ _ _ op_eq (@pe_op _ _ _ _ _ _ _ _ op_mod (pv 5) pe_int) pe_int (nomark _)) (@pss_one _ _ _ (@ps_set _ _ 6 _ _ _ _ sc_law_page.nd rfl (Or.inl rfl) (@pe_op _ _ _ _ _ _ _ _ op_mul (@pe_op _ _ _ _ _ _ _ _ op_mul (@pe_call _ _ _ _ _ _ _ _ _ _ _ _ _ _ _ _ G_law_stir (hr.mono (by decide)) (by rfl) T.m_law_stir T.k_law_stir T.b_law_stir .nil pass0 (@pa_cons _ _ _ _ _ (pv 6) (@pa_cons _ _ _ _ _ (pv 5) pa_nil (by rfl)) (by rfl)) (by decide) (by rfl) (by rfl)) (@pe_call _ _ _ _ _ _ _ _ _ _ _ _ _ _ _ _ G_law_stir (hr.mono (by decide)) (by rfl) T.m_law_stir T.k_law_stir T.b_law_stir .nil pass0 (@pa_cons _ _ _ _ _ (pv 6) (@pa_cons _ _ _ _ _ (@pe_op _ _ _ _ _ _ _ _ op_add (pv 5) pe_int) pa_nil (by rfl)) (by rfl)) (by decide) (by rfl) (by rfl))) (@pe_call _ _ _ _ _ _ _ _ _ _ _ _ _ _ _ _ G_law_stir (hr.mono (by decide)) (by rfl) T.m_law_stir T.k_law_stir T.b_law_stir .nil pass0 (@pa_cons _ _ _ _ _ (pv 6) (@pa_cons _ _ _ _ _ (@pe_op _ _ _ _ _ _ _ _ op_add (pv 5) pe_int) pa_nil (by rfl)) (by rfl)) (by decide) (by rfl) (by rfl))) (by rfl) (by first | exact .inl rfl | exact .inr rfl | assumption))) pss_nil) (@pss_one _ _ _ (@ps_expr _ _ _ _ (@bmK _ _ _ _ _ _ K (@pe_bm _ _ _ _ _ _ _ _ _ _ _ _ PySem.F.plainAttrs_list PySem.F.slot_list_append PySem.F.type_list_append mt_append (pv 4) (@pa_cons _ _ _ _ _ (@pe_call _ _ _ _ _ _ _ _ _ _ _ _ _ _ _ _ G_law_row_of (hr.mono (by decide)) (by rfl) T.m_law_row_of T.k_law_row_of T.b_law_row_of .nil pass0 (@pa_cons _ _ _ _ _ (pv 2) (@pa_cons _ _ _ _ _ (pv 6) (@pa_cons _ _ _ _ _ (pv 3) pa_nil (by rfl)) (by rfl)) (by rfl)) (by decide) (by rfl) (by rfl)) pa_nil (by rfl)) (by rfl) (by rfl) (by rfl) (by rfl) (by rfl)) (by rfl)) (by rfl))))) (by intro _; rfl)) (@pss_one _ _ _ (@ps_ret _ _ _ _ (@pe_tup _ _ _ _ _ (@pa_cons _ _ _ _ _ (pv 2) (@pa_cons _ _ _ _ _ (pv 4) pa_nil (by rfl)) (by rfl))))))))), ?_⟩
    refine hd_law_page ?_
    intro zz0 zz1 zz2 zz3 zz4 zz5 zz6 zz7
    refine (exq rfl (exq rfl ⟨b, ns, 9, rfl, hS, hn, by decide, fun wb p ts H1 s1 g p6 h9 hw => ?_⟩))
    refine (exq rfl ⟨b, ns, 0, rfl, s1.seq hS, fun z => ?_⟩)
    refine (ijq ⟨⟨by decide, by decide, by decide⟩, ijq ⟨(modC rfl), ijq ⟨⟨by decide, by decide⟩, ijq ⟨(modC rfl), rfl, ?_⟩⟩⟩⟩)
    refine .inr (exq rfl (?_))
    dsimp only
    generalize decide (V.int (z % 10 ^ Int.toNat 60 / 100 % 4) = V.int 1) = gb
    obtain ⟨gr, eg, hgr⟩ : ∃ gr : Nat, (if gb = true then (1 : Int) else 0) = (gr : Int) ∧ gr ≤ 1 := by
      cases gb
      · exact ⟨0, rfl, by decide⟩
      · exact ⟨1, rfl, by decide⟩
    rw [eg]
    refine ⟨dl rfl, fun R hR => ?_⟩
    have s2 := Same.new (o := .lst []) hR
    have eR : upd H1 R (.lst []) R = some (.lst []) := upd_same
    generalize upd H1 R (.lst []) = H2 at s2 eR
    have hml : (ns.map V.int).length = ns.length := List.length_map ..
    refine (exq rfl ⟨b, _, rfl, .inl ((s1.trans s2).seq hS), _, _, rfl, _, _, rfl, ⟨by decide, by decide, ?_, ?_⟩, ?_⟩)
    · rw [hml]; split <;> (first | lia | omega)
    · rw [hml]; split <;> (first | lia | omega)
    obtain ⟨m, hm0, hm1, hm2⟩ : ∃ m : Nat, ((if (6 : Int) < ((ns.map V.int).length : Int) then (6 : Int) else ((ns.map V.int).length : Int)) - 1).toNat = m ∧ m ≤ 5 ∧ (m = 0 ∨ m + 1 ≤ ns.length) := (exq rfl ⟨by rw [hml]; split <;> (first | lia | omega), by rw [hml]; split <;> (first | lia | omega)⟩)
    refine for_range (lo := 1) (n := _) (fun i σ H3 => ∃ (acc : List V) (as : List Ask) (v5 v6 : Option V), σ = [some (.ref b), some (.int 9), some (.ref wb), some (.int (gr : Int)), some (.ref R), v5, v6] ∧ Same H1 H3 ∧ H3 R = some (.lst acc) ∧ Paired (RowR R H3) acc as ∧ AsksOk ts.length as ∧ as.length = i) ⟨[], [], none, none, rfl, s2, eR, .nil, (fun _ h => nomatch h), rfl⟩ ?_ ?_
    · rintro i σ H3 hi ⟨acc, as, v5, v6, rfl, s3, eR3, pr, ok, al⟩
      have hi : i < m := by rw [← hm0]; exact hi
      have hal := pr.length
      have row : ∀ (E : Ends) (cz : Int), (∀ acc' as' H6, Same H1 H6 → H6 R = some (.lst acc') → Paired (RowR R H6) acc' as' → AsksOk ts.length as' → as'.length = i + 1 → E.nx [some (.ref b), some (.int 9), some (.ref wb), some (.int (gr : Int)), some (.ref R), some (.int (1 + (i : Int))), some (.int cz)] H6) → zz1 E [some (.ref b), some (.int 9), some (.ref wb), some (.int (gr : Int)), some (.ref R), some (.int (1 + (i : Int))), some (.int cz)] H3 := by
        intro E cz k
        refine (exq rfl ⟨.inl ⟨rfl, _, SqL.of eR3⟩, exq rfl (exq rfl (exq rfl ⟨wb, p, ts, cz, gr, rfl, hgr, hw.same s3, g, p6, h9, fun l x zs H6 hl s6 e6 okx => ?_⟩))⟩)
        have nl : l ≠ R := fun e => by rw [e, eR3] at hl; cases hl
        refine ⟨R, acc, _, rfl, rfl, s6 _ _ eR3, small1000 (by (first | lia | omega)), k (acc ++ [.ref l]) (as ++ [(x, zs)]) _ ((s3.trans s6).put hR) upd_same ?_ ?_ ?_⟩
        · exact Paired.snoc (Paired.imp' (fun _ _ y => RowR.put (RowR.same s6 y)) pr) (RowR.put ⟨l, rfl, nl, e6⟩)
        · intro y hy
          rcases List.mem_append.mp hy with hy | hy
          · exact ok y hy
          · rw [List.mem_singleton.mp hy]
            exact okx
        · rw [List.length_append, List.length_singleton, al]
      refine (exq rfl (exq rfl ⟨b, _, 1 + (i : Int), .int (ns.getD (i + 1) 0), rfl, rfl, (s1.trans s3).seq hS, ?_, ?_⟩))
      · rw [show (1 : Int) + (i : Int) = ((i + 1 : Nat) : Int) by (first | lia | omega)]
        exact atI_nat (ints_at (by (first | lia | omega)))
      refine (exq rfl (ijq ⟨(modC rfl), rfl, exq rfl (ite2 (fun _ => ?_) (fun _ => ?_))⟩))
      · refine (exq rfl (exq rfl ⟨_, _, rfl, fun z1 u1 u2 => ?_⟩))
        refine (exq rfl (exq rfl (ijq ⟨_, _, rfl, fun z2 u3 u4 => ⟨z1, z2, rfl, rfl, .inl ⟨by (first | lia | omega), by (first | lia | omega)⟩, ?_⟩⟩)))
        refine (exq rfl (exq rfl (ijq ⟨_, _, rfl, fun z3 u5 u6 => ⟨z1 * z2, z3, rfl, rfl, .inr ⟨by (first | lia | omega), by (first | lia | omega)⟩, ?_⟩⟩)))
        exact row _ _ fun acc' as' H6 q1 q2 q3 q4 q5 => ⟨acc', as', _, _, rfl, q1, q2, q3, q4, q5⟩
      · exact row _ _ fun acc' as' H6 q1 q2 q3 q4 q5 => ⟨acc', as', _, _, rfl, q1, q2, q3, q4, q5⟩
    · rintro σ H3 ⟨acc, as, v5, v6, rfl, s3, eR3, pr, ok, al⟩
      have al : as.length = m := by rw [← hm0]; exact al
      refine (exq rfl (exq rfl ⟨dl rfl, fun r hr' => ?_⟩))
      have s4 := Same.new (o := .tup [.ref wb, .ref R]) hr'
      exact q r wb R p ts acc as _ ((s1.trans s3).trans s4) upd_same g p6 h9 (hw.same (s3.trans s4)) (s4 _ _ eR3) (Paired.imp' (fun _ _ y => (RowR.same s4 y).w) pr) ok (by (first | lia | omega))
end

theorem tie_blank : ("tie " : Str) = ("tie" : Str) ++ (" " : Str) := by decide +kernel
theorem points_blank : ("points " : Str) = ("points" : Str) ++ (" " : Str) := by decide +kernel
theorem row_tie (t : Tie) : rowS "tie" (natT t) = ("tie " : Str) ++ Tx.numS t.1.toNat ++ (" " : Str) ++ Tx.numS t.2.1.toNat ++ (" " : Str) ++ Tx.numS t.2.2.toNat := by
  unfold rowS natT
  show Builtin.Str.glued _ _ = _
  rw [PySem.StrLaws.glued_eq_join, tie_blank]
  show ("tie" : Str) ++ (" " : Str) ++ (Tx.numS t.1.toNat ++ (" " : Str) ++ (Tx.numS t.2.1.toNat ++ (" " : Str) ++ Tx.numS t.2.2.toNat)) = _
  simp only [PySem.Str.append_assoc]
theorem row_points (p : Nat) : rowS "points" [p] = ("points " : Str) ++ Tx.numS p := by
  unfold rowS
  show Builtin.Str.glued _ _ = _
  rw [PySem.StrLaws.glued_eq_join, points_blank]
  rfl
theorem big12 : 12000 ≤ sizeLine := by decide
def sp_text : Sp := fun vs H Q _ => ∃ (wb R : Addr) (p : Nat) (ts : List Tie) (xs : List V) (as : List Ask), vs = [.ref wb, .ref R] ∧ WebAt H wb p ts ∧ GoodWeb p ts ∧ ts.length ≤ 9 ∧ H R = some (.lst xs) ∧ Paired (RowV H) xs as ∧ AsksOk ts.length as ∧ as.length ≤ 5 ∧ ∀ l H', Same H H' → H' l = some (.lst ((pageL p ts as).map V.str)) → Q (.ref l) H'
section
variable {P : Program} {w : World} {K : PySem.W.Frag} {mg : Str → Option Value} {base : Heap} {a : Adr}
theorem G_law_text (T : Txt K mg a) : FnOk P w K mg base CX0 1 a.f_law_text a.d_law_text ["web", "rows"] sp_text := by
  refine T.F_law_text.ok sc_law_text (fun vs H Q E h => ?_) (fun cdv A outer s H vs Q E hr h => ?_)
  · obtain ⟨wb, R, p, ts, xs, as, rfl, _⟩ := h
    rfl
  · obtain ⟨wb, R, p, ts, ys, as, rfl, hw, g, h9, hR, pr, ok, a5, q⟩ := h
    refine ⟨_, (@pss_cons _ _ _ _ _ (@ps_set _ _ 2 _ _ _ _ sc_law_text.nd rfl (Or.inl rfl) (@pe_lst _ _ _ _ (@pa_cons _ _ _ _ _ (@pe_op _ _ _ _ _ _ _ _ op_add_str pe_str (@pe_callTy _ _ _ _ _ _ _ _ _ call_str_int (by rfl) T.n_str PyProof.Rows.boot_str (@pa_cons _ _ _ _ _ (@pe_ix _ _ _ _ _ _ _ (ixT K) (pv 0) pe_int (fun _ _ => rfl)) pa_nil (by rfl)) (by decide) (by decide) (by rfl) (by rfl))) pa_nil (by rfl))) (by rfl) (by first | exact .inl rfl | exact .inr rfl | assumption)) (@pss_cons _ _ _ _ _ (@ps_for _ _ _ _ _ _ _ _ PassesOwn.never rfl (@piT _ _ _ _ K (@pe_ix _ _ _ _ _ _ _ (ixT K) (pv 0) pe_int (fun _ _ => rfl)) (by rfl)) (@pgT _ _ K _ _ 3 _ rfl (@pgs_cons _ _ _ _ _ (pg_name (i := 3) sc_law_text.nd rfl (Or.inl rfl)) (@pgs_cons _ _ _ _ _ (pg_name (i := 4) sc_law_text.nd rfl (Or.inl rfl)) (@pgs_cons _ _ _ _ _ (pg_name (i := 5) sc_law_text.nd rfl (Or.inl rfl)) pgs_nil (by rfl)) (by rfl)) (by rfl)) (by rfl) (by rfl) (by rfl)) (@pss_one _ _ _ (@ps_expr _ _ _ _ (@bmK _ _ _ _ _ _ K (@pe_bm _ _ _ _ _ _ _ _ _ _ _ _ PySem.F.plainAttrs_list PySem.F.slot_list_append PySem.F.type_list_append mt_append (pv 2) (@pa_cons _ _ _ _ _ (@pe_op _ _ _ _ _ _ _ _ op_add_str (@pe_op _ _ _ _ _ _ _ _ op_add_str (@pe_op _ _ _ _ _ _ _ _ op_add_str (@pe_op _ _ _ _ _ _ _ _ op_add_str (@pe_op _ _ _ _ _ _ _ _ op_add_str pe_str (@pe_callTy _ _ _ _ _ _ _ _ _ call_str_int (by rfl) T.n_str PyProof.Rows.boot_str (@pa_cons _ _ _ _ _ (pv 3) pa_nil (by rfl)) (by decide) (by decide) (by rfl) (by rfl))) pe_str) (@pe_callTy _ _ _ _ _ _ _ _ _ call_str_int (by rfl) T.n_str PyProof.Rows.boot_str (@pa_cons _ _ _ _ _ (pv 4) pa_nil (by rfl)) (by decide) (by decide) (by rfl) (by rfl))) pe_str) (@pe_callTy _ _ _ _ _ _ _ _ _ call_str_int (by rfl) T.n_str PyProof.Rows.boot_str (@pa_cons _ _ _ _ _ (pv 5) pa_nil (by rfl)) (by decide) (by decide) (by rfl) (by rfl))) pa_nil (by rfl)) (by rfl) (by rfl) (by rfl) (by rfl) (by rfl)) (by rfl)) (by rfl))) (by intro _; rfl)) (@pss_one _ _ _ (@ps_ret _ _ _ _ (@pe_op _ _ _ _ _ _ _ _ (catL K) (pv 2) (@pe_comp _ _ _ _ _ _ _ ["words"] [] [] _ _ _ _ (compText_of (defScope s_law_text) ["web", "rows", "ahead", "one", "other", "length"]) rfl (@piL _ _ _ _ K (pv 1) (by rfl)) (fun _ _ _ _ => (pg_name (i := 0) (show (["words"] : List Str).Nodup by decide +kernel) rfl (Or.inl rfl))) (fun _ _ _ _ => pts_nil) (fun _ _ _ _ => (bmK K (pe_bm PySem.F.plainAttrs_str PySem.F.slot_str_join PySem.F.type_str_join (mt_join K) pe_str (pa_cons (pv 0) pa_nil)))) (by intro _; rfl))))))), ?_⟩
    refine hd_law_text ?_
    intro zz0 zz1 zz2
    obtain ⟨bt, xs, h1, h2, h3⟩ := id hw.ex
    have hxl := h3.length
    have g2 := g.p2
    have big := big12
    have plt : p < 10 ^ 60 := Nat.lt_of_le_of_lt g2 (by decide)
    have pl := Tx.num_len_le (k := 60) (by decide) plt
    refine (exq rfl (ixq (SqT.of h1) (atI_nat (j := 0) rfl) ⟨(p : Int), rfl, log_small plt, ("points " : Str), Tx.numS p, rfl, rfl, ?_, ?_⟩))
    · have : ("points " : Str).length = 7 := by decide +kernel
      (first | lia | omega)
    rw [← row_points]
    refine ⟨dl rfl, fun L hL => ?_⟩
    have s1 := Same.new (o := .lst [.str (rowS "points" [p])]) hL
    have e1 : upd H L (.lst [.str (rowS "points" [p])]) L = some (.lst [.str (rowS "points" [p])]) := upd_same
    generalize upd H L (.lst [.str (rowS "points" [p])]) = H1 at s1 e1
    refine (exq rfl (ixq (SqT.of (s1 _ _ h1)) (atI_nat (j := 1) rfl) ⟨bt, rfl, ⟨_, SqT.of (s1 _ _ h2)⟩, for_tup (K := K) (a := bt) (xs := xs) (fun i σ H2 => ∃ v3 v4 v5, σ = [some (.ref wb), some (.ref R), some (.ref L), v3, v4, v5] ∧ Same H H2 ∧ H2 L = some (.lst ((rowsS p (ts.take i)).map V.str))) ⟨none, none, none, rfl, s1, e1⟩ (fun i σ H2 _ ⟨_, _, _, _, s, _⟩ => SqT.of (s _ _ h2)) ?_ ?_⟩))
    · rintro i x σ H2 hx ⟨v3, v4, v5, rfl, s2, e2⟩
      obtain ⟨t, ht, b, rfl, hb⟩ := Paired.getP h3 hx
      have gt := g.ties t (List.mem_of_getElem? ht)
      have nl := natT_lt (by (first | lia | omega)) gt
      have esn := row_tie t
      have il := (List.getElem?_eq_some_iff.mp ht).1
      obtain ⟨t1, t2, t3⟩ := t
      have f1 : t1 = ((t1.toNat : Nat) : Int) := (Int.toNat_of_nonneg gt.a0).symm
      have f2 : t2 = ((t2.toNat : Nat) : Int) := (Int.toNat_of_nonneg gt.b0).symm
      have f3 : t3 = ((t3.toNat : Nat) : Int) := (Int.toNat_of_nonneg (Int.le_trans (by decide) gt.l0)).symm
      have n1 : t1.toNat < 10 ^ 60 := nl _ List.mem_cons_self
      have n2 : t2.toNat < 10 ^ 60 := nl _ (List.mem_cons_of_mem _ List.mem_cons_self)
      have n3 : t3.toNat < 10 ^ 60 := nl _ (List.mem_cons_of_mem _ (List.mem_cons_of_mem _ List.mem_cons_self))
      have esn : rowS "tie" (natT (t1, t2, t3)) = ("tie " : Str) ++ Tx.numS t1.toNat ++ (" " : Str) ++ Tx.numS t2.toNat ++ (" " : Str) ++ Tx.numS t3.toNat := esn
      have hb : H b = some (.tup [.int t1, .int t2, .int t3]) := hb
      have l1 := Tx.num_len_le (k := 60) (by decide) n1
      have l2 := Tx.num_len_le (k := 60) (by decide) n2
      have l3 := Tx.num_len_le (k := 60) (by decide) n3
      have lt : ("tie " : Str).length = 4 := by decide +kernel
      have lb : (" " : Str).length = 1 := by decide +kernel
      have o1 : Str.ofString (toString t1) = Tx.numS t1.toNat := by show _ = Str.ofString (toString ((t1.toNat : Nat) : Int)); rw [← f1]
      have o2 : Str.ofString (toString t2) = Tx.numS t2.toNat := by show _ = Str.ofString (toString ((t2.toNat : Nat) : Int)); rw [← f2]
      have o3 : Str.ofString (toString t3) = Tx.numS t3.toNat := by show _ = Str.ofString (toString ((t3.toNat : Nat) : Int)); rw [← f3]
      refine ⟨b, _, rfl, SqT.of (s2 _ _ hb), rfl, _, _, rfl, _, _, rfl, _, _, rfl, rfl, ?_⟩
      refine (exq rfl ⟨.inl ⟨rfl, _, SqL.of e2⟩, exq rfl ⟨t1, rfl, log_int (by (first | lia | omega)), ("tie " : Str), Str.ofString (toString t1), rfl, rfl, by rw [o1]; (first | lia | omega), ?_⟩⟩)
      rw [o1]
      refine ⟨("tie " : Str) ++ Tx.numS t1.toNat, (" " : Str), rfl, rfl, by simp only [PySem.Str.length_append]; (first | lia | omega), _, rfl, t2, rfl, log_int (by (first | lia | omega)), ("tie " : Str) ++ Tx.numS t1.toNat ++ " ", Str.ofString (toString t2), rfl, rfl, by rw [o2]; simp only [PySem.Str.length_append]; (first | lia | omega), ?_⟩
      rw [o2]
      refine ⟨("tie " : Str) ++ Tx.numS t1.toNat ++ " " ++ Tx.numS t2.toNat, (" " : Str), rfl, rfl, by simp only [PySem.Str.length_append]; (first | lia | omega), _, rfl, t3, rfl, log_int (by (first | lia | omega)), ("tie " : Str) ++ Tx.numS t1.toNat ++ " " ++ Tx.numS t2.toNat ++ " ", Str.ofString (toString t3), rfl, rfl, by rw [o3]; simp only [PySem.Str.length_append]; (first | lia | omega), ?_⟩
      rw [o3]
      have e9 : (("tie " : Str) ++ Tx.numS t1.toNat ++ " " ++ Tx.numS t2.toNat ++ " " ++ Tx.numS t3.toNat) = rowS "tie" (natT (t1, t2, t3)) := esn.symm
      rw [e9]
      have rl : ((rowsS p (ts.take i)).map V.str).length ≤ 10 := by
        unfold rowsS
        rw [List.length_map, List.length_cons, List.length_map, List.length_take]
        (first | lia | omega)
      refine ⟨L, _, _, rfl, rfl, e2, small1000 (by (first | lia | omega)), _, _, _, rfl, s2.put hL, ?_⟩
      rw [List.take_add_one, ht]
      unfold rowsS
      rw [Option.toList_some, List.map_append, ← List.cons_append, List.map_append]
      exact upd_same
    · rintro σ H2 ⟨v3, v4, v5, rfl, s2, e2⟩
      rw [hxl, List.take_length] at e2
      have yl := pr.length
      refine (exq rfl (exq rfl ⟨R, rfl, ⟨_, SqL.of (s2 _ _ hR)⟩, fun D hD => comp_list (xs := ys) (fun i acc H3 => Same H2 H3 ∧ H3 D = some (.lst acc) ∧ acc = ((as.take i).map askS).map V.str) ⟨Same.new hD, upd_same, rfl⟩ ?_ (small24 (by (first | lia | omega))) ?_ ?_⟩))
      · rintro i acc H3 _ ⟨s3, e3, rfl⟩
        refine ⟨SqL.of (s3 _ _ (s2 _ _ hR)), e3, ?_⟩
        rw [List.length_map, List.length_map, List.length_take]
        exact Nat.min_le_left _ _
      · rintro i y acc H3 hy ⟨s3, e3, rfl⟩
        obtain ⟨q0, hq, lw, rfl, hlw⟩ := Paired.getP pr hy
        have okq := ok q0 (List.mem_of_getElem? hq)
        refine ⟨rfl, rfl, exq rfl ⟨_, lw, q0.1 :: q0.2.map Tx.intS, rfl, rfl, SqL.of (s3 _ _ (s2 _ _ hlw)), ask_ok okq h9, e3, s3.put hD, upd_same, ?_⟩⟩
        rw [List.take_add_one, hq, Option.toList_some, List.map_append, List.map_append]
        rfl
      · rintro acc H3 ⟨s3, e3, rfl⟩
        rw [yl, List.take_length] at e3
        have rl : ((rowsS p ts).map V.str).length ≤ 10 := by
          unfold rowsS
          rw [List.length_map, List.length_cons, List.length_map]
          (first | lia | omega)
        refine ⟨L, D, _, _, rfl, rfl, SqL.of (s3 _ _ e2), SqL.of e3, ?_, fun l4 hl4 => q l4 _ ((s2.trans s3).trans (Same.new hl4)) ?_⟩
        · rw [List.length_map] at rl
          rw [List.length_map, List.length_map, List.length_map]
          exact dl (Nat.ble_eq.mpr (by (first | lia | omega)))
        · unfold pageL
          rw [List.map_append]
          exact upd_same
end

def pageR (p : Nat) (ts : List Tie) (as : List Ask) : List RowW := (("points" : Str), [Tx.numS p]) :: ts.map (fun t => (("tie" : Str), (natT t).map Tx.numS)) ++ as.map fun q => (q.1, q.2.map Tx.intS)
theorem page_rows (p : Nat) (ts : List Tie) (as : List Ask) : pageL p ts as = (pageR p ts as).map rowT := by
  unfold pageL rowsS pageR
  rw [List.map_append, List.map_cons, List.map_map, List.map_map]
  rfl
theorem pageR_len (p : Nat) (ts : List Tie) (as : List Ask) : (pageR p ts as).length = 1 + ts.length + as.length := by
  unfold pageR
  rw [List.length_append, List.length_cons, List.length_map, List.length_map]
  (first | lia | omega)
def stAt (p : Nat) (ts : List Tie) : Nat → StP
  | 0 => (none, 0)
  | i + 1 => (some (p, ts.take i), i - ts.length)
theorem good_take {p : Nat} {ts : List Tie} (g : GoodWeb p ts) (i : Nat) : GoodWeb p (ts.take i) :=
  ⟨g.p1, g.p2, Nat.le_trans (by rw [List.length_take]; exact Nat.min_le_right _ _) g.len, fun u hu => g.ties u (List.mem_of_mem_take hu)⟩
theorem step_page {p : Nat} {ts : List Tie} {as : List Ask} {m : Nat} (p1 : 1 ≤ p) (p2 : p ≤ 10) (g : ∀ j, j + 1 < m → j < ts.length → GoodWeb p (ts.take (j + 1))) (h9 : as ≠ [] → ts.length ≤ 9) (ok : AsksOk ts.length as) :
    ∀ i r, i < m → (pageR p ts as)[i]? = some r → Step (stAt p ts i) r.1 r.2 (stAt p ts (i + 1)) := by
  intro i r hm hr
  cases i with
  | zero =>
    obtain rfl : r = (("points" : Str), [Tx.numS p]) := (Option.some.inj hr).symm
    have e : stAt p ts 1 = (some (p, []), 0) := by show (some (p, ts.take 0), 0 - ts.length) = _; rw [Nat.zero_sub]; rfl
    rw [e]
    exact .points p1 p2
  | succ j =>
    have hr : (ts.map (fun t => (("tie" : Str), (natT t).map Tx.numS)) ++ as.map fun q => (q.1, q.2.map Tx.intS))[j]? = some r := hr
    by_cases hj : j < ts.length
    · rw [List.getElem?_append_left (by rw [List.length_map]; exact hj), List.getElem?_map] at hr
      obtain ⟨t, ht, rfl⟩ := Option.map_eq_some_iff.mp hr
      have gj := g j hm hj
      have e1 : stAt p ts (j + 1) = (some (p, ts.take j), 0) := by show (some (p, ts.take j), j - ts.length) = _; rw [show j - ts.length = 0 by (first | lia | omega)]
      have e2 : stAt p ts (j + 1 + 1) = (some (p, ts.take j ++ [t]), 0) := by
        show (some (p, ts.take (j + 1)), j + 1 - ts.length) = _
        rw [show j + 1 - ts.length = 0 by (first | lia | omega), List.take_add_one, ht]
        rfl
      rw [List.take_add_one, ht] at gj
      rw [e1, e2]
      exact .tie gj
    · rw [List.getElem?_append_right (by rw [List.length_map]; (first | lia | omega)), List.length_map, List.getElem?_map] at hr
      obtain ⟨q, hq, rfl⟩ := Option.map_eq_some_iff.mp hr
      have okq := ok q (List.mem_of_getElem? hq)
      have n9 := h9 fun z => by rw [z] at hq; cases hq
      have e1 : stAt p ts (j + 1) = (some (p, ts), j - ts.length) := by show (some (p, ts.take j), j - ts.length) = _; rw [List.take_of_length_le (by (first | lia | omega))]
      have e2 : stAt p ts (j + 1 + 1) = (some (p, ts), j - ts.length + 1) := by
        show (some (p, ts.take (j + 1)), j + 1 - ts.length) = _
        rw [List.take_of_length_le (by (first | lia | omega)), show j + 1 - ts.length = j - ts.length + 1 by (first | lia | omega)]
      rw [e1, e2]
      exact .ask n9 okq
theorem row_pointsR {p : Nat} (p2 : p ≤ 10) : RowOk ("points", [Tx.numS p]) := by
  have wl : wdC "points" = true ∧ PyData.strOk "points" = true := by decide +kernel
  have wp := wd_num (n := p) (Nat.lt_of_le_of_lt p2 (by decide))
  exact .of (by simp [rowC, wl, wp])
theorem row_tieR {p : Nat} {t : Tie} (p2 : p ≤ 10) (g : GoodTie (p : Int) t) : RowOk ("tie", (natT t).map Tx.numS) := by
  have wl : wdC "tie" = true ∧ PyData.strOk "tie" = true := by decide +kernel
  have lt := natT_lt (by (first | lia | omega)) g
  have h : ∀ n ∈ natT t, wdC (Tx.numS n) = true := fun n hn => wd_num (lt n hn)
  refine .of ?_
  unfold rowC
  rw [List.all_cons, wl.1, wl.2, List.all_eq_true.mpr (fun y hy => by obtain ⟨n, hn, rfl⟩ := List.mem_map.mp hy; exact h n hn)]
  rfl
theorem row_ask {n : Nat} {q : Ask} (h : AskOk n q.1 q.2) (h9 : n ≤ 9) : RowOk (q.1, q.2.map Tx.intS) := by
  obtain ⟨w1, w2, w3, _⟩ := w_ask h
  obtain ⟨l10, z60⟩ := z_ask h h9
  refine ⟨fun y hy => ?_, ?_, word_ok h⟩
  · rcases List.mem_cons.mp hy with e | hy
    · rw [e]
      exact ⟨w1, w2, by show q.1.length ≤ 100; (first | lia | omega)⟩
    · obtain ⟨z, hz, rfl⟩ := List.mem_map.mp hy
      exact ⟨fun k => by have := Tx.int_sign k; (first | lia | omega), fun k => by have := Tx.int_sign k; (first | lia | omega), Nat.le_trans (Tx.int_len (z60 z hz)).2 (by decide)⟩
  · rw [List.length_map]
    (first | lia | omega)
theorem page_rowOk {p : Nat} {ts : List Tie} {as : List Ask} (p2 : p ≤ 10) (gt : ∀ t ∈ ts, GoodTie (p : Int) t) (h9 : as ≠ [] → ts.length ≤ 9) (ok : AsksOk ts.length as) : ∀ r ∈ pageR p ts as, RowOk r := fun r hr => by
  rcases List.mem_append.mp hr with hr | hr
  · rcases List.mem_cons.mp hr with rfl | hr
    · exact row_pointsR p2
    · obtain ⟨t, ht, rfl⟩ := List.mem_map.mp hr
      exact row_tieR p2 (gt t ht)
  · obtain ⟨q, hq, rfl⟩ := List.mem_map.mp hr
    exact row_ask (ok q hq) (h9 fun z => by rw [z] at hq; cases hq)
theorem badAt {p : Nat} {ts : List Tie} {i : Nat} {y : Str} (h9 : ts.length ≤ 9) (h : BadT (fun x ws => x ≠ "tie" ∧ ∀ n : Nat, n ≤ ts.length → NoAsk n x ws) y) : BadT (BadRow (stAt p ts (i + 1))) y := by
  obtain ⟨r, e, rk, h1, h2⟩ := h
  refine ⟨r, e, rk, .inr ⟨.inr h1, ?_, ?_⟩⟩
  · show (ts.take i).length ≤ 9
    rw [List.length_take]
    (first | lia | omega)
  · exact h2 _ (by rw [List.length_take]; (first | lia | omega))
def fullT (n : Nat) : List Tie := (List.range n).map fun k : Nat => ((0 : Int), (1 : Int), (k : Int) + 1)
theorem full_good {n : Nat} (h : n ≤ 24) : GoodWeb 2 (fullT n) := by
  refine ⟨by decide, by decide, by unfold fullT; rw [List.length_map, List.length_range]; exact h, fun t ht => ?_⟩
  obtain ⟨k, hk, rfl⟩ := List.mem_map.mp ht
  have := List.mem_range.mp hk
  exact ⟨by show (0 : Int) ≤ 0; decide, by show (0 : Int) < 2; decide, by show (0 : Int) ≤ 1; decide, by show (1 : Int) < 2; decide, by show (0 : Int) ≠ 1; decide, by show (1 : Int) ≤ (k : Int) + 1; (first | lia | omega), by show (k : Int) + 1 ≤ _; (first | lia | omega)⟩
theorem full_len (n : Nat) : (fullT n).length = n := by unfold fullT; rw [List.length_map, List.length_range]
theorem full_take {n k : Nat} (h : k ≤ n) : (fullT n).take k = fullT k := by
  unfold fullT
  rw [← List.map_take, List.take_range, Nat.min_eq_left h]

def sp_number_bad : Sp := fun vs H Q _ => ∃ t : Int, vs = [.int t] ∧ ∀ y H', Same H H' → y ∈ numBads → Q (.str y) H'
theorem at_mod {xs : List V} {t : Int} (h : 0 < xs.length) : ∃ v, atI xs (t % (xs.length : Int)) = some v ∧ v ∈ xs := by
  obtain ⟨j, e, hj⟩ : ∃ j : Nat, t % (xs.length : Int) = (j : Int) ∧ j < xs.length := ⟨(t % (xs.length : Int)).toNat, by have := Int.emod_nonneg t (show (xs.length : Int) ≠ 0 by (first | lia | omega)); (first | lia | omega), by have := Int.emod_lt_of_pos t (show (0 : Int) < (xs.length : Int) by (first | lia | omega)); have := Int.emod_nonneg t (show (xs.length : Int) ≠ 0 by (first | lia | omega)); (first | lia | omega)⟩
  rw [e]
  exact ⟨xs[j], atI_nat (List.getElem?_eq_getElem hj), List.getElem_mem hj⟩
theorem pos_len {xs : List V} (h : 0 < xs.length) : (0 : Int) < (xs.length : Int) := by (first | lia | omega)
theorem str_mem {y : V} {l : List Str} (h : y ∈ l.map V.str) : ∃ x ∈ l, y = .str x := by
  obtain ⟨x, hx, rfl⟩ := List.mem_map.mp h
  exact ⟨x, hx, rfl⟩
section
variable {P : Program} {w : World} {K : PySem.W.Frag} {mg : Str → Option Value} {base : Heap} {a : Adr}
theorem G_law_number_bad (T : Txt K mg a) : FnOk P w K mg base CX0 1 a.f_law_number_bad a.d_law_number_bad ["turn"] sp_number_bad := by
  refine T.F_law_number_bad.ok sc_law_number_bad (fun vs H Q E h => ?_) (fun cdv A outer s H vs Q E hr h => ?_)
  · obtain ⟨t, rfl, _⟩ := h
    rfl
  · obtain ⟨t, rfl, q⟩ := h
    refine ⟨_, (@pss_cons _ _ _ _ _ (@ps_set _ _ 1 _ _ _ _ sc_law_number_bad.nd rfl (Or.inl rfl) (@pe_lst _ _ _ _ (@pa_consts _ _ _ rfl)) (by rfl) (by first | exact .inl rfl | exact .inr rfl | assumption)) (@pss_cons _ _ _ _ _ (@ps_set _ _ 1 _ _ _ _ sc_law_number_bad.nd rfl (Or.inl rfl) (@pe_op _ _ _ _ _ _ _ _ (catL K) (pv 1) (@pe_lst _ _ _ _ (@pa_cons _ _ _ _ _ (@pe_op _ _ _ _ _ _ _ _ op_repS pe_str pe_int) (@pa_cons _ _ _ _ _ (@pe_op _ _ _ _ _ _ _ _ op_add_str pe_str (@pe_op _ _ _ _ _ _ _ _ op_repS pe_str pe_int)) pa_nil (by rfl)) (by rfl)))) (by rfl) (by first | exact .inl rfl | exact .inr rfl | assumption)) (@pss_one _ _ _ (@ps_ret _ _ _ _ (@pe_ix _ _ _ _ _ _ _ (ixL K) (pv 1) (@pe_op _ _ _ _ _ _ _ _ op_mod (pv 0) (@pe_callB _ _ _ _ _ _ _ _ _ (lenK K) (by rfl) T.n_len PySem.boot_len (@pa_cons _ _ _ _ _ (pv 1) pa_nil (by rfl)) (by decide) (by decide) (by rfl) (by rfl))) (fun _ _ => rfl)))))), ?_⟩
    refine hd_law_number_bad ?_
    intro zz0 zz1
    have l1 : ("1" : Str).length = 1 := by decide +kernel
    have ll : (("-" : Str).length + (Tx.repS "1" 61).length) ≤ sizeLine := by
      rw [Tx.rep_len, l1, show ("-" : Str).length = 1 by decide +kernel]
      decide
    refine ⟨dl rfl, fun l hl => ?_⟩
    have s1 := Same.new (o := .lst ((numBads.take 14).map V.str)) hl
    have e1 : upd H l (.lst ((numBads.take 14).map V.str)) l = some (.lst ((numBads.take 14).map V.str)) := upd_same
    show zz1 _ _ (upd H l (.lst ((numBads.take 14).map V.str)))
    generalize upd H l (.lst ((numBads.take 14).map V.str)) = H1 at s1 e1
    refine ⟨.ref l, rfl, ("1" : Str), (61 : Int), rfl, rfl, by rw [l1]; decide, by rw [l1]; decide, by decide, by decide, ("1" : Str), (61 : Int), rfl, rfl, by rw [l1]; decide, by rw [l1]; decide, by decide, by decide, ("-" : Str), Tx.repS "1" 61, rfl, rfl, ll, dl rfl, fun l2 hl2 => ?_⟩
    have s2 := Same.new (o := .lst ((numBads.drop 14).map V.str)) hl2
    refine ⟨l, l2, (numBads.take 14).map V.str, (numBads.drop 14).map V.str, rfl, rfl, SqL.of (s2 _ _ e1), SqL.of upd_same, dl rfl, fun l3 hl3 => ?_⟩
    have s3 := Same.new (o := .lst (numBads.map V.str)) hl3
    have e3 : upd (upd H1 l2 (.lst ((numBads.drop 14).map V.str))) l3 (.lst (numBads.map V.str)) l3 = some (.lst (numBads.map V.str)) := upd_same
    show zz0 _ _ (upd (upd H1 l2 (.lst ((numBads.drop 14).map V.str))) l3 (.lst (numBads.map V.str)))
    have s13 : Same H (upd (upd H1 l2 (.lst ((numBads.drop 14).map V.str))) l3 (.lst (numBads.map V.str))) := (s1.trans s2).trans s3
    generalize upd (upd H1 l2 (.lst ((numBads.drop 14).map V.str))) l3 (.lst (numBads.map V.str)) = H3 at e3 s13
    obtain ⟨v, hat, hv⟩ := at_mod (xs := numBads.map V.str) (t := t) (by decide)
    obtain ⟨y, hy, rfl⟩ := str_mem hv
    exact ⟨.ref l3, rfl, .int t, rfl, .ref l3, rfl, l3, numBads.map V.str, rfl, .inl (SqL.of e3), t, ((numBads.map V.str).length : Int), rfl, rfl, pos_len (by decide), ixl (v := .str y) (SqL.of e3) (hat) (q y _ s13 hy)⟩
def sp_first_bad : Sp := fun vs H Q _ => ∃ t : Int, vs = [.int t] ∧ ∀ y H', Same H H' → BadT (BadRow (none, 0)) y → Q (.str y) H'
theorem G_law_first_bad (T : Txt K mg a) : FnOk P w K mg base CX0 2 a.f_law_first_bad a.d_law_first_bad ["turn"] sp_first_bad := by
  have G_law_number_bad : FnOk P w K mg base CX0 1 a.f_law_number_bad a.d_law_number_bad ["turn"] sp_number_bad := G_law_number_bad T
  refine T.F_law_first_bad.ok sc_law_first_bad (fun vs H Q E h => ?_) (fun cdv A outer s H vs Q E hr h => ?_)
  · obtain ⟨t, rfl, _⟩ := h
    rfl
  · obtain ⟨t, rfl, q⟩ := h
    refine ⟨_, (@pss_cons _ _ _ _ _ (@ps_set _ _ 1 _ _ _ _ sc_law_first_bad.nd rfl (Or.inl rfl) (@pe_lst _ _ _ _ (@pa_consts _ _ _ rfl)) (by rfl) (by first | exact .inl rfl | exact .inr rfl | assumption)) (@pss_cons _ _ _ _ _ (@ps_set _ _ 1 _ _ _ _ sc_law_first_bad.nd rfl (Or.inl rfl) (@pe_op _ _ _ _ _ _ _ _ (catL K) (pv 1) (@pe_lst _ _ _ _ (@pa_consts _ _ _ rfl))) (by rfl) (by first | exact .inl rfl | exact .inr rfl | assumption)) (@pss_cons _ _ _ _ _ (@ps_if _ _ _ _ _ _ _ _ (@pt_cmpR _ _ _ _ _ _ _ _ op_eq (@pe_op _ _ _ _ _ _ _ _ op_mod (pv 0) pe_int) pe_int (nomark _)) (@pss_one _ _ _ (@ps_ret _ _ _ _ (@pe_op _ _ _ _ _ _ _ _ op_add_str pe_str (@pe_call _ _ _ _ _ _ _ _ _ _ _ _ _ _ _ _ G_law_number_bad (hr.mono (by decide)) (by rfl) T.m_law_number_bad T.k_law_number_bad T.b_law_number_bad .nil pass0 (@pa_cons _ _ _ _ _ (@pe_op _ _ _ _ _ _ _ _ op_fdiv (pv 0) pe_int) pa_nil (by rfl)) (by decide) (by rfl) (by rfl))))) pss_nil) (@pss_one _ _ _ (@ps_ret _ _ _ _ (@pe_ix _ _ _ _ _ _ _ (ixL K) (pv 1) (@pe_op _ _ _ _ _ _ _ _ op_mod (@pe_op _ _ _ _ _ _ _ _ op_fdiv (pv 0) pe_int) (@pe_callB _ _ _ _ _ _ _ _ _ (lenK K) (by rfl) T.n_len PySem.boot_len (@pa_cons _ _ _ _ _ (pv 1) pa_nil (by rfl)) (by decide) (by decide) (by rfl) (by rfl))) (fun _ _ => rfl))))))), ?_⟩
    refine hd_law_first_bad ?_
    intro zz0 zz1 zz2 zz3
    refine ⟨dl rfl, fun l hl => ?_⟩
    have s1 := Same.new (o := .lst ((firstTexts.take 9).map V.str)) hl
    have e1 : upd H l (.lst ((firstTexts.take 9).map V.str)) l = some (.lst ((firstTexts.take 9).map V.str)) := upd_same
    show zz3 _ _ (upd H l (.lst ((firstTexts.take 9).map V.str)))
    generalize upd H l (.lst ((firstTexts.take 9).map V.str)) = H1 at s1 e1
    refine ⟨.ref l, rfl, dl rfl, fun l2 hl2 => ?_⟩
    have s2 := Same.new (o := .lst ((firstTexts.drop 9).map V.str)) hl2
    refine ⟨l, l2, (firstTexts.take 9).map V.str, (firstTexts.drop 9).map V.str, rfl, rfl, SqL.of (s2 _ _ e1), SqL.of upd_same, dl rfl, fun l3 hl3 => ?_⟩
    have s3 := Same.new (o := .lst (firstTexts.map V.str)) hl3
    have e3 : upd (upd H1 l2 (.lst ((firstTexts.drop 9).map V.str))) l3 (.lst (firstTexts.map V.str)) l3 = some (.lst (firstTexts.map V.str)) := upd_same
    show zz2 _ _ (upd (upd H1 l2 (.lst ((firstTexts.drop 9).map V.str))) l3 (.lst (firstTexts.map V.str)))
    have s13 : Same H (upd (upd H1 l2 (.lst ((firstTexts.drop 9).map V.str))) l3 (.lst (firstTexts.map V.str))) := (s1.trans s2).trans s3
    generalize upd (upd H1 l2 (.lst ((firstTexts.drop 9).map V.str))) l3 (.lst (firstTexts.map V.str)) = H3 at e3 s13
    refine ⟨.int t, rfl, t, 5, rfl, rfl, modC rfl, rfl, exq rfl (ite2 (fun _ => ?_) fun _ => ?_)⟩
    · refine ⟨.int t, rfl, t, 5, rfl, rfl, ⟨by decide, by decide⟩, t / 5, rfl, fun y H4 s4 hy => ?_⟩
      have b := bw_all y hy
      have bl := (wdC_t b.wd).2.2
      refine ⟨("points " : Str), y, rfl, rfl, ?_, q _ _ (s13.trans s4) (first_bad2 b)⟩
      rw [show ("points " : Str).length = 7 by decide +kernel]
      exact Nat.le_trans (show 7 + y.length ≤ 107 by (first | lia | omega)) (by decide)
    · obtain ⟨v, hat, hv⟩ := at_mod (xs := firstTexts.map V.str) (t := t / 5) (by decide)
      obtain ⟨y, hy, rfl⟩ := str_mem hv
      exact ⟨.ref l3, rfl, .int t, rfl, t, 5, rfl, rfl, ⟨by decide, by decide⟩, .ref l3, rfl, l3, firstTexts.map V.str, rfl, .inl (SqL.of e3), t / 5, ((firstTexts.map V.str).length : Int), rfl, rfl, pos_len (by decide), ixl (v := .str y) (SqL.of e3) (hat) (q y _ s13 (first_bad y hy))⟩
end

def sp_tie_bad : Sp := fun vs H Q _ => ∃ (wb : Addr) (p : Nat) (ts : List Tie) (t : Int), vs = [.ref wb, .int t] ∧ WebAt H wb p ts ∧ p ≤ 10 ∧ ∀ y H', Same H H' → BadT (fun x ws => ∀ us : List Tie, us.length ≤ 9 → BadRow (some (p, us), 0) x ws) y → Q (.str y) H'
theorem mod3 (z : Int) : ∃ j : Nat, z % 3 = (j : Int) ∧ j ≤ 2 := ⟨(z % 3).toNat, by (first | lia | omega), by (first | lia | omega)⟩
section
variable {P : Program} {w : World} {K : PySem.W.Frag} {mg : Str → Option Value} {base : Heap} {a : Adr}
theorem G_law_tie_bad (T : Txt K mg a) : FnOk P w K mg base CX0 2 a.f_law_tie_bad a.d_law_tie_bad ["web", "turn"] sp_tie_bad := by
  have G_law_number_bad : FnOk P w K mg base CX0 1 a.f_law_number_bad a.d_law_number_bad ["turn"] sp_number_bad := G_law_number_bad T
  refine T.F_law_tie_bad.ok sc_law_tie_bad (fun vs H Q E h => ?_) (fun cdv A outer s H vs Q E hr h => ?_)
  · obtain ⟨wb, p, ts, t, rfl, _⟩ := h
    rfl
  · obtain ⟨wb, p, ts, t, rfl, hw, p10, q⟩ := h
    refine ⟨_, (@pss_cons _ _ _ _ _ (@ps_set _ _ 2 _ _ _ _ sc_law_tie_bad.nd rfl (Or.inl rfl) (@pe_call _ _ _ _ _ _ _ _ _ _ _ _ _ _ _ _ G_law_number_bad (hr.mono (by decide)) (by rfl) T.m_law_number_bad T.k_law_number_bad T.b_law_number_bad .nil pass0 (@pa_cons _ _ _ _ _ (@pe_op _ _ _ _ _ _ _ _ op_fdiv (pv 1) pe_int) pa_nil (by rfl)) (by decide) (by rfl) (by rfl)) (by rfl) (by first | exact .inl rfl | exact .inr rfl | assumption)) (@pss_cons _ _ _ _ _ (@ps_set _ _ 3 _ _ _ _ sc_law_tie_bad.nd rfl (Or.inl rfl) (@pe_callTy _ _ _ _ _ _ _ _ _ call_str_int (by rfl) T.n_str PyProof.Rows.boot_str (@pa_cons _ _ _ _ _ (@pe_op _ _ _ _ _ _ _ _ op_add (@pe_ix _ _ _ _ _ _ _ (ixT K) (pv 0) pe_int (fun _ _ => rfl)) (@pe_op _ _ _ _ _ _ _ _ op_mod (@pe_op _ _ _ _ _ _ _ _ op_fdiv (pv 1) pe_int) pe_int)) pa_nil (by rfl)) (by decide) (by decide) (by rfl) (by rfl)) (by rfl) (by first | exact .inl rfl | exact .inr rfl | assumption)) (@pss_cons _ _ _ _ _ (@ps_set _ _ 4 _ _ _ _ sc_law_tie_bad.nd rfl (Or.inl rfl) (@pe_lst _ _ _ _ (@pa_frontN _ 5 _ _ _ rfl (@pa_cons _ _ _ _ _ (@pe_op _ _ _ _ _ _ _ _ op_add_str pe_str (@pe_callTy _ _ _ _ _ _ _ _ _ call_str_int (by rfl) T.n_str PyProof.Rows.boot_str (@pa_cons _ _ _ _ _ (@pe_op _ _ _ _ _ _ _ _ op_add (@pe_op _ _ _ _ _ _ _ _ op_pow pe_int pe_int) pe_int) pa_nil (by rfl)) (by decide) (by decide) (by rfl) (by rfl))) (@pa_cons _ _ _ _ _ pe_str pa_nil (by rfl)) (by rfl)))) (by rfl) (by first | exact .inl rfl | exact .inr rfl | assumption)) (@pss_cons _ _ _ _ _ (@ps_set _ _ 4 _ _ _ _ sc_law_tie_bad.nd rfl (Or.inl rfl) (@pe_op _ _ _ _ _ _ _ _ (catL K) (pv 4) (@pe_lst _ _ _ _ (@pa_cons _ _ _ _ _ (@pe_op _ _ _ _ _ _ _ _ op_add_str (@pe_op _ _ _ _ _ _ _ _ op_add_str pe_str (pv 3)) pe_str) (@pa_cons _ _ _ _ _ (@pe_op _ _ _ _ _ _ _ _ op_add_str (@pe_op _ _ _ _ _ _ _ _ op_add_str pe_str (pv 3)) pe_str) (@pa_cons _ _ _ _ _ (@pe_op _ _ _ _ _ _ _ _ op_add_str (@pe_op _ _ _ _ _ _ _ _ op_add_str pe_str (pv 2)) pe_str) (@pa_cons _ _ _ _ _ (@pe_op _ _ _ _ _ _ _ _ op_add_str (@pe_op _ _ _ _ _ _ _ _ op_add_str pe_str (pv 2)) pe_str) pa_nil (by rfl)) (by rfl)) (by rfl)) (by rfl)))) (by rfl) (by first | exact .inl rfl | exact .inr rfl | assumption)) (@pss_cons _ _ _ _ _ (@ps_set _ _ 4 _ _ _ _ sc_law_tie_bad.nd rfl (Or.inl rfl) (@pe_op _ _ _ _ _ _ _ _ (catL K) (pv 4) (@pe_lst _ _ _ _ (@pa_cons _ _ _ _ _ (@pe_op _ _ _ _ _ _ _ _ op_add_str pe_str (pv 2)) (@pa_cons _ _ _ _ _ pe_str (@pa_cons _ _ _ _ _ pe_str (@pa_cons _ _ _ _ _ pe_str (@pa_cons _ _ _ _ _ pe_str pa_nil (by rfl)) (by rfl)) (by rfl)) (by rfl)) (by rfl)))) (by rfl) (by first | exact .inl rfl | exact .inr rfl | assumption)) (@pss_cons _ _ _ _ _ (@ps_set _ _ 4 _ _ _ _ sc_law_tie_bad.nd rfl (Or.inl rfl) (@pe_op _ _ _ _ _ _ _ _ (catL K) (pv 4) (@pe_lst _ _ _ _ (@pa_cons _ _ _ _ _ pe_str (@pa_cons _ _ _ _ _ pe_str pa_nil (by rfl)) (by rfl)))) (by rfl) (by first | exact .inl rfl | exact .inr rfl | assumption)) (@pss_one _ _ _ (@ps_ret _ _ _ _ (@pe_ix _ _ _ _ _ _ _ (ixL K) (pv 4) (@pe_op _ _ _ _ _ _ _ _ op_mod (@pe_op _ _ _ _ _ _ _ _ op_fdiv (pv 1) pe_int) (@pe_callB _ _ _ _ _ _ _ _ _ (lenK K) (by rfl) T.n_len PySem.boot_len (@pa_cons _ _ _ _ _ (pv 4) pa_nil (by rfl)) (by decide) (by decide) (by rfl) (by rfl))) (fun _ _ => rfl)))))))))), ?_⟩
    refine hd_law_tie_bad ?_
    intro zz0 zz1 zz2 zz3 zz4 zz5
    obtain ⟨bt, xs, h1, h2, h3⟩ := id hw.ex
    have big := big12
    have q0 : ("tie " : Str).length = 4 := by decide +kernel
    have q1 : (" 0 1" : Str).length = 4 := by decide +kernel
    have q2 : ("tie 0 " : Str).length = 6 := by decide +kernel
    have q3 : (" 1" : Str).length = 2 := by decide +kernel
    have q4 : ("tie 0 1 " : Str).length = 8 := by decide +kernel
    refine ⟨.int t, rfl, t, 7, rfl, rfl, ⟨by decide, by decide⟩, t / 7, rfl, fun bad H1 s1 hb => ?_⟩
    have b := bw_all bad hb
    have bl := (wdC_t b.wd).2.2
    obtain ⟨j, hj, j2⟩ := mod3 (t / 7)
    have pj : p + j < 10 ^ 60 := Nat.lt_of_le_of_lt (show p + j ≤ 12 by (first | lia | omega)) (by decide)
    have fl := Tx.num_len_le (k := 60) (by decide) pj
    have gl : (Tx.numS (10 ^ 30 + 1)).length ≤ 60 := Tx.num_len_le (by decide) (by decide)
    refine ⟨.ref wb, rfl, ixq (v := .int (p : Int)) (SqT.of (s1 _ _ h1)) (atI_nat (j := 0) rfl) ⟨.int t, rfl, t, 7, rfl, rfl, ⟨by decide, by decide⟩, t / 7, 3, rfl, rfl, modC rfl, (p : Int), t / 7 % 3, rfl, rfl, ((p + j : Nat) : Int), congrArg (fun z => [V.int z]) (by rw [hj]; rfl), log_small pj, ?_⟩⟩
    refine ⟨10, 30, rfl, rfl, ⟨by decide, by decide, by decide⟩, 10 ^ (30 : Int).toNat, 1, rfl, rfl, ((10 ^ 30 + 1 : Nat) : Int), congrArg (fun z => [V.int z]) (by decide), log_small (by decide), ("tie 0 1 " : Str), Tx.numS (10 ^ 30 + 1), rfl, rfl, (by (first | lia | omega)), dl rfl, fun l2 hl2 => ?_⟩
    have s2 : Same H (upd H1 l2 (.lst (((tieTexts (Tx.numS (p + j)) bad).take 7).map V.str))) := s1.trans (Same.new hl2)
    have e2 : upd H1 l2 (.lst (((tieTexts (Tx.numS (p + j)) bad).take 7).map V.str)) l2 = some (.lst (((tieTexts (Tx.numS (p + j)) bad).take 7).map V.str)) := upd_same
    show zz3 _ _ (upd H1 l2 (.lst (((tieTexts (Tx.numS (p + j)) bad).take 7).map V.str)))
    generalize upd H1 l2 (.lst (((tieTexts (Tx.numS (p + j)) bad).take 7).map V.str)) = H2 at s2 e2
    refine ⟨.ref l2, rfl, .str (Tx.numS (p + j)), rfl, (("tie " : Str)), ((Tx.numS (p + j))), rfl, rfl, (by (try simp only [PySem.Str.length_append, Tx.rep_len]); (first | lia | omega)), (("tie " : Str) ++ (Tx.numS (p + j))), ((" 0 1" : Str)), rfl, rfl, (by (try simp only [PySem.Str.length_append, Tx.rep_len]); (first | lia | omega)), .str (Tx.numS (p + j)), rfl, (("tie 0 " : Str)), ((Tx.numS (p + j))), rfl, rfl, (by (try simp only [PySem.Str.length_append, Tx.rep_len]); (first | lia | omega)), (("tie 0 " : Str) ++ (Tx.numS (p + j))), ((" 1" : Str)), rfl, rfl, (by (try simp only [PySem.Str.length_append, Tx.rep_len]); (first | lia | omega)), .str bad, rfl, (("tie " : Str)), (bad), rfl, rfl, (by (try simp only [PySem.Str.length_append, Tx.rep_len]); (first | lia | omega)), (("tie " : Str) ++ bad), ((" 0 1" : Str)), rfl, rfl, (by (try simp only [PySem.Str.length_append, Tx.rep_len]); (first | lia | omega)), .str bad, rfl, (("tie 0 " : Str)), (bad), rfl, rfl, (by (try simp only [PySem.Str.length_append, Tx.rep_len]); (first | lia | omega)), (("tie 0 " : Str) ++ bad), ((" 1" : Str)), rfl, rfl, (by (try simp only [PySem.Str.length_append, Tx.rep_len]); (first | lia | omega)), dl rfl, fun m3 hm3 => ?_⟩
    have sa3 := Same.new (o := .lst ((((tieTexts (Tx.numS (p + j)) bad).take 11).drop 7).map V.str)) hm3
    refine ⟨l2, m3, ((tieTexts (Tx.numS (p + j)) bad).take 7).map V.str, (((tieTexts (Tx.numS (p + j)) bad).take 11).drop 7).map V.str, rfl, rfl, SqL.of (sa3 _ _ e2), SqL.of upd_same, dl rfl, fun l3 hl3 => ?_⟩
    have s3 : Same H (upd (upd H2 m3 (.lst ((((tieTexts (Tx.numS (p + j)) bad).take 11).drop 7).map V.str))) l3 (.lst (((tieTexts (Tx.numS (p + j)) bad).take 11).map V.str))) := (s2.trans sa3).trans (Same.new hl3)
    have e3 : upd (upd H2 m3 (.lst ((((tieTexts (Tx.numS (p + j)) bad).take 11).drop 7).map V.str))) l3 (.lst (((tieTexts (Tx.numS (p + j)) bad).take 11).map V.str)) l3 = some (.lst (((tieTexts (Tx.numS (p + j)) bad).take 11).map V.str)) := upd_same
    show zz2 _ _ (upd (upd H2 m3 (.lst ((((tieTexts (Tx.numS (p + j)) bad).take 11).drop 7).map V.str))) l3 (.lst (((tieTexts (Tx.numS (p + j)) bad).take 11).map V.str)))
    generalize upd (upd H2 m3 (.lst ((((tieTexts (Tx.numS (p + j)) bad).take 11).drop 7).map V.str))) l3 (.lst (((tieTexts (Tx.numS (p + j)) bad).take 11).map V.str)) = H3 at s3 e3
    refine ⟨.ref l3, rfl, .str bad, rfl, (("tie 0 1 " : Str)), (bad), rfl, rfl, (by (try simp only [PySem.Str.length_append, Tx.rep_len]); (first | lia | omega)), dl rfl, fun m4 hm4 => ?_⟩
    have sa4 := Same.new (o := .lst ((((tieTexts (Tx.numS (p + j)) bad).take 16).drop 11).map V.str)) hm4
    refine ⟨l3, m4, ((tieTexts (Tx.numS (p + j)) bad).take 11).map V.str, (((tieTexts (Tx.numS (p + j)) bad).take 16).drop 11).map V.str, rfl, rfl, SqL.of (sa4 _ _ e3), SqL.of upd_same, dl rfl, fun l4 hl4 => ?_⟩
    have s4 : Same H (upd (upd H3 m4 (.lst ((((tieTexts (Tx.numS (p + j)) bad).take 16).drop 11).map V.str))) l4 (.lst (((tieTexts (Tx.numS (p + j)) bad).take 16).map V.str))) := (s3.trans sa4).trans (Same.new hl4)
    have e4 : upd (upd H3 m4 (.lst ((((tieTexts (Tx.numS (p + j)) bad).take 16).drop 11).map V.str))) l4 (.lst (((tieTexts (Tx.numS (p + j)) bad).take 16).map V.str)) l4 = some (.lst (((tieTexts (Tx.numS (p + j)) bad).take 16).map V.str)) := upd_same
    show zz1 _ _ (upd (upd H3 m4 (.lst ((((tieTexts (Tx.numS (p + j)) bad).take 16).drop 11).map V.str))) l4 (.lst (((tieTexts (Tx.numS (p + j)) bad).take 16).map V.str)))
    generalize upd (upd H3 m4 (.lst ((((tieTexts (Tx.numS (p + j)) bad).take 16).drop 11).map V.str))) l4 (.lst (((tieTexts (Tx.numS (p + j)) bad).take 16).map V.str)) = H4 at s4 e4
    refine ⟨.ref l4, rfl, dl rfl, fun m5 hm5 => ?_⟩
    have sa5 := Same.new (o := .lst ((((tieTexts (Tx.numS (p + j)) bad).take 18).drop 16).map V.str)) hm5
    refine ⟨l4, m5, ((tieTexts (Tx.numS (p + j)) bad).take 16).map V.str, (((tieTexts (Tx.numS (p + j)) bad).take 18).drop 16).map V.str, rfl, rfl, SqL.of (sa5 _ _ e4), SqL.of upd_same, dl rfl, fun l5 hl5 => ?_⟩
    have s5 : Same H (upd (upd H4 m5 (.lst ((((tieTexts (Tx.numS (p + j)) bad).take 18).drop 16).map V.str))) l5 (.lst (((tieTexts (Tx.numS (p + j)) bad).take 18).map V.str))) := (s4.trans sa5).trans (Same.new hl5)
    have e5 : upd (upd H4 m5 (.lst ((((tieTexts (Tx.numS (p + j)) bad).take 18).drop 16).map V.str))) l5 (.lst (((tieTexts (Tx.numS (p + j)) bad).take 18).map V.str)) l5 = some (.lst (((tieTexts (Tx.numS (p + j)) bad).take 18).map V.str)) := upd_same
    show zz0 _ _ (upd (upd H4 m5 (.lst ((((tieTexts (Tx.numS (p + j)) bad).take 18).drop 16).map V.str))) l5 (.lst (((tieTexts (Tx.numS (p + j)) bad).take 18).map V.str)))
    generalize upd (upd H4 m5 (.lst ((((tieTexts (Tx.numS (p + j)) bad).take 18).drop 16).map V.str))) l5 (.lst (((tieTexts (Tx.numS (p + j)) bad).take 18).map V.str)) = H5 at s5 e5
    have e5 : H5 l5 = some (.lst ((tieTexts (Tx.numS (p + j)) bad).map V.str)) := e5
    obtain ⟨v, hat, hv⟩ := at_mod (xs := (tieTexts (Tx.numS (p + j)) bad).map V.str) (t := t / 700) (by show 0 < 18; decide)
    obtain ⟨y, hy, rfl⟩ := str_mem hv
    exact ⟨.ref l5, rfl, .int t, rfl, t, 700, rfl, rfl, ⟨by decide, by decide⟩, .ref l5, rfl, l5, (tieTexts (Tx.numS (p + j)) bad).map V.str, rfl, .inl (SqL.of e5), t / 700, (((tieTexts (Tx.numS (p + j)) bad).map V.str).length : Int), rfl, rfl, pos_len (by show 0 < 18; decide), ixl (v := .str y) (SqL.of e5) (hat) (q y _ s5 (tie_bad p10 j2 b y hy))⟩
end

def sp_ask_bad : Sp := fun vs H Q _ => ∃ (wb : Addr) (p : Nat) (ts : List Tie) (t : Int), vs = [.ref wb, .int t] ∧ WebAt H wb p ts ∧ ts.length ≤ 9 ∧ ∀ y H', Same H H' → BadT (fun x ws => x ≠ "tie" ∧ ∀ n : Nat, n ≤ ts.length → NoAsk n x ws) y → Q (.str y) H'
section
variable {P : Program} {w : World} {K : PySem.W.Frag} {mg : Str → Option Value} {base : Heap} {a : Adr}
theorem G_law_ask_bad (T : Txt K mg a) : FnOk P w K mg base CX0 2 a.f_law_ask_bad a.d_law_ask_bad ["web", "turn"] sp_ask_bad := by
  have G_law_number_bad : FnOk P w K mg base CX0 1 a.f_law_number_bad a.d_law_number_bad ["turn"] sp_number_bad := G_law_number_bad T
  refine T.F_law_ask_bad.ok sc_law_ask_bad (fun vs H Q E h => ?_) (fun cdv A outer s H vs Q E hr h => ?_)
  · obtain ⟨wb, p, ts, t, rfl, _⟩ := h
    rfl
  · obtain ⟨wb, p, ts, t, rfl, hw, h9, q⟩ := h
    refine ⟨_, (@pss_cons _ _ _ _ _ (@ps_set _ _ 2 _ _ _ _ sc_law_ask_bad.nd rfl (Or.inl rfl) (@pe_callB _ _ _ _ _ _ _ _ _ (lenK K) (by rfl) T.n_len PySem.boot_len (@pa_cons _ _ _ _ _ (@pe_ix _ _ _ _ _ _ _ (ixT K) (pv 0) pe_int (fun _ _ => rfl)) pa_nil (by rfl)) (by decide) (by decide) (by rfl) (by rfl)) (by rfl) (by first | exact .inl rfl | exact .inr rfl | assumption)) (@pss_cons _ _ _ _ _ (@ps_set _ _ 3 _ _ _ _ sc_law_ask_bad.nd rfl (Or.inl rfl) (@pe_ix _ _ _ _ _ _ _ (ixL K) (@pe_lst _ _ _ _ (@pa_cons _ _ _ _ _ pe_str (@pa_cons _ _ _ _ _ pe_str (@pa_cons _ _ _ _ _ pe_str pa_nil (by rfl)) (by rfl)) (by rfl))) (@pe_op _ _ _ _ _ _ _ _ op_mod (@pe_op _ _ _ _ _ _ _ _ op_fdiv (pv 1) pe_int) pe_int) (fun _ _ => rfl)) (by rfl) (by first | exact .inl rfl | exact .inr rfl | assumption)) (@pss_cons _ _ _ _ _ (@ps_set _ _ 4 _ _ _ _ sc_law_ask_bad.nd rfl (Or.inl rfl) (@pe_call _ _ _ _ _ _ _ _ _ _ _ _ _ _ _ _ G_law_number_bad (hr.mono (by decide)) (by rfl) T.m_law_number_bad T.k_law_number_bad T.b_law_number_bad .nil pass0 (@pa_cons _ _ _ _ _ (@pe_op _ _ _ _ _ _ _ _ op_fdiv (pv 1) pe_int) pa_nil (by rfl)) (by decide) (by rfl) (by rfl)) (by rfl) (by first | exact .inl rfl | exact .inr rfl | assumption)) (@pss_cons _ _ _ _ _ (@ps_set _ _ 5 _ _ _ _ sc_law_ask_bad.nd rfl (Or.inl rfl) (@pe_op _ _ _ _ _ _ _ _ op_repS pe_str (pv 2)) (by rfl) (by first | exact .inl rfl | exact .inr rfl | assumption)) (@pss_cons _ _ _ _ _ (@ps_set _ _ 6 _ _ _ _ sc_law_ask_bad.nd rfl (Or.inl rfl) (@pe_lst _ _ _ _ (@pa_frontN _ 9 _ _ _ rfl (@pa_cons _ _ _ _ _ (@pe_op _ _ _ _ _ _ _ _ op_add_str (@pe_op _ _ _ _ _ _ _ _ op_add_str (pv 3) pe_str) (@pe_callTy _ _ _ _ _ _ _ _ _ call_str_int (by rfl) T.n_str PyProof.Rows.boot_str (@pa_cons _ _ _ _ _ (pv 2) pa_nil (by rfl)) (by decide) (by decide) (by rfl) (by rfl))) pa_nil (by rfl)))) (by rfl) (by first | exact .inl rfl | exact .inr rfl | assumption)) (@pss_cons _ _ _ _ _ (@ps_set _ _ 6 _ _ _ _ sc_law_ask_bad.nd rfl (Or.inl rfl) (@pe_op _ _ _ _ _ _ _ _ (catL K) (pv 6) (@pe_lst _ _ _ _ (@pa_cons _ _ _ _ _ (@pe_op _ _ _ _ _ _ _ _ op_add_str (@pe_op _ _ _ _ _ _ _ _ op_add_str (pv 3) pe_str) (pv 4)) (@pa_cons _ _ _ _ _ (@pe_op _ _ _ _ _ _ _ _ op_add_str (pv 3) pe_str) (@pa_cons _ _ _ _ _ (@pe_op _ _ _ _ _ _ _ _ op_add_str (pv 3) pe_str) (@pa_cons _ _ _ _ _ (@pe_op _ _ _ _ _ _ _ _ op_add_str (pv 3) pe_str) (@pa_cons _ _ _ _ _ (@pe_op _ _ _ _ _ _ _ _ op_add_str (pv 3) pe_str) (@pa_cons _ _ _ _ _ pe_str (@pa_cons _ _ _ _ _ pe_str pa_nil (by rfl)) (by rfl)) (by rfl)) (by rfl)) (by rfl)) (by rfl)) (by rfl)))) (by rfl) (by first | exact .inl rfl | exact .inr rfl | assumption)) (@pss_cons _ _ _ _ _ (@ps_set _ _ 6 _ _ _ _ sc_law_ask_bad.nd rfl (Or.inl rfl) (@pe_op _ _ _ _ _ _ _ _ (catL K) (pv 6) (@pe_lst _ _ _ _ (@pa_cons _ _ _ _ _ (@pe_op _ _ _ _ _ _ _ _ op_add_str pe_str (pv 5)) (@pa_cons _ _ _ _ _ (@pe_op _ _ _ _ _ _ _ _ op_add_str (@pe_op _ _ _ _ _ _ _ _ op_add_str pe_str (pv 5)) pe_str) (@pa_cons _ _ _ _ _ (@pe_op _ _ _ _ _ _ _ _ op_add_str pe_str (pv 5)) pa_nil (by rfl)) (by rfl)) (by rfl)))) (by rfl) (by first | exact .inl rfl | exact .inr rfl | assumption)) (@pss_cons _ _ _ _ _ (@ps_set _ _ 6 _ _ _ _ sc_law_ask_bad.nd rfl (Or.inl rfl) (@pe_op _ _ _ _ _ _ _ _ (catL K) (pv 6) (@pe_lst _ _ _ _ (@pa_cons _ _ _ _ _ (@pe_op _ _ _ _ _ _ _ _ op_add_str (@pe_op _ _ _ _ _ _ _ _ op_add_str pe_str (pv 5)) pe_str) pa_nil (by rfl)))) (by rfl) (by first | exact .inl rfl | exact .inr rfl | assumption)) (@pss_cons _ _ _ _ _ (@ps_set _ _ 7 _ _ _ _ sc_law_ask_bad.nd rfl (Or.inl rfl) (@pe_op _ _ _ _ _ _ _ _ op_add_str pe_str (@pe_op _ _ _ _ _ _ _ _ op_repS pe_str (@pe_callB _ _ _ _ _ _ _ _ _ (call_max2 rfl) (by rfl) T.n_max PyProof.Rows.boot_max (@pa_cons _ _ _ _ _ pe_int (@pa_cons _ _ _ _ _ (@pe_op _ _ _ _ _ _ _ _ op_sub (pv 2) pe_int) pa_nil (by rfl)) (by rfl)) (by decide) (by decide) (by rfl) (by rfl)))) (by rfl) (by first | exact .inl rfl | exact .inr rfl | assumption)) (@pss_cons _ _ _ _ _ (@ps_set _ _ 6 _ _ _ _ sc_law_ask_bad.nd rfl (Or.inl rfl) (@pe_op _ _ _ _ _ _ _ _ (catL K) (pv 6) (@pe_lst _ _ _ _ (@pa_cons _ _ _ _ _ (@pe_op _ _ _ _ _ _ _ _ op_add_str (@pe_op _ _ _ _ _ _ _ _ op_add_str pe_str (pv 4)) (pv 5)) (@pa_cons _ _ _ _ _ pe_str (@pa_cons _ _ _ _ _ (@pe_op _ _ _ _ _ _ _ _ op_add_str (@pe_op _ _ _ _ _ _ _ _ op_add_str (pv 7) pe_str) (pv 4)) (@pa_cons _ _ _ _ _ pe_str pa_nil (by rfl)) (by rfl)) (by rfl)) (by rfl)))) (by rfl) (by first | exact .inl rfl | exact .inr rfl | assumption)) (@pss_one _ _ _ (@ps_ret _ _ _ _ (@pe_ix _ _ _ _ _ _ _ (ixL K) (pv 6) (@pe_op _ _ _ _ _ _ _ _ op_mod (@pe_op _ _ _ _ _ _ _ _ op_fdiv (pv 1) pe_int) (@pe_callB _ _ _ _ _ _ _ _ _ (lenK K) (by rfl) T.n_len PySem.boot_len (@pa_cons _ _ _ _ _ (pv 6) pa_nil (by rfl)) (by decide) (by decide) (by rfl) (by rfl))) (fun _ _ => rfl)))))))))))))), ?_⟩
    refine hd_law_ask_bad ?_
    intro zz0 zz1 zz2 zz3 zz4 zz5 zz6 zz7 zz8 zz9
    obtain ⟨bt, xs, h1, h2, h3⟩ := id hw.ex
    have hxl := h3.length
    have big := big12
    have q0 : (" " : Str).length = 1 := by decide +kernel
    have q1 : ("heights 1" : Str).length = 9 := by decide +kernel
    have q2 : ("heights 0" : Str).length = 9 := by decide +kernel
    have q3 : ("heights -2" : Str).length = 10 := by decide +kernel
    have q4 : ("heights " : Str).length = 8 := by decide +kernel
    have q5 : (" 0" : Str).length = 2 := by decide +kernel
    have q6 : (" 1" : Str).length = 2 := by decide +kernel
    have q7 : (" -1" : Str).length = 3 := by decide +kernel
    have q8 : ("  " : Str).length = 2 := by decide +kernel
    have q9 : (" 0 0" : Str).length = 4 := by decide +kernel
    have q10 : (" 1 0" : Str).length = 4 := by decide +kernel
    refine ⟨.ref wb, rfl, ixq (v := .ref bt) (SqT.of h1) (atI_nat (j := 1) rfl) ⟨bt, xs, rfl, .inr (SqT.of h2), ?_⟩⟩
    rw [hxl]
    refine ⟨dl rfl, fun lw hlw => ?_⟩
    obtain ⟨vw, hat, hvw⟩ := at_mod (xs := [("even" : Str), "cut", "odd"].map V.str) (t := t / 7) (by decide)
    obtain ⟨word, hwm, rfl⟩ := str_mem hvw
    have hwd : word = "even" ∨ word = "cut" ∨ word = "odd" := by simpa using hwm
    have wl : word.length ≤ 10 := by rcases hwd with rfl | rfl | rfl <;> decide +kernel
    have s0 := Same.new (o := .lst ([("even" : Str), "cut", "odd"].map V.str)) hlw
    refine ⟨.int t, rfl, t, 7, rfl, rfl, ⟨by decide, by decide⟩, t / 7, 3, rfl, rfl, modC rfl, ixl (v := .str word) (SqL.of upd_same) (hat) (?_)⟩
    refine ⟨.int t, rfl, t, 21, rfl, rfl, ⟨by decide, by decide⟩, t / 21, rfl, fun bad H1 s1 hb => ?_⟩
    have b := bw_all bad hb
    have bl := (wdC_t b.wd).2.2
    have s1 := s0.trans s1
    have nl : (Tx.repS " 0" ts.length).length ≤ 20 := by rw [Tx.rep_len, q5]; (first | lia | omega)
    have ol : (Tx.repS " 1" (ts.length - 1)).length ≤ 20 := by rw [Tx.rep_len, q6]; (first | lia | omega)
    have ml : (Tx.numS ts.length).length ≤ 60 := Tx.num_len_le (by decide) (Nat.lt_of_le_of_lt h9 (by decide))
    refine ⟨.int (ts.length : Int), rfl, (" 0" : Str), (ts.length : Int), rfl, rfl, by (first | lia | omega), by (first | lia | omega), by (first | lia | omega), by (first | lia | omega), ?_⟩
    show zz6 _ [_, _, _, _, _, some (.str (Tx.repS " 0" ts.length)), _, _] _
    refine ⟨.str word, rfl, word, (" " : Str), rfl, rfl, by (first | lia | omega), .int (ts.length : Int), rfl, (ts.length : Int), rfl, log_small (Nat.lt_of_le_of_lt h9 (by decide)), (word ++ (" " : Str)), Tx.numS ts.length, rfl, rfl, (by (try simp only [PySem.Str.length_append]); (first | lia | omega)), dl rfl, fun l2 hl2 => ?_⟩
    have s2 : Same H (upd H1 l2 (.lst (((askTexts ts.length word bad).take 10).map V.str))) := s1.trans (Same.new hl2)
    have e2 : upd H1 l2 (.lst (((askTexts ts.length word bad).take 10).map V.str)) l2 = some (.lst (((askTexts ts.length word bad).take 10).map V.str)) := upd_same
    show zz5 _ _ (upd H1 l2 (.lst (((askTexts ts.length word bad).take 10).map V.str)))
    generalize upd H1 l2 (.lst (((askTexts ts.length word bad).take 10).map V.str)) = H2 at s2 e2
    refine ⟨.ref l2, rfl, .str word, rfl, (word), ((" " : Str)), rfl, rfl, (by (try simp only [PySem.Str.length_append]); (first | lia | omega)), .str bad, rfl, (word ++ (" " : Str)), (bad), rfl, rfl, (by (try simp only [PySem.Str.length_append]); (first | lia | omega)), .str word, rfl, (word), ((" -1" : Str)), rfl, rfl, (by (try simp only [PySem.Str.length_append]); (first | lia | omega)), .str word, rfl, (word), (("  " : Str)), rfl, rfl, (by (try simp only [PySem.Str.length_append]); (first | lia | omega)), .str word, rfl, (word), ((" 0 0" : Str)), rfl, rfl, (by (try simp only [PySem.Str.length_append]); (first | lia | omega)), .str word, rfl, (word), ((" 1 0" : Str)), rfl, rfl, (by (try simp only [PySem.Str.length_append]); (first | lia | omega)), dl rfl, fun m3 hm3 => ?_⟩
    have sa3 := Same.new (o := .lst ((((askTexts ts.length word bad).take 17).drop 10).map V.str)) hm3
    refine ⟨l2, m3, ((askTexts ts.length word bad).take 10).map V.str, (((askTexts ts.length word bad).take 17).drop 10).map V.str, rfl, rfl, SqL.of (sa3 _ _ e2), SqL.of upd_same, dl rfl, fun l3 hl3 => ?_⟩
    have s3 : Same H (upd (upd H2 m3 (.lst ((((askTexts ts.length word bad).take 17).drop 10).map V.str))) l3 (.lst (((askTexts ts.length word bad).take 17).map V.str))) := (s2.trans sa3).trans (Same.new hl3)
    have e3 : upd (upd H2 m3 (.lst ((((askTexts ts.length word bad).take 17).drop 10).map V.str))) l3 (.lst (((askTexts ts.length word bad).take 17).map V.str)) l3 = some (.lst (((askTexts ts.length word bad).take 17).map V.str)) := upd_same
    show zz4 _ _ (upd (upd H2 m3 (.lst ((((askTexts ts.length word bad).take 17).drop 10).map V.str))) l3 (.lst (((askTexts ts.length word bad).take 17).map V.str)))
    generalize upd (upd H2 m3 (.lst ((((askTexts ts.length word bad).take 17).drop 10).map V.str))) l3 (.lst (((askTexts ts.length word bad).take 17).map V.str)) = H3 at s3 e3
    refine ⟨.ref l3, rfl, .str (Tx.repS " 0" ts.length), rfl, (("heights 1" : Str)), ((Tx.repS " 0" ts.length)), rfl, rfl, (by (try simp only [PySem.Str.length_append]); (first | lia | omega)), .str (Tx.repS " 0" ts.length), rfl, (("heights 0" : Str)), ((Tx.repS " 0" ts.length)), rfl, rfl, (by (try simp only [PySem.Str.length_append]); (first | lia | omega)), (("heights 0" : Str) ++ (Tx.repS " 0" ts.length)), ((" 0" : Str)), rfl, rfl, (by (try simp only [PySem.Str.length_append]); (first | lia | omega)), .str (Tx.repS " 0" ts.length), rfl, (("heights -2" : Str)), ((Tx.repS " 0" ts.length)), rfl, rfl, (by (try simp only [PySem.Str.length_append]); (first | lia | omega)), dl rfl, fun m4 hm4 => ?_⟩
    have sa4 := Same.new (o := .lst ((((askTexts ts.length word bad).take 20).drop 17).map V.str)) hm4
    refine ⟨l3, m4, ((askTexts ts.length word bad).take 17).map V.str, (((askTexts ts.length word bad).take 20).drop 17).map V.str, rfl, rfl, SqL.of (sa4 _ _ e3), SqL.of upd_same, dl rfl, fun l4 hl4 => ?_⟩
    have s4 : Same H (upd (upd H3 m4 (.lst ((((askTexts ts.length word bad).take 20).drop 17).map V.str))) l4 (.lst (((askTexts ts.length word bad).take 20).map V.str))) := (s3.trans sa4).trans (Same.new hl4)
    have e4 : upd (upd H3 m4 (.lst ((((askTexts ts.length word bad).take 20).drop 17).map V.str))) l4 (.lst (((askTexts ts.length word bad).take 20).map V.str)) l4 = some (.lst (((askTexts ts.length word bad).take 20).map V.str)) := upd_same
    show zz3 _ _ (upd (upd H3 m4 (.lst ((((askTexts ts.length word bad).take 20).drop 17).map V.str))) l4 (.lst (((askTexts ts.length word bad).take 20).map V.str)))
    generalize upd (upd H3 m4 (.lst ((((askTexts ts.length word bad).take 20).drop 17).map V.str))) l4 (.lst (((askTexts ts.length word bad).take 20).map V.str)) = H4 at s4 e4
    refine ⟨.ref l4, rfl, .str (Tx.repS " 0" ts.length), rfl, (("heights 0" : Str)), ((Tx.repS " 0" ts.length)), rfl, rfl, (by (try simp only [PySem.Str.length_append]); (first | lia | omega)), (("heights 0" : Str) ++ (Tx.repS " 0" ts.length)), ((" 0 0" : Str)), rfl, rfl, (by (try simp only [PySem.Str.length_append]); (first | lia | omega)), dl rfl, fun m5 hm5 => ?_⟩
    have sa5 := Same.new (o := .lst ((((askTexts ts.length word bad).take 21).drop 20).map V.str)) hm5
    refine ⟨l4, m5, ((askTexts ts.length word bad).take 20).map V.str, (((askTexts ts.length word bad).take 21).drop 20).map V.str, rfl, rfl, SqL.of (sa5 _ _ e4), SqL.of upd_same, dl rfl, fun l5 hl5 => ?_⟩
    have s5 : Same H (upd (upd H4 m5 (.lst ((((askTexts ts.length word bad).take 21).drop 20).map V.str))) l5 (.lst (((askTexts ts.length word bad).take 21).map V.str))) := (s4.trans sa5).trans (Same.new hl5)
    have e5 : upd (upd H4 m5 (.lst ((((askTexts ts.length word bad).take 21).drop 20).map V.str))) l5 (.lst (((askTexts ts.length word bad).take 21).map V.str)) l5 = some (.lst (((askTexts ts.length word bad).take 21).map V.str)) := upd_same
    show zz2 _ _ (upd (upd H4 m5 (.lst ((((askTexts ts.length word bad).take 21).drop 20).map V.str))) l5 (.lst (((askTexts ts.length word bad).take 21).map V.str)))
    generalize upd (upd H4 m5 (.lst ((((askTexts ts.length word bad).take 21).drop 20).map V.str))) l5 (.lst (((askTexts ts.length word bad).take 21).map V.str)) = H5 at s5 e5
    refine ⟨.int (ts.length : Int), rfl, (ts.length : Int), 1, rfl, rfl, 0, (ts.length : Int) - 1, rfl, (" 1" : Str), ((ts.length - 1 : Nat) : Int), rfl, congrArg V.int (by split <;> (first | lia | omega)), by (first | lia | omega), by (first | lia | omega), by (first | lia | omega), by (first | lia | omega), ("heights 0" : Str), Tx.repS " 1" (ts.length - 1), rfl, rfl, by (first | lia | omega), ?_⟩
    refine ⟨.ref l5, rfl, .str bad, rfl, (("heights " : Str)), (bad), rfl, rfl, (by (try simp only [PySem.Str.length_append]); (first | lia | omega)), .str (Tx.repS " 0" ts.length), rfl, (("heights " : Str) ++ bad), ((Tx.repS " 0" ts.length)), rfl, rfl, (by (try simp only [PySem.Str.length_append]); (first | lia | omega)), .str (("heights 0" : Str) ++ Tx.repS " 1" (ts.length - 1)), rfl, ((("heights 0" : Str) ++ Tx.repS " 1" (ts.length - 1))), ((" " : Str)), rfl, rfl, (by (try simp only [PySem.Str.length_append]); (first | lia | omega)), .str bad, rfl, ((("heights 0" : Str) ++ Tx.repS " 1" (ts.length - 1)) ++ (" " : Str)), (bad), rfl, rfl, (by (try simp only [PySem.Str.length_append]); (first | lia | omega)), dl rfl, fun m6 hm6 => ?_⟩
    have sa6 := Same.new (o := .lst ((((askTexts ts.length word bad).take 25).drop 21).map V.str)) hm6
    refine ⟨l5, m6, ((askTexts ts.length word bad).take 21).map V.str, (((askTexts ts.length word bad).take 25).drop 21).map V.str, rfl, rfl, SqL.of (sa6 _ _ e5), SqL.of upd_same, dl rfl, fun l6 hl6 => ?_⟩
    have s6 : Same H (upd (upd H5 m6 (.lst ((((askTexts ts.length word bad).take 25).drop 21).map V.str))) l6 (.lst (((askTexts ts.length word bad).take 25).map V.str))) := (s5.trans sa6).trans (Same.new hl6)
    have e6 : upd (upd H5 m6 (.lst ((((askTexts ts.length word bad).take 25).drop 21).map V.str))) l6 (.lst (((askTexts ts.length word bad).take 25).map V.str)) l6 = some (.lst (((askTexts ts.length word bad).take 25).map V.str)) := upd_same
    show zz0 _ _ (upd (upd H5 m6 (.lst ((((askTexts ts.length word bad).take 25).drop 21).map V.str))) l6 (.lst (((askTexts ts.length word bad).take 25).map V.str)))
    generalize upd (upd H5 m6 (.lst ((((askTexts ts.length word bad).take 25).drop 21).map V.str))) l6 (.lst (((askTexts ts.length word bad).take 25).map V.str)) = H6 at s6 e6
    have e6 : H6 l6 = some (.lst ((askTexts ts.length word bad).map V.str)) := e6
    obtain ⟨v, hat2, hv⟩ := at_mod (xs := (askTexts ts.length word bad).map V.str) (t := t / 700) (by show 0 < 25; decide)
    obtain ⟨y, hy, rfl⟩ := str_mem hv
    exact ⟨.ref l6, rfl, .int t, rfl, t, 700, rfl, rfl, ⟨by decide, by decide⟩, .ref l6, rfl, l6, (askTexts ts.length word bad).map V.str, rfl, .inl (SqL.of e6), t / 700, (((askTexts ts.length word bad).map V.str).length : Int), rfl, rfl, pos_len (by show 0 < 25; decide), ixl (v := .str y) (SqL.of e6) (hat2) (q y _ s6 (ask_bad h9 hwd b y hy))⟩
end

def sp_bad : Sp := fun vs H Q _ => ∃ (wb : Addr) (p : Nat) (ts : List Tie) (i : Nat) (t : Int), vs = [.ref wb, .int (i : Int), .int t] ∧ WebAt H wb p ts ∧ p ≤ 10 ∧ ts.length ≤ 9 ∧ ∀ y H', Same H H' → BadT (BadRow (stAt p ts i)) y → Q (.str y) H'
def sp_full : Sp := fun vs H Q _ => ∃ n : Nat, vs = [.int (n : Int)] ∧ n ≤ 26 ∧ ∀ l H', Same H H' → H' l = some (.lst (((pageR 2 (fullT n) []).map rowT).map V.str)) → Q (.ref l) H'
theorem tie_behind {p : Nat} {ts : List Tie} {i : Nat} (h9 : ts.length ≤ 9) (h : ts.length + 1 < i) : BadT (BadRow (stAt p ts i)) "tie 0 1 1" := by
  cases i with
  | zero => (first | lia | omega)
  | succ i =>
    refine ⟨("tie", ["0", "1", "1"]), by decide +kernel, .of (by decide +kernel), .inr ⟨.inl ?_, ?_, fun ⟨zs, ok, _⟩ => ask_not_tie ok rfl⟩⟩
    · show i - ts.length ≠ 0
      (first | lia | omega)
    · show (ts.take i).length ≤ 9
      rw [List.length_take]
      (first | lia | omega)
theorem tie_at {p : Nat} {ts : List Tie} {i : Nat} {y : Str} (h9 : ts.length ≤ 9) (h0 : i ≠ 0) (h : i ≤ ts.length) (hy : BadT (fun x ws => ∀ us : List Tie, us.length ≤ 9 → BadRow (some (p, us), 0) x ws) y) : BadT (BadRow (stAt p ts i)) y := by
  cases i with
  | zero => exact absurd rfl h0
  | succ i =>
    obtain ⟨r, e, rk, k⟩ := hy
    have e1 : stAt p ts (i + 1) = (some (p, ts.take i), 0) := by show (some (p, ts.take i), i - ts.length) = _; rw [show i - ts.length = 0 by (first | lia | omega)]
    rw [e1]
    exact ⟨r, e, rk, k _ (by rw [List.length_take]; (first | lia | omega))⟩
theorem full_row (k : Nat) : ("tie 0 1 " : Str) ++ Tx.numS (k + 1) = rowT ("tie", (natT (0, 1, (k : Int) + 1)).map Tx.numS) := by
  refine Tx.str_ext ?_
  have e : natT (0, 1, (k : Int) + 1) = [0, 1, k + 1] := by
    show [(0 : Int).toNat, (1 : Int).toNat, ((k : Int) + 1).toNat] = _
    rw [show ((k : Int) + 1).toNat = k + 1 by (first | lia | omega)]
    rfl
  rw [rowT_codes, e]
  show _ = _ ++ jl [Tx.numS 0, Tx.numS 1, Tx.numS (k + 1)]
  rw [← num0.1, ← num0.2]
  simp only [jl, PySem.W.KT.app_list, lit0, lit1, lit2, lit3, lit4, lit5, lit6, lit7, lit8, lit9, lit10, lit11, lit12, lit13, lit14, lit15, lit16, lit17, lit18, lit19, lit20, lit21, List.append_assoc, List.cons_append, List.nil_append, List.append_nil]
theorem full_snoc (n : Nat) : (fullT (n + 1)).map (fun t => (("tie" : Str), (natT t).map Tx.numS)) = (fullT n).map (fun t => (("tie" : Str), (natT t).map Tx.numS)) ++ [(("tie" : Str), (natT (0, 1, (n : Int) + 1)).map Tx.numS)] := by
  unfold fullT
  rw [List.range_succ, List.map_append, List.map_append]
  rfl
section
variable {P : Program} {w : World} {K : PySem.W.Frag} {mg : Str → Option Value} {base : Heap} {a : Adr}
theorem G_law_bad (T : Txt K mg a) : FnOk P w K mg base CX0 3 a.f_law_bad a.d_law_bad ["web", "at", "turn"] sp_bad := by
  have G_law_first_bad : FnOk P w K mg base CX0 2 a.f_law_first_bad a.d_law_first_bad ["turn"] sp_first_bad := G_law_first_bad T
  have G_law_tie_bad : FnOk P w K mg base CX0 2 a.f_law_tie_bad a.d_law_tie_bad ["web", "turn"] sp_tie_bad := G_law_tie_bad T
  have G_law_ask_bad : FnOk P w K mg base CX0 2 a.f_law_ask_bad a.d_law_ask_bad ["web", "turn"] sp_ask_bad := G_law_ask_bad T
  refine T.F_law_bad.ok sc_law_bad (fun vs H Q E h => ?_) (fun cdv A outer s H vs Q E hr h => ?_)
  · obtain ⟨wb, p, ts, i, t, rfl, _⟩ := h
    rfl
  · obtain ⟨wb, p, ts, i, t, rfl, hw, p10, h9, q⟩ := h
    refine ⟨_, (@pss_cons _ _ _ _ _ (@ps_if _ _ _ _ _ _ _ _ (@pt_cmpR _ _ _ _ _ _ _ _ op_eq (pv 1) pe_int (nomark _)) (@pss_one _ _ _ (@ps_ret _ _ _ _ (@pe_call _ _ _ _ _ _ _ _ _ _ _ _ _ _ _ _ G_law_first_bad (hr.mono (by decide)) (by rfl) T.m_law_first_bad T.k_law_first_bad T.b_law_first_bad .nil pass0 (@pa_cons _ _ _ _ _ (pv 2) pa_nil (by rfl)) (by decide) (by rfl) (by rfl)))) pss_nil) (@pss_cons _ _ _ _ _ (@ps_if _ _ _ _ _ _ _ _ (PW.pt (@pw_and _ _ _ _ _ _ _ (@pt_cmpR _ _ _ _ _ _ _ _ op_le (pv 1) (@pe_callB _ _ _ _ _ _ _ _ _ (lenK K) (by rfl) T.n_len PySem.boot_len (@pa_cons _ _ _ _ _ (@pe_ix _ _ _ _ _ _ _ (ixT K) (pv 0) pe_int (fun _ _ => rfl)) pa_nil (by rfl)) (by decide) (by decide) (by rfl) (by rfl)) (nomark _)) (@pw_and1 _ _ _ _ (@pt_cmpR _ _ _ _ _ _ _ _ op_eq (@pe_op _ _ _ _ _ _ _ _ op_mod (pv 2) pe_int) pe_int (nomark _))))) (@pss_one _ _ _ (@ps_ret _ _ _ _ (@pe_call _ _ _ _ _ _ _ _ _ _ _ _ _ _ _ _ G_law_tie_bad (hr.mono (by decide)) (by rfl) T.m_law_tie_bad T.k_law_tie_bad T.b_law_tie_bad .nil pass0 (@pa_cons _ _ _ _ _ (pv 0) (@pa_cons _ _ _ _ _ (@pe_op _ _ _ _ _ _ _ _ op_fdiv (pv 2) pe_int) pa_nil (by rfl)) (by rfl)) (by decide) (by rfl) (by rfl)))) pss_nil) (@pss_cons _ _ _ _ _ (@ps_if _ _ _ _ _ _ _ _ (PW.pt (@pw_and _ _ _ _ _ _ _ (@pt_cmpR _ _ _ _ _ _ _ _ op_gt (pv 1) (@pe_op _ _ _ _ _ _ _ _ op_add (@pe_callB _ _ _ _ _ _ _ _ _ (lenK K) (by rfl) T.n_len PySem.boot_len (@pa_cons _ _ _ _ _ (@pe_ix _ _ _ _ _ _ _ (ixT K) (pv 0) pe_int (fun _ _ => rfl)) pa_nil (by rfl)) (by decide) (by decide) (by rfl) (by rfl)) pe_int) (nomark _)) (@pw_and1 _ _ _ _ (@pt_cmpR _ _ _ _ _ _ _ _ op_eq (@pe_op _ _ _ _ _ _ _ _ op_mod (pv 2) pe_int) pe_int (nomark _))))) (@pss_one _ _ _ (@ps_ret _ _ _ _ pe_str)) pss_nil) (@pss_one _ _ _ (@ps_ret _ _ _ _ (@pe_call _ _ _ _ _ _ _ _ _ _ _ _ _ _ _ _ G_law_ask_bad (hr.mono (by decide)) (by rfl) T.m_law_ask_bad T.k_law_ask_bad T.b_law_ask_bad .nil pass0 (@pa_cons _ _ _ _ _ (pv 0) (@pa_cons _ _ _ _ _ (@pe_op _ _ _ _ _ _ _ _ op_fdiv (pv 2) pe_int) pa_nil (by rfl)) (by rfl)) (by decide) (by rfl) (by rfl))))))), ?_⟩
    refine hd_law_bad ?_
    intro zz0 zz1 zz2 zz3 zz4 zz5
    obtain ⟨bt, xs, h1, h2, h3⟩ := id hw.ex
    have hxl := h3.length
    refine ⟨.int (i : Int), rfl, rfl, exq rfl (?_)⟩
    by_cases i0 : i = 0
    · subst i0
      exact iteP rfl ⟨.int t, rfl, t, rfl, fun y H' s' hy => q y H' s' hy⟩
    refine iteD (fun y => i0 (by have := V.int.inj y; (first | lia | omega))) ?_
    obtain ⟨i', rfl⟩ : ∃ i', i = i' + 1 := ⟨i - 1, by (first | lia | omega)⟩
    have rest2 : zz0 { nx := fun _ H' => Q .non H', rt := Q } [some (.ref wb), some (.int ((i' + 1 : Nat) : Int)), some (.int t)] H := by
      exact ⟨.ref wb, rfl, .int t, rfl, t, 2, rfl, rfl, ⟨by decide, by decide⟩, wb, p, ts, t / 2, rfl, hw, h9, fun y H' s' hy => q y H' s' (badAt h9 hy)⟩
    have rest1 : zz2 { nx := fun _ H' => Q .non H', rt := Q } [some (.ref wb), some (.int ((i' + 1 : Nat) : Int)), some (.int t)] H := by
      refine ⟨.int ((i' + 1 : Nat) : Int), rfl, .ref wb, rfl, ixq (v := .ref bt) (SqT.of h1) (atI_nat (j := 1) rfl) ⟨bt, xs, rfl, .inr (SqT.of h2), ?_⟩⟩
      rw [hxl]
      refine ⟨(ts.length : Int), 1, rfl, rfl, ((i' + 1 : Nat) : Int), (ts.length : Int) + 1, rfl, rfl, exq rfl (?_)⟩
      by_cases hb : ts.length + 1 < i' + 1
      · refine iteP (by (first | lia | omega)) ⟨.int t, rfl, t, 6, rfl, rfl, modC rfl, rfl, exq rfl (ite2 (fun _ => ?_) fun _ => rest2)⟩
        exact q _ _ (Same.refl _) (tie_behind h9 hb)
      · exact iteD (by (first | lia | omega)) rest2
    refine ⟨.int ((i' + 1 : Nat) : Int), rfl, .ref wb, rfl, ixq (v := .ref bt) (SqT.of h1) (atI_nat (j := 1) rfl) ⟨bt, xs, rfl, .inr (SqT.of h2), ?_⟩⟩
    rw [hxl]
    refine ⟨((i' + 1 : Nat) : Int), (ts.length : Int), rfl, rfl, exq rfl (?_)⟩
    by_cases hb : i' + 1 ≤ ts.length
    · refine iteP (by (first | lia | omega)) ⟨.int t, rfl, t, 2, rfl, rfl, modC rfl, rfl, exq rfl (ite2 (fun _ => ?_) fun _ => rest1)⟩
      exact ⟨.ref wb, rfl, .int t, rfl, t, 2, rfl, rfl, ⟨by decide, by decide⟩, wb, p, ts, t / 2, rfl, hw, p10, fun y H' s' hy => q y H' s' (tie_at h9 i0 hb hy)⟩
    · exact iteD (by (first | lia | omega)) rest1
theorem G_law_full (T : Txt K mg a) : FnOk P w K mg base CX0 1 a.f_law_full a.d_law_full ["many"] sp_full := by
  refine T.F_law_full.ok sc_law_full (fun vs H Q E h => ?_) (fun cdv A outer s H vs Q E hr h => ?_)
  · obtain ⟨n, rfl, _⟩ := h
    rfl
  · obtain ⟨n, rfl, hn, q⟩ := h
    refine ⟨_, (@pss_one _ _ _ (@ps_ret _ _ _ _ (@pe_op _ _ _ _ _ _ _ _ (catL K) (@pe_lst _ _ _ _ (@pa_cons _ _ _ _ _ pe_str pa_nil (by rfl))) (@pe_comp _ _ _ _ _ _ _ ["k"] [] [] _ _ _ _ (compText_of (defScope s_law_full) ["many"]) rfl (@pi_range1 _ _ _ _ _ _ (by rfl) T.n_range (@pa_cons _ _ _ _ _ (pv 0) pa_nil (by rfl)) (by rfl)) (fun _ _ _ _ => (pg_name (i := 0) (show (["k"] : List Str).Nodup by decide +kernel) rfl (Or.inl rfl))) (fun _ _ _ _ => pts_nil) (fun _ _ _ _ => (pe_op op_add_str pe_str (pe_callTy call_str_int (by rfl) T.n_str PyProof.Rows.boot_str (pa_cons (pe_op op_add (pv 0) pe_int) pa_nil)))) (by intro _; rfl))))), ?_⟩
    have big := big12
    have q0 : ("tie 0 1 " : Str).length = 8 := by decide +kernel
    refine ⟨dl rfl, fun l hl => ?_⟩
    have s1 := Same.new (o := .lst [.str "points 2"]) hl
    have e1 : upd H l (.lst [.str "points 2"]) l = some (.lst [.str "points 2"]) := upd_same
    generalize upd H l (.lst [.str "points 2"]) = H1 at s1 e1
    refine ⟨.int (n : Int), rfl, (n : Int), rfl, (by (first | lia | omega)), (by (first | lia | omega)), fun D hD => comp_range (lo := 0) (m := (n : Int).toNat) (fun i acc H2 => Same H1 H2 ∧ H2 D = some (.lst acc) ∧ acc = (((fullT i).map (fun t => (("tie" : Str), (natT t).map Tx.numS))).map rowT).map V.str) ⟨Same.new hD, upd_same, rfl⟩ ?_ (small40 (by (first | lia | omega))) ?_ ?_⟩
    · rintro i acc H2 _ ⟨s2, e2, rfl⟩
      exact ⟨e2, by rw [List.length_map, List.length_map, List.length_map, full_len]; exact Nat.le_refl _⟩
    · rintro i acc H2 hi ⟨s2, e2, rfl⟩
      have hi : i < n := by rw [Int.toNat_natCast] at hi; exact hi
      have lt : i + 1 < 10 ^ 60 := Nat.lt_of_le_of_lt (show i + 1 ≤ 26 by (first | lia | omega)) (by decide)
      have ll := Tx.num_len_le (k := 60) (by decide) lt
      refine ⟨rfl, .int (0 + (i : Int)), rfl, 0 + (i : Int), 1, rfl, rfl, ((i + 1 : Nat) : Int), congrArg (fun z => [V.int z]) (by (first | lia | omega)), log_small lt, ("tie 0 1 " : Str), Tx.numS (i + 1), rfl, rfl, (by (first | lia | omega)), e2, s2.put hD, upd_same, ?_⟩
      rw [full_snoc, List.map_append, List.map_append, full_row]
      rfl
    · rintro acc H2 ⟨s2, e2, rfl⟩
      rw [Int.toNat_natCast] at e2
      refine ⟨l, D, [.str "points 2"], _, rfl, rfl, SqL.of (s2 _ _ e1), SqL.of e2, ?_, fun l3 hl3 => q l3 _ ((s1.trans s2).trans (Same.new hl3)) ?_⟩
      · rw [List.length_map, List.length_map, List.length_map, full_len]
        exact dl (Nat.ble_eq.mpr (by show 1 + n ≤ 1000; (first | lia | omega)))
      · have e9 : ((pageR 2 (fullT n) []).map rowT).map V.str = [.str "points 2"] ++ (((fullT n).map (fun t => (("tie" : Str), (natT t).map Tx.numS))).map rowT).map V.str := by
          unfold pageR
          rw [List.map_nil, List.append_nil, List.map_cons, List.map_cons, show rowT (("points" : Str), [Tx.numS 2]) = "points 2" by decide +kernel]
          rfl
        rw [e9]
        exact upd_same
end

def sp_law (K : PySem.W.Frag) : Sp := fun vs H Q _ => ∃ (a : Addr) (ns : List Int), vs = [.ref a] ∧ SqL K H a (ns.map V.int) ∧ ns.length ≤ 63 ∧ ∀ H', Q (.bl true) H'
theorem spoil {p : Nat} {ts : List Tie} {as : List Ask} (g : GoodWeb p ts) (h9 : ts.length ≤ 9) (ok : AsksOk ts.length as) (a5 : as.length ≤ 5) {i : Nat} (hi : i ≤ (pageR p ts as).length) {r : RowW} (rk : RowOk r) {rest : List RowW} (hr : ∀ x ∈ rest, RowOk x) (hl : rest.length ≤ 20) :
    PageOk ((pageR p ts as).take i ++ r :: rest) ∧ (∀ j x, j < i → ((pageR p ts as).take i ++ r :: rest)[j]? = some x → Step (stAt p ts j) x.1 x.2 (stAt p ts (j + 1))) ∧ ((pageR p ts as).take i ++ r :: rest)[i]? = some r := by
  have hli : ((pageR p ts as).take i).length = i := by rw [List.length_take]; (first | lia | omega)
  have pl := pageR_len p ts as
  have rows := page_rowOk g.p2 g.ties (fun _ => h9) ok
  refine ⟨⟨by simp, ?_, fun x hx => ?_⟩, fun j x hj hx => ?_, ?_⟩
  · rw [List.length_append, hli, List.length_cons]
    (first | lia | omega)
  · rcases List.mem_append.mp hx with hx | hx
    · exact rows x (List.mem_of_mem_take hx)
    · rcases List.mem_cons.mp hx with rfl | hx
      · exact rk
      · exact hr x hx
  · rw [List.getElem?_append_left (by (first | lia | omega)), List.getElem?_take_of_lt hj] at hx
    exact step_page (m := i) g.p1 g.p2 (fun k _ _ => good_take g _) (fun _ => h9) ok j x hj hx
  · rw [List.getElem?_append_right (by (first | lia | omega)), hli, Nat.sub_self]
    rfl
theorem page_whole {p : Nat} {ts : List Tie} {as : List Ask} (p1 : 1 ≤ p) (p2 : p ≤ 10) (gt : ∀ t ∈ ts, GoodTie (p : Int) t) (h9 : as ≠ [] → ts.length ≤ 9) (ok : AsksOk ts.length as) (hl : ts.length + as.length ≤ 30) : PageOk (pageR p ts as) :=
  ⟨by unfold pageR; simp, by rw [pageR_len]; (first | lia | omega), page_rowOk p2 gt h9 ok⟩
theorem cut_to (X : List V) (i : Nat) : cutV X none (some (i : Int)) = X.take i := by
  unfold cutV
  rw [HT.sIx_none, HT.sIx_nat, List.drop_zero, Nat.sub_zero]
  by_cases h : i ≤ X.length
  · rw [Nat.min_eq_left h]
  · rw [Nat.min_eq_right (by (first | lia | omega)), List.take_length, List.take_of_length_le (by (first | lia | omega))]
theorem cut_from (X : List V) (i : Nat) (h : i ≤ X.length) : cutV X (some (i : Int)) none = X.drop i := by
  unfold cutV
  rw [HT.sIx_none, HT.sIx_nat, Nat.min_eq_left h]
  refine List.take_of_length_le ?_
  rw [List.length_drop]
  exact Nat.le_refl _
theorem full_tie {n : Nat} (h : n ≤ 30) : ∀ t ∈ fullT n, GoodTie ((2 : Nat) : Int) t := fun t ht => by
  obtain ⟨k, hk, rfl⟩ := List.mem_map.mp ht
  have := List.mem_range.mp hk
  exact ⟨by show (0 : Int) ≤ 0; decide, by show (0 : Int) < 2; decide, by show (0 : Int) ≤ 1; decide, by show (1 : Int) < 2; decide, by show (0 : Int) ≠ 1; decide, by show (1 : Int) ≤ (k : Int) + 1; (first | lia | omega), by show (k : Int) + 1 ≤ _; (first | lia | omega)⟩
theorem full_page {n : Nat} (h : n ≤ 30) : PageOk (pageR 2 (fullT n) []) := page_whole (by decide) (by decide) (full_tie h) (fun z => absurd rfl z) (fun _ hq => nomatch hq) (by rw [full_len]; show n + 0 ≤ 30; (first | lia | omega))
theorem full_step {n m : Nat} (hm : m ≤ 25) (hn : n ≤ 26) (h : m ≤ n + 1) : ∀ i r, i < m → (pageR 2 (fullT n) [])[i]? = some r → Step (stAt 2 (fullT n) i) r.1 r.2 (stAt 2 (fullT n) (i + 1)) :=
  step_page (m := m) (by decide) (by decide) (fun j hj _ => by rw [full_take (by (first | lia | omega))]; exact full_good (by (first | lia | omega))) (fun z => absurd rfl z) (fun _ hq => nomatch hq)
theorem full_26 : (pageR 2 (fullT 26) [])[25]? = some (("tie" : Str), (natT (0, 1, 25)).map Tx.numS) := rfl
theorem full_bad : BadRow (stAt 2 (fullT 26) 25) "tie" ((natT (0, 1, 25)).map Tx.numS) := by
  have e1 : stAt 2 (fullT 26) 25 = (some (2, fullT 24), 0) := by
    show (some (2, (fullT 26).take 24), 24 - (fullT 26).length) = _
    rw [full_take (by decide), full_len]
  rw [e1]
  refine .inl ⟨rfl, rfl, fun ⟨t, g, _⟩ => ?_⟩
  have := g.len
  rw [List.length_append, full_len] at this
  exact absurd this (by show ¬ 24 + 1 ≤ 24; decide)
theorem base0 : rowT ("base", ["0"]) = "base 0" ∧ rowC ("base", ["0"]) = true := by decide +kernel
section
variable {P : Program} {w : World} {K : PySem.W.Frag} {mg : Str → Option Value} {base : Heap} {a : Adr}
theorem G_law (T : Txt K mg a) : FnOk P w K mg base CX0 7 a.f_law a.d_law ["script"] (sp_law K) := by
  have G_law_page : FnOk P w K mg base CX0 3 a.f_law_page a.d_law_page ["script", "most"] (sp_page K) := G_law_page T
  have G_law_text : FnOk P w K mg base CX0 1 a.f_law_text a.d_law_text ["web", "rows"] sp_text := G_law_text T
  have G_law_stir : FnOk P w K mg base CX0 1 a.f_law_stir a.d_law_stir ["cell", "k"] sp_stir := G_law_stir T
  have G_law_bad : FnOk P w K mg base CX0 3 a.f_law_bad a.d_law_bad ["web", "at", "turn"] sp_bad := G_law_bad T
  have G_law_full : FnOk P w K mg base CX0 1 a.f_law_full a.d_law_full ["many"] sp_full := G_law_full T
  have G_law_refused_at : FnOk P w K mg base CX0 6 a.f_law_refused_at a.d_law_refused_at ["text"] (sp_refused a.c_NoText) := G_law_refused_at T
  refine T.F_law.ok sc_law (fun vs H Q E h => ?_) (fun cdv A outer s H vs Q E hr h => ?_)
  · obtain ⟨b, ns, rfl, _⟩ := h
    rfl
  · obtain ⟨b, ns, rfl, hS, hn, fin⟩ := h
    refine ⟨_, (@pss_cons _ _ _ _ _ (@ps_asg _ _ _ _ _ _ (@pe_call _ _ _ _ _ _ _ _ _ _ _ _ _ _ _ _ G_law_page (hr.mono (by decide)) (by rfl) T.m_law_page T.k_law_page T.b_law_page .nil pass0 (@pa_cons _ _ _ _ _ (pv 0) (@pa_cons _ _ _ _ _ pe_int pa_nil (by rfl)) (by rfl)) (by decide) (by rfl) (by rfl)) (@pgT _ _ K _ _ 2 _ rfl (@pgs_cons _ _ _ _ _ (pg_name (i := 1) sc_law.nd rfl (Or.inl rfl)) (@pgs_cons _ _ _ _ _ (pg_name (i := 2) sc_law.nd rfl (Or.inl rfl)) pgs_nil (by rfl)) (by rfl)) (by rfl) (by rfl) (by rfl)) (by rfl) (by rfl) (by rfl)) (@pss_cons _ _ _ _ _ (@ps_set _ _ 3 _ _ _ _ sc_law.nd rfl (Or.inl rfl) (@pe_call _ _ _ _ _ _ _ _ _ _ _ _ _ _ _ _ G_law_text (hr.mono (by decide)) (by rfl) T.m_law_text T.k_law_text T.b_law_text .nil pass0 (@pa_cons _ _ _ _ _ (pv 1) (@pa_cons _ _ _ _ _ (pv 2) pa_nil (by rfl)) (by rfl)) (by decide) (by rfl) (by rfl)) (by rfl) (by first | exact .inl rfl | exact .inr rfl | assumption)) (@pss_cons _ _ _ _ _ (@ps_if _ _ _ _ _ _ _ _ (@pt_cmpR _ _ _ _ _ _ _ _ op_ne (@pe_call _ _ _ _ _ _ _ _ _ _ _ _ _ _ _ _ G_law_refused_at (hr.mono (by decide)) (by rfl) T.m_law_refused_at T.k_law_refused_at T.b_law_refused_at .nil pass0 (@pa_cons _ _ _ _ _ (@bmK _ _ _ _ _ _ K (@pe_bm _ _ _ _ _ _ _ _ _ _ _ _ PySem.F.plainAttrs_str PySem.F.slot_str_join PySem.F.type_str_join (mt_join K) pe_str (@pa_cons _ _ _ _ _ (pv 3) pa_nil (by rfl)) (by rfl) (by rfl) (by rfl) (by rfl) (by rfl)) (by rfl)) pa_nil (by rfl)) (by decide) (by rfl) (by rfl)) pe_int (nomark _)) (@pss_one _ _ _ (@ps_ret _ _ _ _ pe_bl)) pss_nil) (@pss_cons _ _ _ _ _ (@ps_for _ _ _ _ _ _ _ _ PassesOwn.never rfl (@pi_range1 _ _ _ _ _ _ (by rfl) T.n_range (@pa_cons _ _ _ _ _ (@pe_callB _ _ _ _ _ _ _ _ _ (call_min2 rfl) (by rfl) T.n_min PyProof.Rows.boot_min (@pa_cons _ _ _ _ _ (@pe_callB _ _ _ _ _ _ _ _ _ (lenK K) (by rfl) T.n_len PySem.boot_len (@pa_cons _ _ _ _ _ (pv 0) pa_nil (by rfl)) (by decide) (by decide) (by rfl) (by rfl)) (@pa_cons _ _ _ _ _ pe_int pa_nil (by rfl)) (by rfl)) (by decide) (by decide) (by rfl) (by rfl)) pa_nil (by rfl)) (by rfl)) (pg_name (i := 4) sc_law.nd rfl (Or.inl rfl)) (@pss_cons _ _ _ _ _ (@ps_set _ _ 5 _ _ _ _ sc_law.nd rfl (Or.inl rfl) (@pe_call _ _ _ _ _ _ _ _ _ _ _ _ _ _ _ _ G_law_stir (hr.mono (by decide)) (by rfl) T.m_law_stir T.k_law_stir T.b_law_stir .nil pass0 (@pa_cons _ _ _ _ _ (@pe_ix _ _ _ _ _ _ _ (ixL K) (pv 0) (pv 4) (fun _ _ => rfl)) (@pa_cons _ _ _ _ _ (@pe_op _ _ _ _ _ _ _ _ op_add pe_int (pv 4)) pa_nil (by rfl)) (by rfl)) (by decide) (by rfl) (by rfl)) (by rfl) (by first | exact .inl rfl | exact .inr rfl | assumption)) (@pss_cons _ _ _ _ _ (@ps_set _ _ 6 _ _ _ _ sc_law.nd rfl (Or.inl rfl) (@pe_op _ _ _ _ _ _ _ _ op_mod (pv 5) (@pe_callB _ _ _ _ _ _ _ _ _ (lenK K) (by rfl) T.n_len PySem.boot_len (@pa_cons _ _ _ _ _ (pv 3) pa_nil (by rfl)) (by decide) (by decide) (by rfl) (by rfl))) (by rfl) (by first | exact .inl rfl | exact .inr rfl | assumption)) (@pss_cons _ _ _ _ _ (@ps_if _ _ _ _ _ _ _ _ (@pt_cmpR _ _ _ _ _ _ _ _ op_eq (@pe_op _ _ _ _ _ _ _ _ op_mod (@pe_op _ _ _ _ _ _ _ _ op_fdiv (pv 5) pe_int) pe_int) pe_int (nomark _)) (@pss_one _ _ _ (@ps_set _ _ 6 _ _ _ _ sc_law.nd rfl (Or.inl rfl) pe_int (by rfl) (by first | exact .inl rfl | exact .inr rfl | assumption))) pss_nil) (@pss_cons _ _ _ _ _ (@ps_set _ _ 7 _ _ _ _ sc_law.nd rfl (Or.inl rfl) (@pe_call _ _ _ _ _ _ _ _ _ _ _ _ _ _ _ _ G_law_bad (hr.mono (by decide)) (by rfl) T.m_law_bad T.k_law_bad T.b_law_bad .nil pass0 (@pa_cons _ _ _ _ _ (pv 1) (@pa_cons _ _ _ _ _ (pv 6) (@pa_cons _ _ _ _ _ (@pe_op _ _ _ _ _ _ _ _ op_fdiv (pv 5) pe_int) pa_nil (by rfl)) (by rfl)) (by rfl)) (by decide) (by rfl) (by rfl)) (by rfl) (by first | exact .inl rfl | exact .inr rfl | assumption)) (@pss_cons _ _ _ _ _ (@ps_if _ _ _ _ _ _ _ _ (PW.pt (@pw_and _ _ _ _ _ _ _ (@pt_cmpR _ _ _ _ _ _ _ _ op_gt (pv 6) pe_int (nomark _)) (@pw_and1 _ _ _ _ (@pt_cmpR _ _ _ _ _ _ _ _ op_eq (@pe_op _ _ _ _ _ _ _ _ op_mod (@pe_op _ _ _ _ _ _ _ _ op_fdiv (pv 5) pe_int) pe_int) pe_int (nomark _))))) (@pss_one _ _ _ (@ps_set _ _ 8 _ _ _ _ sc_law.nd rfl (Or.inl rfl) (@pe_op _ _ _ _ _ _ _ _ (catL K) (@pe_op _ _ _ _ _ _ _ _ (catL K) (@pe_slice _ _ _ _ _ _ _ _ _ _ (slL K) (pv 3) po_none (@po_some _ _ _ (pv 6))) (@pe_lst _ _ _ _ (@pa_cons _ _ _ _ _ (pv 7) pa_nil (by rfl)))) (@pe_slice _ _ _ _ _ _ _ _ _ _ (slL K) (pv 3) (@po_some _ _ _ (pv 6)) po_none)) (by rfl) (by first | exact .inl rfl | exact .inr rfl | assumption))) (@pss_one _ _ _ (@ps_set _ _ 8 _ _ _ _ sc_law.nd rfl (Or.inl rfl) (@pe_op _ _ _ _ _ _ _ _ (catL K) (@pe_op _ _ _ _ _ _ _ _ (catL K) (@pe_slice _ _ _ _ _ _ _ _ _ _ (slL K) (pv 3) po_none (@po_some _ _ _ (pv 6))) (@pe_lst _ _ _ _ (@pa_cons _ _ _ _ _ (pv 7) pa_nil (by rfl)))) (@pe_slice _ _ _ _ _ _ _ _ _ _ (slL K) (pv 3) (@po_some _ _ _ (@pe_op _ _ _ _ _ _ _ _ op_add (pv 6) pe_int)) po_none)) (by rfl) (by first | exact .inl rfl | exact .inr rfl | assumption)))) (@pss_cons _ _ _ _ _ (@ps_if _ _ _ _ _ _ _ _ (@pt_cmpR _ _ _ _ _ _ _ _ op_eq (@pe_op _ _ _ _ _ _ _ _ op_mod (@pe_op _ _ _ _ _ _ _ _ op_fdiv (pv 5) pe_int) pe_int) pe_int (nomark _)) (@pss_one _ _ _ (@ps_expr _ _ _ _ (@bmK _ _ _ _ _ _ K (@pe_bm _ _ _ _ _ _ _ _ _ _ _ _ PySem.F.plainAttrs_list PySem.F.slot_list_append PySem.F.type_list_append mt_append (pv 8) (@pa_cons _ _ _ _ _ pe_str pa_nil (by rfl)) (by rfl) (by rfl) (by rfl) (by rfl) (by rfl)) (by rfl)) (by rfl))) pss_nil) (@pss_one _ _ _ (@ps_if _ _ _ _ _ _ _ _ (@pt_cmpR _ _ _ _ _ _ _ _ op_ne (@pe_call _ _ _ _ _ _ _ _ _ _ _ _ _ _ _ _ G_law_refused_at (hr.mono (by decide)) (by rfl) T.m_law_refused_at T.k_law_refused_at T.b_law_refused_at .nil pass0 (@pa_cons _ _ _ _ _ (@bmK _ _ _ _ _ _ K (@pe_bm _ _ _ _ _ _ _ _ _ _ _ _ PySem.F.plainAttrs_str PySem.F.slot_str_join PySem.F.type_str_join (mt_join K) pe_str (@pa_cons _ _ _ _ _ (pv 8) pa_nil (by rfl)) (by rfl) (by rfl) (by rfl) (by rfl) (by rfl)) (by rfl)) pa_nil (by rfl)) (by decide) (by rfl) (by rfl)) (@pe_op _ _ _ _ _ _ _ _ op_add (pv 6) pe_int) (nomark _)) (@pss_one _ _ _ (@ps_ret _ _ _ _ pe_bl)) pss_nil)))))))) (by intro _; rfl)) (@pss_cons _ _ _ _ _ (@ps_set _ _ 7 _ _ _ _ sc_law.nd rfl (Or.inl rfl) (@pe_call _ _ _ _ _ _ _ _ _ _ _ _ _ _ _ _ G_law_bad (hr.mono (by decide)) (by rfl) T.m_law_bad T.k_law_bad T.b_law_bad .nil pass0 (@pa_cons _ _ _ _ _ (pv 1) (@pa_cons _ _ _ _ _ (@pe_callB _ _ _ _ _ _ _ _ _ (lenK K) (by rfl) T.n_len PySem.boot_len (@pa_cons _ _ _ _ _ (pv 3) pa_nil (by rfl)) (by decide) (by decide) (by rfl) (by rfl)) (@pa_cons _ _ _ _ _ (@pe_op _ _ _ _ _ _ _ _ op_add pe_int (@pe_op _ _ _ _ _ _ _ _ op_mul pe_int (@pe_callB _ _ _ _ _ _ _ _ _ (lenK K) (by rfl) T.n_len PySem.boot_len (@pa_cons _ _ _ _ _ (pv 0) pa_nil (by rfl)) (by decide) (by decide) (by rfl) (by rfl)))) pa_nil (by rfl)) (by rfl)) (by rfl)) (by decide) (by rfl) (by rfl)) (by rfl) (by first | exact .inl rfl | exact .inr rfl | assumption)) (@pss_cons _ _ _ _ _ (@ps_if _ _ _ _ _ _ _ _ (@pt_cmpR _ _ _ _ _ _ _ _ op_ne (@pe_call _ _ _ _ _ _ _ _ _ _ _ _ _ _ _ _ G_law_refused_at (hr.mono (by decide)) (by rfl) T.m_law_refused_at T.k_law_refused_at T.b_law_refused_at .nil pass0 (@pa_cons _ _ _ _ _ (@bmK _ _ _ _ _ _ K (@pe_bm _ _ _ _ _ _ _ _ _ _ _ _ PySem.F.plainAttrs_str PySem.F.slot_str_join PySem.F.type_str_join (mt_join K) pe_str (@pa_cons _ _ _ _ _ (@pe_op _ _ _ _ _ _ _ _ (catL K) (pv 3) (@pe_lst _ _ _ _ (@pa_cons _ _ _ _ _ (pv 7) pa_nil (by rfl)))) pa_nil (by rfl)) (by rfl) (by rfl) (by rfl) (by rfl) (by rfl)) (by rfl)) pa_nil (by rfl)) (by decide) (by rfl) (by rfl)) (@pe_op _ _ _ _ _ _ _ _ op_add (@pe_callB _ _ _ _ _ _ _ _ _ (lenK K) (by rfl) T.n_len PySem.boot_len (@pa_cons _ _ _ _ _ (pv 3) pa_nil (by rfl)) (by decide) (by decide) (by rfl) (by rfl)) pe_int) (nomark _)) (@pss_one _ _ _ (@ps_ret _ _ _ _ pe_bl)) pss_nil) (@pss_one _ _ _ (@ps_ret _ _ _ _ (@pe_and _ _ _ _ _ _ _ (@pe_cmpR _ _ _ _ _ _ _ _ op_eq (@pe_call _ _ _ _ _ _ _ _ _ _ _ _ _ _ _ _ G_law_refused_at (hr.mono (by decide)) (by rfl) T.m_law_refused_at T.k_law_refused_at T.b_law_refused_at .nil pass0 (@pa_cons _ _ _ _ _ (@bmK _ _ _ _ _ _ K (@pe_bm _ _ _ _ _ _ _ _ _ _ _ _ PySem.F.plainAttrs_str PySem.F.slot_str_join PySem.F.type_str_join (mt_join K) pe_str (@pa_cons _ _ _ _ _ (@pe_call _ _ _ _ _ _ _ _ _ _ _ _ _ _ _ _ G_law_full (hr.mono (by decide)) (by rfl) T.m_law_full T.k_law_full T.b_law_full .nil pass0 (@pa_cons _ _ _ _ _ pe_int pa_nil (by rfl)) (by decide) (by rfl) (by rfl)) pa_nil (by rfl)) (by rfl) (by rfl) (by rfl) (by rfl) (by rfl)) (by rfl)) pa_nil (by rfl)) (by decide) (by rfl) (by rfl)) pe_int (nomark _)) (@pe_one _ _ _ _ _ (@pe_cmpR _ _ _ _ _ _ _ _ op_eq (@pe_call _ _ _ _ _ _ _ _ _ _ _ _ _ _ _ _ G_law_refused_at (hr.mono (by decide)) (by rfl) T.m_law_refused_at T.k_law_refused_at T.b_law_refused_at .nil pass0 (@pa_cons _ _ _ _ _ (@bmK _ _ _ _ _ _ K (@pe_bm _ _ _ _ _ _ _ _ _ _ _ _ PySem.F.plainAttrs_str PySem.F.slot_str_join PySem.F.type_str_join (mt_join K) pe_str (@pa_cons _ _ _ _ _ (@pe_call _ _ _ _ _ _ _ _ _ _ _ _ _ _ _ _ G_law_full (hr.mono (by decide)) (by rfl) T.m_law_full T.k_law_full T.b_law_full .nil pass0 (@pa_cons _ _ _ _ _ pe_int pa_nil (by rfl)) (by decide) (by rfl) (by rfl)) pa_nil (by rfl)) (by rfl) (by rfl) (by rfl) (by rfl) (by rfl)) (by rfl)) pa_nil (by rfl)) (by decide) (by rfl) (by rfl)) pe_int (nomark _)))))))))))), ?_⟩
    refine hd_law ?_
    intro zz0 zz1 zz2 zz3 zz4 zz5 zz6 zz7 zz8 zz9 zz10 zz11 zz12 zz13 zz14 zz15 zz16 zz17 zz18 zz19
    refine (exq rfl ⟨b, ns, rfl, hS, hn, fun r wb R p ts xs as H1 s1 hr1 g p6 h9 hw hR px ok a5 => ?_⟩)
    refine ⟨r, _, rfl, SqT.of hr1, rfl, _, _, rfl, _, _, rfl, rfl, ?_⟩
    refine (exq rfl (exq rfl ⟨wb, R, p, ts, xs, as, rfl, hw, g, h9, hR, px, ok, a5, fun l2 H2 s2 hl2 => ?_⟩))
    rw [page_rows] at hl2
    have jq : ∀ {H : Hp} {l : Addr} {ss : List Str}, H l = some (.lst (ss.map V.str)) → SqL K H l (ss.map V.str) := fun h => SqL.of h
    have hlen : (((pageR p ts as).map rowT).map V.str).length = (pageR p ts as).length := by rw [List.length_map, List.length_map]
    have pl : (pageR p ts as).length = 1 + ts.length + as.length := pageR_len p ts as
    have pok : PageOk (pageR p ts as) := page_whole g.p1 g.p2 g.ties (fun _ => h9) ok (by (first | lia | omega))
    have rows := pok.rows
    refine ⟨rfl, .ref l2, rfl, _, l2, (pageR p ts as).map rowT, rfl, rfl, jq hl2, pageW_ok pok, (pageR p ts as), stAt p ts, (pageR p ts as).length, rfl, pok, rfl, step_page g.p1 g.p2 (fun k _ _ => good_take g _) (fun _ => h9) ok, .inl ⟨Nat.le_refl _, fun H3 s3 => ⟨rfl, exq rfl (iteNS rfl ?_)⟩⟩⟩
    have hl2 := s3 _ _ hl2
    have hw := hw.same (s2.trans s3)
    have s02 := s1.trans (s2.trans s3)
    clear s1 s2 hr1 hR px
    clear s3
    have p10 : p ≤ 10 := g.p2
    generalize hX : ((pageR p ts as).map rowT).map V.str = X at hl2 hlen
    have hml : (ns.map V.int).length = ns.length := List.length_map ..
    refine ⟨.ref b, rfl, b, ns.map V.int, rfl, .inl (s02.seq hS), ((ns.map V.int).length : Int), 16, rfl, ?_⟩
    obtain ⟨k0, ek, k16, kn0⟩ : ∃ k0 : Nat, (if (16 : Int) < ((ns.map V.int).length : Int) then (16 : Int) else ((ns.map V.int).length : Int)) = (k0 : Int) ∧ k0 ≤ 16 ∧ k0 ≤ ns.length := by
      rw [hml]
      by_cases h : (16 : Int) < (ns.length : Int)
      · exact ⟨16, by rw [if_pos h]; rfl, by (first | lia | omega), by (first | lia | omega)⟩
      · exact ⟨ns.length, by rw [if_neg h], by (first | lia | omega), by (first | lia | omega)⟩
    refine ⟨(k0 : Int), congrArg (fun z => [V.int z]) ek, by (first | lia | omega), by (first | lia | omega), for_range (lo := 0) (n := (k0 : Int).toNat) (fun k σ H4 => ∃ v4 v5 v6 v7 v8, σ = [some (.ref b), some (.ref wb), some (.ref R), some (.ref l2), v4, v5, v6, v7, v8] ∧ Same H3 H4) ⟨_, _, _, _, _, rfl, Same.refl _⟩ ?_ ?_⟩
    · rintro k σ H4 hk ⟨v4, v5, v6, v7, v8, rfl, s4⟩
      have hk : k < k0 := by rw [Int.toNat_natCast] at hk; exact hk
      refine ⟨.ref b, rfl, .int (0 + (k : Int)), rfl, b, ns.map V.int, 0 + (k : Int), .int (ns.getD k 0), rfl, rfl, (s02.trans s4).seq hS, ?_, .int (0 + (k : Int)), rfl, 20, 0 + (k : Int), rfl, rfl, _, _, rfl, fun z z0 z1 => ?_⟩
      · rw [Int.zero_add]
        exact atI_nat (ints_at (by (first | lia | omega)))
      -- the rest of a turn, by the place
      have go : ∀ (E9 : Ends) (i : Nat), i < (pageR p ts as).length → (∀ σ H5, (∃ v4 v5 v6 v7 v8, σ = [some (.ref b), some (.ref wb), some (.ref R), some (.ref l2), v4, v5, v6, v7, v8] ∧ Same H3 H5) → E9.nx σ H5) → zz11 E9 [some (.ref b), some (.ref wb), some (.ref R), some (.ref l2), some (.int (0 + (k : Int))), some (.int z), some (.int (i : Int)), v7, v8] H4 := by
        intro E9 i hi kn
        refine ⟨.ref wb, rfl, .int (i : Int), rfl, .int z, rfl, z, 200, rfl, rfl, ⟨by decide, by decide⟩, wb, p, ts, i, z / 200, rfl, hw.same s4, p10, h9, fun y H4' s4' hy => ?_⟩
        have s4 := s4.trans s4'
        clear s4'
        generalize H4' = H4 at s4
        obtain ⟨r, ey, rk, hbad⟩ := hy
        have go5 : ∀ (E9 : Ends) (l8 : Addr) (rest : List RowW) (H5 : Hp), Same H3 H5 → H5 l8 = some (.lst ((((pageR p ts as).take i ++ r :: rest).map rowT).map V.str)) → (∀ x ∈ rest, RowOk x) → rest.length ≤ 20 → (∀ σ H5, (∃ v4 v5 v6 v7 v8, σ = [some (.ref b), some (.ref wb), some (.ref R), some (.ref l2), v4, v5, v6, v7, v8] ∧ Same H3 H5) → E9.nx σ H5) →
            zz5 E9 [some (.ref b), some (.ref wb), some (.ref R), some (.ref l2), some (.int (0 + (k : Int))), some (.int z), some (.int (i : Int)), some (.str y), some (.ref l8)] H5 := by
          intro E9 l8 rest H5 s5 h8 hrest hl kn
          obtain ⟨q1, q2, q3⟩ := spoil g h9 ok a5 (Nat.le_of_lt hi) rk hrest hl
          refine ⟨rfl, .ref l8, rfl, _, l8, ((pageR p ts as).take i ++ r :: rest).map rowT, rfl, rfl, jq h8, pageW_ok q1, (pageR p ts as).take i ++ r :: rest, stAt p ts, i, rfl, q1, rfl, q2, .inr ⟨r, q3, hbad, fun H6 s6 => ?_⟩⟩
          exact ⟨.int (i : Int), rfl, (i : Int), 1, rfl, rfl, rfl, exq rfl (iteNS rfl (kn _ _ ⟨_, _, _, _, _, rfl, s5.trans s6⟩))⟩
        have go7 : ∀ (E9 : Ends) (l8 : Addr) (rest : List RowW) (H5 : Hp), Same H3 H5 → H3 l8 = none → H5 l8 = some (.lst ((((pageR p ts as).take i ++ r :: rest).map rowT).map V.str)) → (∀ x ∈ rest, RowOk x) → rest.length ≤ 15 → (∀ σ H5, (∃ v4 v5 v6 v7 v8, σ = [some (.ref b), some (.ref wb), some (.ref R), some (.ref l2), v4, v5, v6, v7, v8] ∧ Same H3 H5) → E9.nx σ H5) →
            zz7 E9 [some (.ref b), some (.ref wb), some (.ref R), some (.ref l2), some (.int (0 + (k : Int))), some (.int z), some (.int (i : Int)), some (.str y), some (.ref l8)] H5 := by
          intro E9 l8 rest H5 s5 n8 h8 hrest hl kn
          refine ⟨.int z, rfl, z, 183, rfl, rfl, ⟨by decide, by decide⟩, z / 183, 4, rfl, rfl, modC rfl, rfl, exq rfl (ite2 (fun _ => ?_) fun _ => go5 E9 l8 rest H5 s5 h8 hrest (by (first | lia | omega)) kn)⟩
          refine ⟨.ref l8, rfl, .inl ⟨rfl, _, SqL.of h8⟩, l8, _, .str "base 0", rfl, rfl, h8, small1000 (by rw [List.length_map, List.length_map, List.length_append, List.length_cons, List.length_take]; (first | lia | omega)), ?_⟩
          refine go5 E9 l8 (rest ++ [(("base" : Str), [("0" : Str)])]) _ (s5.put n8) ?_ (fun x hx => ?_) (by rw [List.length_append, List.length_singleton]; (first | lia | omega)) kn
          · rw [upd_same, ← base0.1, ← List.cons_append, ← List.append_assoc, List.map_append (l₂ := [_]), List.map_append (l₂ := List.map rowT _)]
            rfl
          · rcases List.mem_append.mp hx with hx | hx
            · exact hrest x hx
            · rw [List.mem_singleton.mp hx]
              exact .of base0.2
        have hX2 : X.length = (pageR p ts as).length := hlen
        have br1 : ∀ (E9 : Ends), (∀ σ H5, (∃ v4 v5 v6 v7 v8, σ = [some (.ref b), some (.ref wb), some (.ref R), some (.ref l2), v4, v5, v6, v7, v8] ∧ Same H3 H5) → E9.nx σ H5) → zz8 (E9.on zz7) [some (.ref b), some (.ref wb), some (.ref R), some (.ref l2), some (.int (0 + (k : Int))), some (.int z), some (.int (i : Int)), some (.str y), v8] H4 := by
          intro E9 kn
          refine ⟨.ref l2, rfl, .int (i : Int), rfl, (i : Int), rfl, l2, X, rfl, SqL.of (s4 _ _ hl2), fun c1 hc1 => ?_⟩
          rw [cut_to]
          have t1 : Same H4 (upd H4 c1 (.lst (X.take i))) := Same.new hc1
          have f1 : upd H4 c1 (.lst (X.take i)) c1 = some (.lst (X.take i)) := upd_same
          generalize upd H4 c1 (.lst (X.take i)) = H5 at t1 f1
          refine ⟨.str y, rfl, dl rfl, fun c2 hc2 => ?_⟩
          have t2 : Same H5 (upd H5 c2 (.lst [.str y])) := Same.new hc2
          refine ⟨c1, c2, X.take i, [.str y], rfl, rfl, SqL.of (t2 _ _ f1), SqL.of upd_same, Nat.le_of_lt (small1000 (by rw [List.length_take, List.length_singleton]; (first | lia | omega))), fun c3 hc3 => ?_⟩
          have t3 : Same H4 (upd (upd H5 c2 (.lst [.str y])) c3 (.lst (X.take i ++ [.str y]))) := (t1.trans t2).trans (Same.new hc3)
          have f3 : upd (upd H5 c2 (.lst [.str y])) c3 (.lst (X.take i ++ [.str y])) c3 = some (.lst (X.take i ++ [.str y])) := upd_same
          generalize upd (upd H5 c2 (.lst [.str y])) c3 (.lst (X.take i ++ [.str y])) = H6 at t3 f3
          refine ⟨.ref l2, rfl, .int (i : Int), rfl, (i : Int), rfl, l2, X, rfl, SqL.of (t3 _ _ (s4 _ _ hl2)), fun c4 hc4 => ?_⟩
          rw [cut_from X (i) (by (first | lia | omega))]
          have t4 : Same H6 (upd H6 c4 (.lst (X.drop (i)))) := Same.new hc4
          refine ⟨c3, c4, X.take i ++ [.str y], X.drop (i), rfl, rfl, SqL.of (t4 _ _ f3), SqL.of upd_same, Nat.le_of_lt (small1000 (by rw [List.length_append, List.length_take, List.length_singleton, List.length_drop]; (first | lia | omega))), fun l8 hl8 => ?_⟩
          have t8 := (t3.trans t4).trans (Same.new (o := .lst (X.take i ++ [.str y] ++ X.drop (i))) hl8)
          refine go7 _ l8 ((pageR p ts as).drop (i)) _ (s4.trans t8) ((s4.trans (t3.trans t4)).free hl8) ?_ (fun x hx => rows x (List.mem_of_mem_drop hx)) (by rw [List.length_drop]; (first | lia | omega)) kn
          rw [upd_same, ey, ← hX]
          show some (HO.lst ((((pageR p ts as).map rowT).map V.str).take i ++ [.str (rowT r)] ++ (((pageR p ts as).map rowT).map V.str).drop (i))) = _
          rw [← List.map_take, ← List.map_take, ← List.map_drop, ← List.map_drop, List.map_append, List.map_append, List.map_cons, List.map_cons, List.append_assoc]
          rfl
        have br2 : ∀ (E9 : Ends), (∀ σ H5, (∃ v4 v5 v6 v7 v8, σ = [some (.ref b), some (.ref wb), some (.ref R), some (.ref l2), v4, v5, v6, v7, v8] ∧ Same H3 H5) → E9.nx σ H5) → zz9 (E9.on zz7) [some (.ref b), some (.ref wb), some (.ref R), some (.ref l2), some (.int (0 + (k : Int))), some (.int z), some (.int (i : Int)), some (.str y), v8] H4 := by
          intro E9 kn
          refine ⟨.ref l2, rfl, .int (i : Int), rfl, (i : Int), rfl, l2, X, rfl, SqL.of (s4 _ _ hl2), fun c1 hc1 => ?_⟩
          rw [cut_to]
          have t1 : Same H4 (upd H4 c1 (.lst (X.take i))) := Same.new hc1
          have f1 : upd H4 c1 (.lst (X.take i)) c1 = some (.lst (X.take i)) := upd_same
          generalize upd H4 c1 (.lst (X.take i)) = H5 at t1 f1
          refine ⟨.str y, rfl, dl rfl, fun c2 hc2 => ?_⟩
          have t2 : Same H5 (upd H5 c2 (.lst [.str y])) := Same.new hc2
          refine ⟨c1, c2, X.take i, [.str y], rfl, rfl, SqL.of (t2 _ _ f1), SqL.of upd_same, Nat.le_of_lt (small1000 (by rw [List.length_take, List.length_singleton]; (first | lia | omega))), fun c3 hc3 => ?_⟩
          have t3 : Same H4 (upd (upd H5 c2 (.lst [.str y])) c3 (.lst (X.take i ++ [.str y]))) := (t1.trans t2).trans (Same.new hc3)
          have f3 : upd (upd H5 c2 (.lst [.str y])) c3 (.lst (X.take i ++ [.str y])) c3 = some (.lst (X.take i ++ [.str y])) := upd_same
          generalize upd (upd H5 c2 (.lst [.str y])) c3 (.lst (X.take i ++ [.str y])) = H6 at t3 f3
          refine ⟨.ref l2, rfl, .int (i : Int), rfl, (i : Int), 1, rfl, rfl, ((i + 1 : Nat) : Int), rfl, l2, X, rfl, SqL.of (t3 _ _ (s4 _ _ hl2)), fun c4 hc4 => ?_⟩
          rw [cut_from X (i + 1) (by (first | lia | omega))]
          have t4 : Same H6 (upd H6 c4 (.lst (X.drop (i + 1)))) := Same.new hc4
          refine ⟨c3, c4, X.take i ++ [.str y], X.drop (i + 1), rfl, rfl, SqL.of (t4 _ _ f3), SqL.of upd_same, Nat.le_of_lt (small1000 (by rw [List.length_append, List.length_take, List.length_singleton, List.length_drop]; (first | lia | omega))), fun l8 hl8 => ?_⟩
          have t8 := (t3.trans t4).trans (Same.new (o := .lst (X.take i ++ [.str y] ++ X.drop (i + 1))) hl8)
          refine go7 _ l8 ((pageR p ts as).drop (i + 1)) _ (s4.trans t8) ((s4.trans (t3.trans t4)).free hl8) ?_ (fun x hx => rows x (List.mem_of_mem_drop hx)) (by rw [List.length_drop]; (first | lia | omega)) kn
          rw [upd_same, ey, ← hX]
          show some (HO.lst ((((pageR p ts as).map rowT).map V.str).take i ++ [.str (rowT r)] ++ (((pageR p ts as).map rowT).map V.str).drop (i + 1))) = _
          rw [← List.map_take, ← List.map_take, ← List.map_drop, ← List.map_drop, List.map_append, List.map_append, List.map_cons, List.map_cons, List.append_assoc]
          rfl
        refine ⟨.int (i : Int), rfl, (i : Int), 0, rfl, rfl, exq rfl (?_)⟩
        by_cases h0 : 0 < i
        · refine iteP (by (first | lia | omega)) ⟨.int z, rfl, z, 61, rfl, rfl, ⟨by decide, by decide⟩, z / 61, 3, rfl, rfl, modC rfl, rfl, exq rfl (ite2 (fun _ => br1 E9 kn) fun _ => br2 E9 kn)⟩
        · exact iteD (by (first | lia | omega)) (br2 E9 kn)
      refine ⟨.int z, rfl, .ref l2, rfl, l2, X, rfl, .inl (SqL.of (s4 _ _ hl2)), z, (X.length : Int), rfl, rfl, by (first | lia | omega), ?_⟩
      obtain ⟨i0, e0, hi0⟩ : ∃ i0 : Nat, z % (X.length : Int) = (i0 : Int) ∧ i0 < (pageR p ts as).length := by
        rw [hlen]
        have h1 := Int.emod_nonneg z (show ((pageR p ts as).length : Int) ≠ 0 by (first | lia | omega))
        have h2 := Int.emod_lt_of_pos z (show (0 : Int) < ((pageR p ts as).length : Int) by (first | lia | omega))
        exact ⟨(z % ((pageR p ts as).length : Int)).toNat, by (first | lia | omega), by (first | lia | omega)⟩
      dsimp only
      rw [e0]
      exact ⟨.int z, rfl, z, 61, rfl, rfl, ⟨by decide, by decide⟩, z / 61, 3, rfl, rfl, modC rfl, rfl, exq rfl (ite2 (fun _ => go _ 0 (by (first | lia | omega)) fun _ _ h => h) fun _ => go _ i0 hi0 fun _ _ h => h)⟩
    · rintro σ H4 ⟨v4, v5, v6, v7, v8, rfl, s4⟩
      have jX : SqL K H4 l2 X := SqL.of (s4 _ _ hl2)
      refine ⟨.ref wb, rfl, .ref l2, rfl, l2, X, rfl, .inl jX, .ref b, rfl, b, ns.map V.int, rfl, .inl ((s02.trans s4).seq hS), 14, ((ns.map V.int).length : Int), rfl, rfl, .inl ⟨by decide, by decide⟩, 7, 14 * ((ns.map V.int).length : Int), rfl, rfl, wb, p, ts, (pageR p ts as).length, 7 + 14 * ((ns.map V.int).length : Int), by rw [hlen]; rfl, hw.same s4, p10, h9, fun y H5 s5 hy => ?_⟩
      obtain ⟨r, ey, rk, hbad⟩ := hy
      obtain ⟨q1, q2, q3⟩ := spoil g h9 ok a5 (Nat.le_refl _) rk (rest := []) (fun _ h => nomatch h) (by decide)
      have jX5 : SqL K H5 l2 X := SqL.of (s5 _ _ (s4 _ _ hl2))
      have hl5 : H5 l2 = some (.lst X) := s5 _ _ (s4 _ _ hl2)
      refine ⟨rfl, .ref l2, rfl, .str y, rfl, dl rfl, fun c2 hc2 => ?_⟩
      have t2 : Same H5 (upd H5 c2 (.lst [.str y])) := Same.new hc2
      refine ⟨l2, c2, X, [.str y], rfl, rfl, SqL.of (t2 _ _ hl5), SqL.of upd_same, Nat.le_of_lt (small1000 (by rw [List.length_singleton]; (first | lia | omega))), fun c3 hc3 => ?_⟩
      have t3 : Same H5 (upd (upd H5 c2 (.lst [.str y])) c3 (.lst (X ++ [.str y]))) := t2.trans (Same.new hc3)
      have f3 : upd (upd H5 c2 (.lst [.str y])) c3 (.lst (X ++ [.str y])) c3 = some (.lst ((((pageR p ts as).take (pageR p ts as).length ++ [r]).map rowT).map V.str)) := by
        rw [upd_same, ey, ← hX, List.take_length, List.map_append, List.map_append]
        rfl
      generalize upd (upd H5 c2 (.lst [.str y])) c3 (.lst (X ++ [.str y])) = H6 at t3 f3
      refine ⟨_, c3, ((pageR p ts as).take (pageR p ts as).length ++ [r]).map rowT, rfl, rfl, jq f3, pageW_ok q1, (pageR p ts as).take (pageR p ts as).length ++ [r], stAt p ts, (pageR p ts as).length, rfl, q1, rfl, q2, .inr ⟨r, q3, hbad, fun H7 s7 => ?_⟩⟩
      have jX7 : SqL K H7 l2 X := SqL.of (s7 _ _ (t3 _ _ hl5))
      refine ⟨.ref l2, rfl, l2, X, rfl, .inl jX7, (X.length : Int), 1, rfl, rfl, rfl, exq rfl (iteNS (by rw [hlen]) ?_)⟩
      refine ⟨rfl, 24, rfl, by decide, fun lf H8 s8 hf => ?_⟩
      refine ⟨_, lf, (pageR 2 (fullT 24) []).map rowT, rfl, rfl, jq hf, pageW_ok (full_page (by decide)), pageR 2 (fullT 24) [], stAt 2 (fullT 24), 25, rfl, full_page (by decide), rfl, full_step (by decide) (by decide) (by decide), .inl ⟨by rw [pageR_len, full_len]; decide, fun H9 s9 => ?_⟩⟩
      refine ⟨rfl, true, by rw [decide_eq_true rfl], iteT ?_⟩
      refine ⟨rfl, 26, rfl, by decide, fun lg H10 s10 hg => ?_⟩
      refine ⟨_, lg, (pageR 2 (fullT 26) []).map rowT, rfl, rfl, jq hg, pageW_ok (full_page (by decide)), pageR 2 (fullT 26) [], stAt 2 (fullT 26), 25, rfl, full_page (by decide), rfl, full_step (by decide) (by decide) (by decide), .inr ⟨_, full_26, full_bad, fun H11 s11 => ⟨rfl, ?_⟩⟩⟩
      rw [show decide (V.int (((25 : Nat) : Int) + 1) = V.int 26) = true from decide_eq_true rfl]
      exact fin _
end

theorem all_mk {l : PySem.W.OpenLaw} {w : World} {K : PySem.W.Frag} {h : Heap} {mg : Str → Option Value} {fa : Addr} (X : K.In h) (G : h.Ns mainGlobals mg) (hfa : mg "law" = some (.ref fa))
    {f0 f1 f2 f3 f4 f5 f6 f7 f8 f9 f10 f11 f12 f13 f14 f15 f16 f17 f18 f19 f20 f21 f22 f23 f24 f25 f26 : Addr} {od0 an0 od1 an1 od2 an2 od3 an3 od4 an4 od5 an5 od6 an6 od7 an7 od8 an8 od9 an9 od10 an10 od11 an11 od12 an12 od13 an13 od14 an14 od15 an15 od16 an16 od17 an17 od18 an18 od19 an19 od20 an20 od21 an21 od22 an22 od23 an23 od24 an24 od25 an25 od26 an26 : Option Addr} {sl0 sl1 sl2 sl3 sl4 sl5 sl6 sl7 sl8 sl9 sl10 sl11 sl12 sl13 sl14 sl15 sl16 sl17 sl18 sl19 sl20 sl21 sl22 sl23 sl24 sl25 sl26 : Array (Option Value)}
    {oc0 kV0 dc0 pm0 cd0 ct0 oc1 kV1 dc1 pm1 cd1 ct1 oc2 kV2 dc2 pm2 cd2 ct2 oc3 kV3 dc3 pm3 cd3 ct3 oc4 kV4 dc4 pm4 cd4 ct4 oc5 kV5 dc5 pm5 cd5 ct5 oc6 kV6 dc6 pm6 cd6 ct6 oc7 kV7 dc7 pm7 cd7 ct7 oc8 kV8 dc8 pm8 cd8 ct8 oc9 kV9 dc9 pm9 cd9 ct9 oc10 kV10 dc10 pm10 cd10 ct10 oc11 kV11 dc11 pm11 cd11 ct11 oc12 kV12 dc12 pm12 cd12 ct12 oc13 kV13 dc13 pm13 cd13 ct13 oc14 kV14 dc14 pm14 cd14 ct14 oc15 kV15 dc15 pm15 cd15 ct15 oc16 kV16 dc16 pm16 cd16 ct16 oc17 kV17 dc17 pm17 cd17 ct17 oc18 kV18 dc18 pm18 cd18 ct18 oc19 kV19 dc19 pm19 cd19 ct19 oc20 kV20 dc20 pm20 cd20 ct20 oc21 kV21 dc21 pm21 cd21 ct21 oc22 kV22 dc22 pm22 cd22 ct22 oc23 kV23 dc23 pm23 cd23 ct23 oc24 kV24 dc24 pm24 cd24 ct24 oc25 kV25 dc25 pm25 cd25 ct25 oc26 kV26 dc26 pm26 cd26 ct26 : Value}
    {u_RingError u_BadWeb u_BadSet u_BadPoint u_NotRing u_NoChord u_NoBase u_NoSuch u_TooMany u_BadRow u_NoDeed u_NotEven u_NoText : Addr}
    {t_MOST_POINTS t_MOST_TIES t_LONGEST t_MOST_FIGURES : Tok}
    {t_FIGURES : Tok}
    {v_BARE_WORDS : Addr} {vd_BARE_WORDS : Option Addr} {vn_BARE_WORDS : Nat} {vs_BARE_WORDS : Array (Option Value)} {vt0_BARE_WORDS vt1_BARE_WORDS vt2_BARE_WORDS : Tok}
    {v_TIES_WORDS : Addr} {vd_TIES_WORDS : Option Addr} {vn_TIES_WORDS : Nat} {vs_TIES_WORDS : Array (Option Value)} {vt0_TIES_WORDS vt1_TIES_WORDS vt2_TIES_WORDS : Tok}
    (a0 : PySem.W.nsIn K mainGlobals "made_web" = some (some (.ref f0)))
    (l0 : K.lookup f0 = some ⟨oc0, od0, .func (PySem.W.fnOf "made_web" "made_web" (defArgs s_made_web) (defBody s_made_web) (defScope s_made_web) .none kV0 dc0 pm0 an0 cd0 ct0), sl0⟩)
    (c0 : PySem.W.codeIn K cd0 "made_web" = true) (k0 : PySem.W.keepIn K (.ref f0) = true)
    (a1 : PySem.W.nsIn K mainGlobals "made_tie" = some (some (.ref f1)))
    (l1 : K.lookup f1 = some ⟨oc1, od1, .func (PySem.W.fnOf "made_tie" "made_tie" (defArgs s_made_tie) (defBody s_made_tie) (defScope s_made_tie) .none kV1 dc1 pm1 an1 cd1 ct1), sl1⟩)
    (c1 : PySem.W.codeIn K cd1 "made_tie" = true) (k1 : PySem.W.keepIn K (.ref f1) = true)
    (a2 : PySem.W.nsIn K mainGlobals "is_number" = some (some (.ref f2)))
    (l2 : K.lookup f2 = some ⟨oc2, od2, .func (PySem.W.fnOf "is_number" "is_number" (defArgs s_is_number) (defBody s_is_number) (defScope s_is_number) .none kV2 dc2 pm2 an2 cd2 ct2), sl2⟩)
    (c2 : PySem.W.codeIn K cd2 "is_number" = true) (k2 : PySem.W.keepIn K (.ref f2) = true)
    (a3 : PySem.W.nsIn K mainGlobals "is_signed" = some (some (.ref f3)))
    (l3 : K.lookup f3 = some ⟨oc3, od3, .func (PySem.W.fnOf "is_signed" "is_signed" (defArgs s_is_signed) (defBody s_is_signed) (defScope s_is_signed) .none kV3 dc3 pm3 an3 cd3 ct3), sl3⟩)
    (c3 : PySem.W.codeIn K cd3 "is_signed" = true) (k3 : PySem.W.keepIn K (.ref f3) = true)
    (a4 : PySem.W.nsIn K mainGlobals "numbers_read" = some (some (.ref f4)))
    (l4 : K.lookup f4 = some ⟨oc4, od4, .func (PySem.W.fnOf "numbers_read" "numbers_read" (defArgs s_numbers_read) (defBody s_numbers_read) (defScope s_numbers_read) .none kV4 dc4 pm4 an4 cd4 ct4), sl4⟩)
    (c4 : PySem.W.codeIn K cd4 "numbers_read" = true) (k4 : PySem.W.keepIn K (.ref f4) = true)
    (a5 : PySem.W.nsIn K mainGlobals "web_grown" = some (some (.ref f5)))
    (l5 : K.lookup f5 = some ⟨oc5, od5, .func (PySem.W.fnOf "web_grown" "web_grown" (defArgs s_web_grown) (defBody s_web_grown) (defScope s_web_grown) .none kV5 dc5 pm5 an5 cd5 ct5), sl5⟩)
    (c5 : PySem.W.codeIn K cd5 "web_grown" = true) (k5 : PySem.W.keepIn K (.ref f5) = true)
    (a6 : PySem.W.nsIn K mainGlobals "ascend_below" = some (some (.ref f6)))
    (l6 : K.lookup f6 = some ⟨oc6, od6, .func (PySem.W.fnOf "ascend_below" "ascend_below" (defArgs s_ascend_below) (defBody s_ascend_below) (defScope s_ascend_below) .none kV6 dc6 pm6 an6 cd6 ct6), sl6⟩)
    (c6 : PySem.W.codeIn K cd6 "ascend_below" = true) (k6 : PySem.W.keepIn K (.ref f6) = true)
    (a7 : PySem.W.nsIn K mainGlobals "ties_asked" = some (some (.ref f7)))
    (l7 : K.lookup f7 = some ⟨oc7, od7, .func (PySem.W.fnOf "ties_asked" "ties_asked" (defArgs s_ties_asked) (defBody s_ties_asked) (defScope s_ties_asked) .none kV7 dc7 pm7 an7 cd7 ct7), sl7⟩)
    (c7 : PySem.W.codeIn K cd7 "ties_asked" = true) (k7 : PySem.W.keepIn K (.ref f7) = true)
    (a8 : PySem.W.nsIn K mainGlobals "heights_asked" = some (some (.ref f8)))
    (l8 : K.lookup f8 = some ⟨oc8, od8, .func (PySem.W.fnOf "heights_asked" "heights_asked" (defArgs s_heights_asked) (defBody s_heights_asked) (defScope s_heights_asked) .none kV8 dc8 pm8 an8 cd8 ct8), sl8⟩)
    (c8 : PySem.W.codeIn K cd8 "heights_asked" = true) (k8 : PySem.W.keepIn K (.ref f8) = true)
    (a9 : PySem.W.nsIn K mainGlobals "asked_by" = some (some (.ref f9)))
    (l9 : K.lookup f9 = some ⟨oc9, od9, .func (PySem.W.fnOf "asked_by" "asked_by" (defArgs s_asked_by) (defBody s_asked_by) (defScope s_asked_by) .none kV9 dc9 pm9 an9 cd9 ct9), sl9⟩)
    (c9 : PySem.W.codeIn K cd9 "asked_by" = true) (k9 : PySem.W.keepIn K (.ref f9) = true)
    (a10 : PySem.W.nsIn K mainGlobals "read_page" = some (some (.ref f10)))
    (l10 : K.lookup f10 = some ⟨oc10, od10, .func (PySem.W.fnOf "read_page" "read_page" (defArgs s_read_page) (defBody s_read_page) (defScope s_read_page) .none kV10 dc10 pm10 an10 cd10 ct10), sl10⟩)
    (c10 : PySem.W.codeIn K cd10 "read_page" = true) (k10 : PySem.W.keepIn K (.ref f10) = true)
    (a11 : PySem.W.nsIn K mainGlobals "_law_cell" = some (some (.ref f11)))
    (l11 : K.lookup f11 = some ⟨oc11, od11, .func (PySem.W.fnOf "_law_cell" "_law_cell" (defArgs s_law_cell) (defBody s_law_cell) (defScope s_law_cell) .none kV11 dc11 pm11 an11 cd11 ct11), sl11⟩)
    (c11 : PySem.W.codeIn K cd11 "_law_cell" = true) (k11 : PySem.W.keepIn K (.ref f11) = true)
    (a12 : PySem.W.nsIn K mainGlobals "_law_stir" = some (some (.ref f12)))
    (l12 : K.lookup f12 = some ⟨oc12, od12, .func (PySem.W.fnOf "_law_stir" "_law_stir" (defArgs s_law_stir) (defBody s_law_stir) (defScope s_law_stir) .none kV12 dc12 pm12 an12 cd12 ct12), sl12⟩)
    (c12 : PySem.W.codeIn K cd12 "_law_stir" = true) (k12 : PySem.W.keepIn K (.ref f12) = true)
    (a13 : PySem.W.nsIn K mainGlobals "_law_tie" = some (some (.ref f13)))
    (l13 : K.lookup f13 = some ⟨oc13, od13, .func (PySem.W.fnOf "_law_tie" "_law_tie" (defArgs s_law_tie) (defBody s_law_tie) (defScope s_law_tie) .none kV13 dc13 pm13 an13 cd13 ct13), sl13⟩)
    (c13 : PySem.W.codeIn K cd13 "_law_tie" = true) (k13 : PySem.W.keepIn K (.ref f13) = true)
    (a14 : PySem.W.nsIn K mainGlobals "_law_web" = some (some (.ref f14)))
    (l14 : K.lookup f14 = some ⟨oc14, od14, .func (PySem.W.fnOf "_law_web" "_law_web" (defArgs s_law_web) (defBody s_law_web) (defScope s_law_web) .none kV14 dc14 pm14 an14 cd14 ct14), sl14⟩)
    (c14 : PySem.W.codeIn K cd14 "_law_web" = true) (k14 : PySem.W.keepIn K (.ref f14) = true)
    (a15 : PySem.W.nsIn K mainGlobals "_law_row_of" = some (some (.ref f15)))
    (l15 : K.lookup f15 = some ⟨oc15, od15, .func (PySem.W.fnOf "_law_row_of" "_law_row_of" (defArgs s_law_row_of) (defBody s_law_row_of) (defScope s_law_row_of) .none kV15 dc15 pm15 an15 cd15 ct15), sl15⟩)
    (c15 : PySem.W.codeIn K cd15 "_law_row_of" = true) (k15 : PySem.W.keepIn K (.ref f15) = true)
    (a16 : PySem.W.nsIn K mainGlobals "_law_page" = some (some (.ref f16)))
    (l16 : K.lookup f16 = some ⟨oc16, od16, .func (PySem.W.fnOf "_law_page" "_law_page" (defArgs s_law_page) (defBody s_law_page) (defScope s_law_page) .none kV16 dc16 pm16 an16 cd16 ct16), sl16⟩)
    (c16 : PySem.W.codeIn K cd16 "_law_page" = true) (k16 : PySem.W.keepIn K (.ref f16) = true)
    (a17 : PySem.W.nsIn K mainGlobals "_law_text" = some (some (.ref f17)))
    (l17 : K.lookup f17 = some ⟨oc17, od17, .func (PySem.W.fnOf "_law_text" "_law_text" (defArgs s_law_text) (defBody s_law_text) (defScope s_law_text) .none kV17 dc17 pm17 an17 cd17 ct17), sl17⟩)
    (c17 : PySem.W.codeIn K cd17 "_law_text" = true) (k17 : PySem.W.keepIn K (.ref f17) = true)
    (a18 : PySem.W.nsIn K mainGlobals "_law_refused_at" = some (some (.ref f18)))
    (l18 : K.lookup f18 = some ⟨oc18, od18, .func (PySem.W.fnOf "_law_refused_at" "_law_refused_at" (defArgs s_law_refused_at) (defBody s_law_refused_at) (defScope s_law_refused_at) .none kV18 dc18 pm18 an18 cd18 ct18), sl18⟩)
    (c18 : PySem.W.codeIn K cd18 "_law_refused_at" = true) (k18 : PySem.W.keepIn K (.ref f18) = true)
    (a19 : PySem.W.nsIn K mainGlobals "_law_number_bad" = some (some (.ref f19)))
    (l19 : K.lookup f19 = some ⟨oc19, od19, .func (PySem.W.fnOf "_law_number_bad" "_law_number_bad" (defArgs s_law_number_bad) (defBody s_law_number_bad) (defScope s_law_number_bad) .none kV19 dc19 pm19 an19 cd19 ct19), sl19⟩)
    (c19 : PySem.W.codeIn K cd19 "_law_number_bad" = true) (k19 : PySem.W.keepIn K (.ref f19) = true)
    (a20 : PySem.W.nsIn K mainGlobals "_law_first_bad" = some (some (.ref f20)))
    (l20 : K.lookup f20 = some ⟨oc20, od20, .func (PySem.W.fnOf "_law_first_bad" "_law_first_bad" (defArgs s_law_first_bad) (defBody s_law_first_bad) (defScope s_law_first_bad) .none kV20 dc20 pm20 an20 cd20 ct20), sl20⟩)
    (c20 : PySem.W.codeIn K cd20 "_law_first_bad" = true) (k20 : PySem.W.keepIn K (.ref f20) = true)
    (a21 : PySem.W.nsIn K mainGlobals "_law_tie_bad" = some (some (.ref f21)))
    (l21 : K.lookup f21 = some ⟨oc21, od21, .func (PySem.W.fnOf "_law_tie_bad" "_law_tie_bad" (defArgs s_law_tie_bad) (defBody s_law_tie_bad) (defScope s_law_tie_bad) .none kV21 dc21 pm21 an21 cd21 ct21), sl21⟩)
    (c21 : PySem.W.codeIn K cd21 "_law_tie_bad" = true) (k21 : PySem.W.keepIn K (.ref f21) = true)
    (a22 : PySem.W.nsIn K mainGlobals "_law_ask_bad" = some (some (.ref f22)))
    (l22 : K.lookup f22 = some ⟨oc22, od22, .func (PySem.W.fnOf "_law_ask_bad" "_law_ask_bad" (defArgs s_law_ask_bad) (defBody s_law_ask_bad) (defScope s_law_ask_bad) .none kV22 dc22 pm22 an22 cd22 ct22), sl22⟩)
    (c22 : PySem.W.codeIn K cd22 "_law_ask_bad" = true) (k22 : PySem.W.keepIn K (.ref f22) = true)
    (a23 : PySem.W.nsIn K mainGlobals "_law_bad" = some (some (.ref f23)))
    (l23 : K.lookup f23 = some ⟨oc23, od23, .func (PySem.W.fnOf "_law_bad" "_law_bad" (defArgs s_law_bad) (defBody s_law_bad) (defScope s_law_bad) .none kV23 dc23 pm23 an23 cd23 ct23), sl23⟩)
    (c23 : PySem.W.codeIn K cd23 "_law_bad" = true) (k23 : PySem.W.keepIn K (.ref f23) = true)
    (a24 : PySem.W.nsIn K mainGlobals "_law_full" = some (some (.ref f24)))
    (l24 : K.lookup f24 = some ⟨oc24, od24, .func (PySem.W.fnOf "_law_full" "_law_full" (defArgs s_law_full) (defBody s_law_full) (defScope s_law_full) .none kV24 dc24 pm24 an24 cd24 ct24), sl24⟩)
    (c24 : PySem.W.codeIn K cd24 "_law_full" = true) (k24 : PySem.W.keepIn K (.ref f24) = true)
    (a25 : PySem.W.nsIn K mainGlobals "law" = some (some (.ref f25)))
    (l25 : K.lookup f25 = some ⟨oc25, od25, .func (PySem.W.fnOf "law" "law" (defArgs s_law) (defBody s_law) (defScope s_law) .none kV25 dc25 pm25 an25 cd25 ct25), sl25⟩)
    (c25 : PySem.W.codeIn K cd25 "law" = true) (k25 : PySem.W.keepIn K (.ref f25) = true)
    (a26 : PySem.W.findIn K (.ref u_NoText) "__init__" = some (some (.ref f26))) (j26 : PySem.W.isFn K (.ref f26) = true)
    (l26 : K.lookup f26 = some ⟨oc26, od26, .func (PySem.W.fnOf "__init__" "NoText.__init__" (defArgs s_NoText_init) (defBody s_NoText_init) (defScope s_NoText_init) .none kV26 dc26 pm26 an26 cd26 ct26), sl26⟩)
    (c26 : PySem.W.codeIn K cd26 "NoText.__init__" = true) (k26 : PySem.W.keepIn K (.ref f26) = true)
    (z_ValueError : PySem.W.nsIn K mainGlobals "ValueError" = some none)
    (z_all : PySem.W.nsIn K mainGlobals "all" = some none)
    (z_bool : PySem.W.nsIn K mainGlobals "bool" = some none)
    (z_enumerate : PySem.W.nsIn K mainGlobals "enumerate" = some none)
    (z_int : PySem.W.nsIn K mainGlobals "int" = some none)
    (z_isinstance : PySem.W.nsIn K mainGlobals "isinstance" = some none)
    (z_len : PySem.W.nsIn K mainGlobals "len" = some none)
    (z_list : PySem.W.nsIn K mainGlobals "list" = some none)
    (z_max : PySem.W.nsIn K mainGlobals "max" = some none)
    (z_min : PySem.W.nsIn K mainGlobals "min" = some none)
    (z_range : PySem.W.nsIn K mainGlobals "range" = some none)
    (z_str : PySem.W.nsIn K mainGlobals "str" = some none)
    (z_tuple : PySem.W.nsIn K mainGlobals "tuple" = some none)
    (i_MOST_POINTS : PySem.W.nsIn K mainGlobals "MOST_POINTS" = some (some (.int 10 t_MOST_POINTS)))
    (i_MOST_TIES : PySem.W.nsIn K mainGlobals "MOST_TIES" = some (some (.int 24 t_MOST_TIES)))
    (i_LONGEST : PySem.W.nsIn K mainGlobals "LONGEST" = some (some (.int 1000000000000000000000000000000 t_LONGEST)))
    (i_MOST_FIGURES : PySem.W.nsIn K mainGlobals "MOST_FIGURES" = some (some (.int 60 t_MOST_FIGURES)))
    (i_FIGURES : PySem.W.nsIn K mainGlobals "FIGURES" = some (some (.str "0123456789" t_FIGURES)))
    (y_BARE_WORDS : PySem.W.nsIn K mainGlobals "BARE_WORDS" = some (some (.ref v_BARE_WORDS)))
    (yl_BARE_WORDS : K.lookup v_BARE_WORDS = some ⟨.type "tuple", vd_BARE_WORDS, .seq #[.str "lengths" vt0_BARE_WORDS, .str "base" vt1_BARE_WORDS, .str "forests" vt2_BARE_WORDS] vn_BARE_WORDS, vs_BARE_WORDS⟩)
    (y_TIES_WORDS : PySem.W.nsIn K mainGlobals "TIES_WORDS" = some (some (.ref v_TIES_WORDS)))
    (yl_TIES_WORDS : K.lookup v_TIES_WORDS = some ⟨.type "tuple", vd_TIES_WORDS, .seq #[.str "even" vt0_TIES_WORDS, .str "cut" vt1_TIES_WORDS, .str "odd" vt2_TIES_WORDS] vn_TIES_WORDS, vs_TIES_WORDS⟩)
    (d_RingError : PySem.W.nsIn K mainGlobals "RingError" = some (some (.ref u_RingError)))
    (d_BadWeb : PySem.W.nsIn K mainGlobals "BadWeb" = some (some (.ref u_BadWeb)))
    (d_BadSet : PySem.W.nsIn K mainGlobals "BadSet" = some (some (.ref u_BadSet)))
    (d_BadPoint : PySem.W.nsIn K mainGlobals "BadPoint" = some (some (.ref u_BadPoint)))
    (d_NotRing : PySem.W.nsIn K mainGlobals "NotRing" = some (some (.ref u_NotRing)))
    (d_NoChord : PySem.W.nsIn K mainGlobals "NoChord" = some (some (.ref u_NoChord)))
    (d_NoBase : PySem.W.nsIn K mainGlobals "NoBase" = some (some (.ref u_NoBase)))
    (d_NoSuch : PySem.W.nsIn K mainGlobals "NoSuch" = some (some (.ref u_NoSuch)))
    (d_TooMany : PySem.W.nsIn K mainGlobals "TooMany" = some (some (.ref u_TooMany)))
    (d_BadRow : PySem.W.nsIn K mainGlobals "BadRow" = some (some (.ref u_BadRow)))
    (d_NoDeed : PySem.W.nsIn K mainGlobals "NoDeed" = some (some (.ref u_NoDeed)))
    (d_NotEven : PySem.W.nsIn K mainGlobals "NotEven" = some (some (.ref u_NotEven)))
    (d_NoText : PySem.W.nsIn K mainGlobals "NoText" = some (some (.ref u_NoText)))
    {xnm_NoText xq_NoText : Str} {xN_NoText : Addr} {xbs_NoText xsub_NoText : List Value} {xhd_NoText xab_NoText : Bool} {xsn_NoText : List Str} {xcol_NoText : Option Bool} {xdd_NoText : Option Addr} {xk0_NoText xk1_NoText xk2_NoText xk3_NoText xk5_NoText : Option Value}
    (xo_NoText : K.lookup u_NoText = some (excClassObj xnm_NoText xq_NoText u_NoText xN_NoText xbs_NoText (.ref u_RingError :: BMV) xhd_NoText xsn_NoText xsub_NoText xab_NoText xcol_NoText xdd_NoText xk0_NoText xk1_NoText xk2_NoText xk3_NoText xk5_NoText "ValueError.__new__")) (xk_NoText : PySem.W.keepIn K (.ref u_NoText) = true)
    (xs_NoText : PySem.W.findIn K (.ref u_NoText) "__setattr__" = some (some (.builtin "object.__setattr__"))) (xt_NoText : PySem.W.takerIn K u_NoText "row" = some none) (xd_NoText : PySem.W.hasDictIn K u_NoText = true) (xf_NoText : PySem.W.findIn K (.ref u_NoText) "row" = some none)
    (xr_NoText : PySem.W.readsIn K u_RingError (.type "type") = true) (xj_NoText : PySem.W.findCls K (.ref u_RingError) (.type "type") "__init__" = some (.val (.builtin "ValueError.__init__"))) (xg_NoText : PySem.W.specialIn K (.ref u_RingError) "__getattribute__" = some (some (.builtin "type.__getattribute__")))
    (xc_BadWeb : PySem.W.excIn K u_BadWeb [.type "ValueError", .type "Exception", .type "BaseException", .type "object"] "ValueError.__new__" = true)
    (ea_NoText : PySem.W.findIn K (.ref u_NoText) "__getattribute__" = some (some (.builtin "BaseException.__getattribute__"))) (eb_NoText : PySem.W.findIn K (.ref u_NoText) "__getattr__" = some none)
    (ec_NoText : PySem.W.findIn K (.ref u_NoText) "__class__" = some (some (.builtin "object.__class__"))) (ed_NoText : PySem.W.specialIn K (.builtin "object.__class__") "__get__" = some (some (.builtin "getset_descriptor.__get__")))
    (ee_NoText : PySem.W.takesIn K (.builtin "object.__class__") = some true) (ef_NoText : PySem.W.mroIn K u_NoText (.type "object") = some true) (eg_NoText : PySem.W.hasDictIn K u_NoText = true) (eh_NoText : PySem.W.mroIn K u_NoText (.type "BaseException") = some true)
    (hx_NoText : PySem.W.exmOne K (.ref u_NoText) (.ref u_RingError) = some true)
    (qv_NoText : PySem.W.kitOne K (.ref u_NoText) (.type "ValueError") = some true)
    (q_NoText_BadWeb : PySem.W.kitOne K (.ref u_NoText) (.ref u_BadWeb) = some false)
    (q_NoText_BadSet : PySem.W.kitOne K (.ref u_NoText) (.ref u_BadSet) = some false)
    (q_NoText_BadPoint : PySem.W.kitOne K (.ref u_NoText) (.ref u_BadPoint) = some false)
    (q_NoText_NotRing : PySem.W.kitOne K (.ref u_NoText) (.ref u_NotRing) = some false)
    (q_NoText_NoChord : PySem.W.kitOne K (.ref u_NoText) (.ref u_NoChord) = some false)
    (q_NoText_NoBase : PySem.W.kitOne K (.ref u_NoText) (.ref u_NoBase) = some false)
    (q_NoText_NoSuch : PySem.W.kitOne K (.ref u_NoText) (.ref u_NoSuch) = some false)
    (q_NoText_TooMany : PySem.W.kitOne K (.ref u_NoText) (.ref u_TooMany) = some false)
    (q_NoText_BadRow : PySem.W.kitOne K (.ref u_NoText) (.ref u_BadRow) = some false)
    (q_NoText_NoDeed : PySem.W.kitOne K (.ref u_NoText) (.ref u_NoDeed) = some false)
    (q_NoText_NotEven : PySem.W.kitOne K (.ref u_NoText) (.ref u_NotEven) = some false)
    (q_NoText_NoText : PySem.W.kitOne K (.ref u_NoText) (.ref u_NoText) = some true)
    (xc_RingError : PySem.W.excIn K u_RingError [.type "ValueError", .type "Exception", .type "BaseException", .type "object"] "ValueError.__new__" = true)
    (hy_BadWeb : PySem.W.exmOne K (.ref u_BadWeb) (.ref u_BadWeb) = some true)
    : ∃ fd : FuncData, (∀ (s : Shared) (v : Value), BindsTo s fd ⟨[v], []⟩ [("script", v)]) ∧ ∀ base : Heap, K.In base → base.Ns mainGlobals mg → FnOk l.prog w K mg base CX0 7 fa fd ["script"] (sp_law K) := by
  have e := hfa.symm.trans (PySem.W.mg_of X G a25)
  cases e
  have F0 := fun_mk (st := s_made_web) l0 c0 k0
  have b0 := F0.binds (ps := ["points", "ties"]) fun _ _ _ _ _ _ us hl => by obtain ⟨_, _, rfl⟩ := len2 us hl; rfl
  have F1 := fun_mk (st := s_made_tie) l1 c1 k1
  have b1 := F1.binds (ps := ["points", "tie"]) fun _ _ _ _ _ _ us hl => by obtain ⟨_, _, rfl⟩ := len2 us hl; rfl
  have F2 := fun_mk (st := s_is_number) l2 c2 k2
  have b2 := F2.binds (ps := ["word"]) fun _ _ _ _ _ _ us hl => by obtain ⟨_, rfl⟩ := len1 us hl; rfl
  have F3 := fun_mk (st := s_is_signed) l3 c3 k3
  have b3 := F3.binds (ps := ["word"]) fun _ _ _ _ _ _ us hl => by obtain ⟨_, rfl⟩ := len1 us hl; rfl
  have F4 := fun_mk (st := s_numbers_read) l4 c4 k4
  have b4 := F4.binds (ps := ["words"]) fun _ _ _ _ _ _ us hl => by obtain ⟨_, rfl⟩ := len1 us hl; rfl
  have F5 := fun_mk (st := s_web_grown) l5 c5 k5
  have b5 := F5.binds (ps := ["web", "words"]) fun _ _ _ _ _ _ us hl => by obtain ⟨_, _, rfl⟩ := len2 us hl; rfl
  have F6 := fun_mk (st := s_ascend_below) l6 c6 k6
  have b6 := F6.binds (ps := ["numbers", "bound"]) fun _ _ _ _ _ _ us hl => by obtain ⟨_, _, rfl⟩ := len2 us hl; rfl
  have F7 := fun_mk (st := s_ties_asked) l7 c7 k7
  have b7 := F7.binds (ps := ["web", "words"]) fun _ _ _ _ _ _ us hl => by obtain ⟨_, _, rfl⟩ := len2 us hl; rfl
  have F8 := fun_mk (st := s_heights_asked) l8 c8 k8
  have b8 := F8.binds (ps := ["web", "words"]) fun _ _ _ _ _ _ us hl => by obtain ⟨_, _, rfl⟩ := len2 us hl; rfl
  have F9 := fun_mk (st := s_asked_by) l9 c9 k9
  have b9 := F9.binds (ps := ["web", "words"]) fun _ _ _ _ _ _ us hl => by obtain ⟨_, _, rfl⟩ := len2 us hl; rfl
  have F10 := fun_mk (st := s_read_page) l10 c10 k10
  have b10 := F10.binds (ps := ["text"]) fun _ _ _ _ _ _ us hl => by obtain ⟨_, rfl⟩ := len1 us hl; rfl
  have F11 := fun_mk (st := s_law_cell) l11 c11 k11
  have b11 := F11.binds (ps := ["script", "k"]) fun _ _ _ _ _ _ us hl => by obtain ⟨_, _, rfl⟩ := len2 us hl; rfl
  have F12 := fun_mk (st := s_law_stir) l12 c12 k12
  have b12 := F12.binds (ps := ["cell", "k"]) fun _ _ _ _ _ _ us hl => by obtain ⟨_, _, rfl⟩ := len2 us hl; rfl
  have F13 := fun_mk (st := s_law_tie) l13 c13 k13
  have b13 := F13.binds (ps := ["c", "points", "times"]) fun _ _ _ _ _ _ us hl => by obtain ⟨_, _, _, rfl⟩ := len3 us hl; rfl
  have F14 := fun_mk (st := s_law_web) l14 c14 k14
  have b14 := F14.binds (ps := ["script", "most"]) fun _ _ _ _ _ _ us hl => by obtain ⟨_, _, rfl⟩ := len2 us hl; rfl
  have F15 := fun_mk (st := s_law_row_of) l15 c15 k15
  have b15 := F15.binds (ps := ["web", "cell", "great"]) fun _ _ _ _ _ _ us hl => by obtain ⟨_, _, _, rfl⟩ := len3 us hl; rfl
  have F16 := fun_mk (st := s_law_page) l16 c16 k16
  have b16 := F16.binds (ps := ["script", "most"]) fun _ _ _ _ _ _ us hl => by obtain ⟨_, _, rfl⟩ := len2 us hl; rfl
  have F17 := fun_mk (st := s_law_text) l17 c17 k17
  have b17 := F17.binds (ps := ["web", "rows"]) fun _ _ _ _ _ _ us hl => by obtain ⟨_, _, rfl⟩ := len2 us hl; rfl
  have F18 := fun_mk (st := s_law_refused_at) l18 c18 k18
  have b18 := F18.binds (ps := ["text"]) fun _ _ _ _ _ _ us hl => by obtain ⟨_, rfl⟩ := len1 us hl; rfl
  have F19 := fun_mk (st := s_law_number_bad) l19 c19 k19
  have b19 := F19.binds (ps := ["turn"]) fun _ _ _ _ _ _ us hl => by obtain ⟨_, rfl⟩ := len1 us hl; rfl
  have F20 := fun_mk (st := s_law_first_bad) l20 c20 k20
  have b20 := F20.binds (ps := ["turn"]) fun _ _ _ _ _ _ us hl => by obtain ⟨_, rfl⟩ := len1 us hl; rfl
  have F21 := fun_mk (st := s_law_tie_bad) l21 c21 k21
  have b21 := F21.binds (ps := ["web", "turn"]) fun _ _ _ _ _ _ us hl => by obtain ⟨_, _, rfl⟩ := len2 us hl; rfl
  have F22 := fun_mk (st := s_law_ask_bad) l22 c22 k22
  have b22 := F22.binds (ps := ["web", "turn"]) fun _ _ _ _ _ _ us hl => by obtain ⟨_, _, rfl⟩ := len2 us hl; rfl
  have F23 := fun_mk (st := s_law_bad) l23 c23 k23
  have b23 := F23.binds (ps := ["web", "at", "turn"]) fun _ _ _ _ _ _ us hl => by obtain ⟨_, _, _, rfl⟩ := len3 us hl; rfl
  have F24 := fun_mk (st := s_law_full) l24 c24 k24
  have b24 := F24.binds (ps := ["many"]) fun _ _ _ _ _ _ us hl => by obtain ⟨_, rfl⟩ := len1 us hl; rfl
  have F25 := fun_mk (st := s_law) l25 c25 k25
  have b25 := F25.binds (ps := ["script"]) fun _ _ _ _ _ _ us hl => by obtain ⟨_, rfl⟩ := len1 us hl; rfl
  have F26 := fun_mk (st := s_NoText_init) l26 c26 k26
  have b26 := F26.binds (ps := ["self", "words", "row"]) fun _ _ _ _ _ _ us hl => by obtain ⟨_, _, _, rfl⟩ := len3 us hl; rfl
  have T : Txt K mg ⟨f0, _, f1, _, f2, _, f3, _, f4, _, f5, _, f6, _, f7, _, f8, _, f9, _, f10, _, f11, _, f12, _, f13, _, f14, _, f15, _, f16, _, f17, _, f18, _, f19, _, f20, _, f21, _, f22, _, f23, _, f24, _, fa, _, f26, _, u_RingError, u_BadWeb, u_BadSet, u_BadPoint, u_NotRing, u_NoChord, u_NoBase, u_NoSuch, u_TooMany, u_BadRow, u_NoDeed, u_NotEven, u_NoText, v_BARE_WORDS, v_TIES_WORDS⟩ := ⟨F0, PySem.W.mg_of X G a0, b0, F1, PySem.W.mg_of X G a1, b1, F2, PySem.W.mg_of X G a2, b2, F3, PySem.W.mg_of X G a3, b3, F4, PySem.W.mg_of X G a4, b4, F5, PySem.W.mg_of X G a5, b5, F6, PySem.W.mg_of X G a6, b6, F7, PySem.W.mg_of X G a7, b7, F8, PySem.W.mg_of X G a8, b8, F9, PySem.W.mg_of X G a9, b9, F10, PySem.W.mg_of X G a10, b10, F11, PySem.W.mg_of X G a11, b11, F12, PySem.W.mg_of X G a12, b12, F13, PySem.W.mg_of X G a13, b13, F14, PySem.W.mg_of X G a14, b14, F15, PySem.W.mg_of X G a15, b15, F16, PySem.W.mg_of X G a16, b16, F17, PySem.W.mg_of X G a17, b17, F18, PySem.W.mg_of X G a18, b18, F19, PySem.W.mg_of X G a19, b19, F20, PySem.W.mg_of X G a20, b20, F21, PySem.W.mg_of X G a21, b21, F22, PySem.W.mg_of X G a22, b22, F23, PySem.W.mg_of X G a23, b23, F24, PySem.W.mg_of X G a24, b24, F25, PySem.W.mg_of X G a25, b25, F26, ⟨⟨_, _, _, _, _, _, _, _, _, _, _, _, _, _, _, xo_NoText⟩, a26, j26, xk_NoText, xs_NoText, xt_NoText, xd_NoText, xf_NoText, xr_NoText, xj_NoText, xg_NoText⟩, b26, PySem.W.mg_none_of X G z_ValueError, PySem.W.mg_none_of X G z_all, PySem.W.mg_none_of X G z_bool, PySem.W.mg_none_of X G z_enumerate, PySem.W.mg_none_of X G z_int, PySem.W.mg_none_of X G z_isinstance, PySem.W.mg_none_of X G z_len, PySem.W.mg_none_of X G z_list, PySem.W.mg_none_of X G z_max, PySem.W.mg_none_of X G z_min, PySem.W.mg_none_of X G z_range, PySem.W.mg_none_of X G z_str, PySem.W.mg_none_of X G z_tuple, ⟨_, PySem.W.mg_of X G i_MOST_POINTS⟩, ⟨_, PySem.W.mg_of X G i_MOST_TIES⟩, ⟨_, PySem.W.mg_of X G i_LONGEST⟩, ⟨_, PySem.W.mg_of X G i_MOST_FIGURES⟩, ⟨_, PySem.W.mg_of X G i_FIGURES⟩, PySem.W.mg_of X G y_BARE_WORDS, fun _ => .inr ⟨_, _, _, yl_BARE_WORDS, rfl, rfl, (by show 3 ≤ _; decide), .cons ⟨_, rfl⟩ (.cons ⟨_, rfl⟩ (.cons ⟨_, rfl⟩ (.nil)))⟩, PySem.W.mg_of X G y_TIES_WORDS, fun _ => .inr ⟨_, _, _, yl_TIES_WORDS, rfl, rfl, (by show 3 ≤ _; decide), .cons ⟨_, rfl⟩ (.cons ⟨_, rfl⟩ (.cons ⟨_, rfl⟩ (.nil)))⟩, PySem.W.mg_of X G d_RingError, PySem.W.mg_of X G d_BadWeb, PySem.W.mg_of X G d_BadSet, PySem.W.mg_of X G d_BadPoint, PySem.W.mg_of X G d_NotRing, PySem.W.mg_of X G d_NoChord, PySem.W.mg_of X G d_NoBase, PySem.W.mg_of X G d_NoSuch, PySem.W.mg_of X G d_TooMany, PySem.W.mg_of X G d_BadRow, PySem.W.mg_of X G d_NoDeed, PySem.W.mg_of X G d_NotEven, PySem.W.mg_of X G d_NoText, fun h1 X1 G1 => own_of X1 G1 d_BadWeb xc_BadWeb, ⟨ea_NoText, eb_NoText, ec_NoText, ed_NoText, ee_NoText, ef_NoText, eh_NoText, exc_is eg_NoText⟩, hx_NoText, qv_NoText, q_NoText_BadWeb, q_NoText_BadSet, q_NoText_BadPoint, q_NoText_NotRing, q_NoText_NoChord, q_NoText_NoBase, q_NoText_NoSuch, q_NoText_TooMany, q_NoText_BadRow, q_NoText_NoDeed, q_NoText_NotEven, q_NoText_NoText, fun h1 X1 G1 => own_of X1 G1 d_RingError xc_RingError, hy_BadWeb⟩
  exact ⟨PySem.W.fnOf "law" "law" (defArgs s_law) (defBody s_law) (defScope s_law) .none kV25 dc25 pm25 an25 cd25 ct25, fun s v => .of_eq rfl, fun base _ _ => G_law T⟩
theorem walk {l : PySem.W.OpenLaw} {q : Program} {loose : List Str} {XP : (Str → Option Value) → Heap → Prop} {YP : World → Heap → Prop} {d : DefRec} {K : Params → PySem.W.Frag} (hn : l.most = some 63) (hdf : d.params.defaults = [])
    (hY : ∀ (w : World) (h : Heap), YP w h → (K w.params).In h)
    (F : ∀ (w : World) (mg : Str → Option Value) (fa : Addr) (h : Heap), (K w.params).In h → h.Ns mainGlobals mg → mg d.name = some (.ref fa) →
      ∃ fd : FuncData, (∀ (s : Shared) (u : Value), BindsTo s fd ⟨[u], []⟩ [("script", u)]) ∧ ∀ base : Heap, (K w.params).In base → base.Ns mainGlobals mg → FnOk l.prog w (K w.params) mg base CX0 7 fa fd ["script"] (sp_law (K w.params))) :
    PySem.W.WalkO q loose XP YP l.row.toRowW d [] (fun f vs => PySem.call f vs) :=
  L2.walk_of (n := 63) (k := 7) (x := "script") (CX := fun _ => CX0) (sp := fun w => sp_law (K w.params)) hn (by decide) hdf ⟨rfl, by decide, by decide⟩ hY F (fun _ _ a ns hl _ hS => ⟨a, ns, rfl, hS, hl, fun _ => rfl⟩) fun _ _ _ _ _ z => z
end K60
def PySem.W.Fast.tw3729963640773055505 : Unit := ()
def PySem.W.Fast.tw1569477238309034898 : Unit := ()
def PySem.W.Fast.tw11060209202380941084 : Unit := ()
def PySem.W.Fast.tw13308244113401753887 : Unit := ()
def PySem.W.Fast.tw16481832035719726280 : Unit := ()
def PySem.W.Fast.tw14953652600513726172 : Unit := ()
def PySem.W.Fast.tw9897567764215873707 : Unit := ()
def PySem.W.Fast.tw11036483385988068386 : Unit := ()
def PySem.W.Fast.tw7570957450298916406 : Unit := ()
def PySem.W.Fast.tw7365756785126051000 : Unit := ()
def PySem.W.Fast.tw14330194346411972809 : Unit := ()
open PySem PySem.W PyProof.Rows
set_option maxRecDepth 100000 in
set_option maxHeartbeats 0 in
theorem PySem.Challenge.cw_ringbase_k60_pages_refused_holds : PySem.Challenge.rw_ringbase_k60_pages_refused.Holds := by
  w_on; o_law; k_head; (case hw => w_witness2)
  k_fill
  refine K60.walk (l := PySem.Challenge.rw_ringbase_k60_pages_refused) rfl rfl (fun w h Y => PySem.W.kIn_of Y) ?F
  case F =>
    intro w mg fa h KX G hmg
    refine' K60.all_mk KX G hmg ?a0 ?l0 ?c0 ?k0 ?a1 ?l1 ?c1 ?k1 ?a2 ?l2 ?c2 ?k2 ?a3 ?l3 ?c3 ?k3 ?a4 ?l4 ?c4 ?k4 ?a5 ?l5 ?c5 ?k5 ?a6 ?l6 ?c6 ?k6 ?a7 ?l7 ?c7 ?k7 ?a8 ?l8 ?c8 ?k8 ?a9 ?l9 ?c9 ?k9 ?a10 ?l10 ?c10 ?k10 ?a11 ?l11 ?c11 ?k11 ?a12 ?l12 ?c12 ?k12 ?a13 ?l13 ?c13 ?k13 ?a14 ?l14 ?c14 ?k14 ?a15 ?l15 ?c15 ?k15 ?a16 ?l16 ?c16 ?k16 ?a17 ?l17 ?c17 ?k17 ?a18 ?l18 ?c18 ?k18 ?a19 ?l19 ?c19 ?k19 ?a20 ?l20 ?c20 ?k20 ?a21 ?l21 ?c21 ?k21 ?a22 ?l22 ?c22 ?k22 ?a23 ?l23 ?c23 ?k23 ?a24 ?l24 ?c24 ?k24 ?a25 ?l25 ?c25 ?k25 ?a26 ?j26 ?l26 ?c26 ?k26 ?z_ValueError ?z_all ?z_bool ?z_enumerate ?z_int ?z_isinstance ?z_len ?z_list ?z_max ?z_min ?z_range ?z_str ?z_tuple ?i_MOST_POINTS ?i_MOST_TIES ?i_LONGEST ?i_MOST_FIGURES ?i_FIGURES ?y_BARE_WORDS ?yl_BARE_WORDS ?y_TIES_WORDS ?yl_TIES_WORDS ?d_RingError ?d_BadWeb ?d_BadSet ?d_BadPoint ?d_NotRing ?d_NoChord ?d_NoBase ?d_NoSuch ?d_TooMany ?d_BadRow ?d_NoDeed ?d_NotEven ?d_NoText ?xo_NoText ?xk_NoText ?xs_NoText ?xt_NoText ?xd_NoText ?xf_NoText ?xr_NoText ?xj_NoText ?xg_NoText ?xc_BadWeb ?ea_NoText ?eb_NoText ?ec_NoText ?ed_NoText ?ee_NoText ?ef_NoText ?eg_NoText ?eh_NoText ?hx_NoText ?qv_NoText ?q_NoText_BadWeb ?q_NoText_BadSet ?q_NoText_BadPoint ?q_NoText_NotRing ?q_NoText_NoChord ?q_NoText_NoBase ?q_NoText_NoSuch ?q_NoText_TooMany ?q_NoText_BadRow ?q_NoText_NoDeed ?q_NoText_NotEven ?q_NoText_NoText ?xc_RingError ?hy_BadWeb
    (case d_RingError => k_is)
    (case d_BadWeb => k_is)
    (case d_BadSet => k_is)
    (case d_BadPoint => k_is)
    (case d_NotRing => k_is)
    (case d_NoChord => k_is)
    (case d_NoBase => k_is)
    (case d_NoSuch => k_is)
    (case d_TooMany => k_is)
    (case d_BadRow => k_is)
    (case d_NoDeed => k_is)
    (case d_NotEven => k_is)
    (case d_NoText => k_is)
    (case a0 => k_is)
    (case l0 => k_is)
    (case c0 => k_is)
    (case k0 => k_is)
    (case a1 => k_is)
    (case l1 => k_is)
    (case c1 => k_is)
    (case k1 => k_is)
    (case a2 => k_is)
    (case l2 => k_is)
    (case c2 => k_is)
    (case k2 => k_is)
    (case a3 => k_is)
    (case l3 => k_is)
    (case c3 => k_is)
    (case k3 => k_is)
    (case a4 => k_is)
    (case l4 => k_is)
    (case c4 => k_is)
    (case k4 => k_is)
    (case a5 => k_is)
    (case l5 => k_is)
    (case c5 => k_is)
    (case k5 => k_is)
    (case a6 => k_is)
    (case l6 => k_is)
    (case c6 => k_is)
    (case k6 => k_is)
    (case a7 => k_is)
    (case l7 => k_is)
    (case c7 => k_is)
    (case k7 => k_is)
    (case a8 => k_is)
    (case l8 => k_is)
    (case c8 => k_is)
    (case k8 => k_is)
    (case a9 => k_is)
    (case l9 => k_is)
    (case c9 => k_is)
    (case k9 => k_is)
    (case a10 => k_is)
    (case l10 => k_is)
    (case c10 => k_is)
    (case k10 => k_is)
    (case a11 => k_is)
    (case l11 => k_is)
    (case c11 => k_is)
    (case k11 => k_is)
    (case a12 => k_is)
    (case l12 => k_is)
    (case c12 => k_is)
    (case k12 => k_is)
    (case a13 => k_is)
    (case l13 => k_is)
    (case c13 => k_is)
    (case k13 => k_is)
    (case a14 => k_is)
    (case l14 => k_is)
    (case c14 => k_is)
    (case k14 => k_is)
    (case a15 => k_is)
    (case l15 => k_is)
    (case c15 => k_is)
    (case k15 => k_is)
    (case a16 => k_is)
    (case l16 => k_is)
    (case c16 => k_is)
    (case k16 => k_is)
    (case a17 => k_is)
    (case l17 => k_is)
    (case c17 => k_is)
    (case k17 => k_is)
    (case a18 => k_is)
    (case l18 => k_is)
    (case c18 => k_is)
    (case k18 => k_is)
    (case a19 => k_is)
    (case l19 => k_is)
    (case c19 => k_is)
    (case k19 => k_is)
    (case a20 => k_is)
    (case l20 => k_is)
    (case c20 => k_is)
    (case k20 => k_is)
    (case a21 => k_is)
    (case l21 => k_is)
    (case c21 => k_is)
    (case k21 => k_is)
    (case a22 => k_is)
    (case l22 => k_is)
    (case c22 => k_is)
    (case k22 => k_is)
    (case a23 => k_is)
    (case l23 => k_is)
    (case c23 => k_is)
    (case k23 => k_is)
    (case a24 => k_is)
    (case l24 => k_is)
    (case c24 => k_is)
    (case k24 => k_is)
    (case a25 => k_is)
    (case l25 => k_is)
    (case c25 => k_is)
    (case k25 => k_is)
    (case a26 => k_is)
    (case j26 => k_is)
    (case l26 => k_is)
    (case c26 => k_is)
    (case k26 => k_is)
    (case z_ValueError => k_is)
    (case z_all => k_is)
    (case z_bool => k_is)
    (case z_enumerate => k_is)
    (case z_int => k_is)
    (case z_isinstance => k_is)
    (case z_len => k_is)
    (case z_list => k_is)
    (case z_max => k_is)
    (case z_min => k_is)
    (case z_range => k_is)
    (case z_str => k_is)
    (case z_tuple => k_is)
    (case i_MOST_POINTS => k_is)
    (case i_MOST_TIES => k_is)
    (case i_LONGEST => k_is)
    (case i_MOST_FIGURES => k_is)
    (case i_FIGURES => k_is)
    (case y_BARE_WORDS => k_is)
    (case yl_BARE_WORDS => k_is)
    (case y_TIES_WORDS => k_is)
    (case yl_TIES_WORDS => k_is)
    (case xo_NoText => k_is)
    (case xk_NoText => k_is)
    (case xs_NoText => k_is)
    (case xt_NoText => k_is)
    (case xd_NoText => k_is)
    (case xf_NoText => k_is)
    (case xr_NoText => k_is)
    (case xj_NoText => k_is)
    (case xg_NoText => k_is)
    (case xc_BadWeb => k_exc)
    (case ea_NoText => k_is)
    (case eb_NoText => k_is)
    (case ec_NoText => k_is)
    (case ed_NoText => k_is)
    (case ee_NoText => k_is)
    (case ef_NoText => k_is)
    (case eg_NoText => k_is)
    (case eh_NoText => k_is)
    (case hx_NoText => kts_exm)
    (case qv_NoText => kit_is)
    (case q_NoText_BadWeb => kit_is)
    (case q_NoText_BadSet => kit_is)
    (case q_NoText_BadPoint => kit_is)
    (case q_NoText_NotRing => kit_is)
    (case q_NoText_NoChord => kit_is)
    (case q_NoText_NoBase => kit_is)
    (case q_NoText_NoSuch => kit_is)
    (case q_NoText_TooMany => kit_is)
    (case q_NoText_BadRow => kit_is)
    (case q_NoText_NoDeed => kit_is)
    (case q_NoText_NotEven => kit_is)
    (case q_NoText_NoText => kit_is)
    (case xc_RingError => k_exc)
    (case hy_BadWeb => kts_exm)

