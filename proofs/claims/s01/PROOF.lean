import PyProof.Rows.All
import Wide.All
import OpenK.AllK
import Wide.FinOn
import PyProof.EqAt
import PyProof.EqKinds
import PyProof.TupleCall
import KE.BitLaws
import Open.SpecLaws
import KE.OsHead
import KE.OsGo
import PyRa56
import PySem.Challenge.RW_stationclock_s01_answers
set_option Elab.async false
set_option linter.all false
set_option maxRecDepth 100000
namespace L2
open PySem PySem.Spec PyProof.Rows
/-- a key: an int or a str -/
abbrev Key := Sum Int Str
def keyIs : Key → Value → Bool
  | .inl k, v => Value.isInt k v
  | .inr x, v => Value.isStrOf x v
def keyH (w : World) : Key → Int
  | .inl k => hashInt k
  | .inr x => hashStr w x
theorem keyIs_shape : ∀ {k : Key} {v : Value}, keyIs k v = true → (∃ i t, k = Sum.inl i ∧ v = Value.int i t) ∨ (∃ x t, k = Sum.inr x ∧ v = Value.str x t)
  | .inl i, v, h => by
    obtain ⟨t, e⟩ := Value.isInt_shape (k := i) (v := v) h
    exact .inl ⟨i, t, rfl, e⟩
  | .inr x, v, h => by
    obtain ⟨t, e⟩ := Value.isStrOf_shape (x := x) (v := v) h
    exact .inr ⟨x, t, rfl, e⟩
theorem key_ll (a b : Int) : decide ((Sum.inl a : Key) = Sum.inl b) = (a == b) := by
  by_cases e : a = b
  · subst e; simp
  · have h : ¬ (Sum.inl a : Key) = Sum.inl b := fun q => e (Sum.inl.inj q)
    rw [decide_eq_false h]
    exact (beq_eq_false_iff_ne.mpr e).symm
theorem key_rr (a b : Str) : decide ((Sum.inr a : Key) = Sum.inr b) = decide (a = b) := by
  by_cases e : a = b
  · subst e; simp
  · have h : ¬ (Sum.inr a : Key) = Sum.inr b := fun q => e (Sum.inr.inj q)
    rw [decide_eq_false h, decide_eq_false e]
theorem key_lr (a : Int) (b : Str) : decide ((Sum.inl a : Key) = Sum.inr b) = false := decide_eq_false (fun q => nomatch q)
theorem key_rl (a : Str) (b : Int) : decide ((Sum.inr a : Key) = Sum.inl b) = false := decide_eq_false (fun q => nomatch q)
def mixKind (prog : Program) (w : World) : PySem.KeyKind prog w Key where
  is := keyIs
  hash := keyH w
  inj := fun v a b ha hb => by
    rcases keyIs_shape ha with ⟨i, t, rfl, rfl⟩ | ⟨x, t, rfl, rfl⟩
    · rcases keyIs_shape hb with ⟨j, u, rfl, e⟩ | ⟨y, u, rfl, e⟩
      · injection e with e1 _; rw [e1]
      · exact nomatch e
    · rcases keyIs_shape hb with ⟨j, u, rfl, e⟩ | ⟨y, u, rfl, e⟩
      · exact nomatch e
      · injection e with e1 _; rw [e1]
  byValue := fun k v h => by
    rcases keyIs_shape h with ⟨i, t, rfl, rfl⟩ | ⟨x, t, rfl, rfl⟩ <;> rfl
  pyHash := fun hv h => by
    rcases keyIs_shape hv with ⟨i, t, rfl, rfl⟩ | ⟨x, t, rfl, rfl⟩
    · exact wpAny_pyHash_int h
    · exact wpAny_pyHash_str h
  eqBool := fun hu hv h => by
    rcases keyIs_shape hu with ⟨i, t, rfl, rfl⟩ | ⟨x, t, rfl, rfl⟩
    · rcases keyIs_shape hv with ⟨j, u, rfl, rfl⟩ | ⟨y, u, rfl, rfl⟩
      · rw [key_ll] at h; exact wpAny_eqBool_int h
      · rw [key_lr] at h; exact SeqAt.EqAt.int_str i t y u _ _ _ _ h
    · rcases keyIs_shape hv with ⟨j, u, rfl, rfl⟩ | ⟨y, u, rfl, rfl⟩
      · rw [key_rl] at h; exact SeqAt.EqAt.str_int x t j u _ _ _ _ h
      · rw [key_rr] at h; exact wpAny_eqBool_str h
  «strs» := fun k x t v h => by
    rcases keyIs_shape h with ⟨i, u, rfl, e⟩ | ⟨y, u, rfl, e⟩
    · exact nomatch e
    · injection e with e1 _
      subst e1
      cases v <;> rfl
end L2
namespace L2
open PySem PySem.Spec PyProof.Rows
/-- a value, without the heap -/
inductive V where
  | non | bl (b : Bool) | int (i : Int) | str (x : Str) | byt (b : Array UInt8) | flt (b : UInt64) | ref (a : Addr) | ty (n : String)
  deriving DecidableEq
def RelV : V → Value → Prop
  | .non, u => u = Value.none
  | .bl b, u => u = Value.bool b
  | .int i, u => ∃ t, u = Value.int i t
  | .str x, u => ∃ t, u = Value.str x t
  | .byt b, u => ∃ t, u = Value.bytes b t
  | .flt b, u => ∃ t, u = Value.float b t
  | .ref a, u => u = Value.ref a
  | .ty n, u => u = Value.type n
abbrev Vals : List V → List Value → Prop := Paired RelV
theorem Vals.length {xs : List V} {us : List Value} (r : Vals xs us) : xs.length = us.length := Paired.length r
theorem Vals.get : ∀ {xs : List V} {us : List Value} {i : Nat} {x : V}, Vals xs us → xs[i]? = some x → ∃ u, us[i]? = some u ∧ RelV x u
  | _, _, _, _, .nil, e => by simp at e
  | _, _, 0, _, .cons r _, e => by simp at e; subst e; exact ⟨_, rfl, r⟩
  | _, _, i + 1, x, .cons _ t, e => by
    obtain ⟨u, h1, h2⟩ := Vals.get (i := i) (x := x) t (by simpa using e)
    exact ⟨u, by simpa using h1, h2⟩
theorem Vals.append : ∀ {xs ys : List V} {us ws : List Value}, Vals xs us → Vals ys ws → Vals (xs ++ ys) (us ++ ws)
  | _, _, _, _, .nil, s => s
  | _, _, _, _, .cons r t, s => .cons r (Vals.append t s)
theorem Vals.take : ∀ {xs : List V} {us : List Value} (n : Nat), Vals xs us → Vals (xs.take n) (us.take n)
  | _, _, 0, _ => .nil
  | _, _, _ + 1, .nil => .nil
  | _, _, n + 1, .cons r t => .cons r (Vals.take n t)
theorem Vals.drop : ∀ {xs : List V} {us : List Value} (n : Nat), Vals xs us → Vals (xs.drop n) (us.drop n)
  | _, _, 0, r => r
  | _, _, _ + 1, .nil => .nil
  | _, _, n + 1, .cons _ t => Vals.drop n t
def RelO : Option V → Option Value → Prop
  | some v, some u => RelV v u
  | none, none => True
  | _, _ => False
def KV {κ : Type} : List (κ × V) → List (κ × Value) → Prop := Paired fun (p : κ × V) (q : κ × Value) => p.1 = q.1 ∧ RelV p.2 q.2
/-- a key of a dict (00_mix): an int or a text -/
def kV : Key → V
  | .inl i => .int i
  | .inr x => .str x
/-- what stands at a tracked address -/
inductive HO where
  /-- a list -/
  | lst (xs : List V)
  /-- a tuple (never changes) -/
  | tup (xs : List V)
  /-- a dict whose keys are ints and texts; one whose keys are tuples of ints and texts (the empty one is both) -/
  | dK (kvs : List (Key × V)) | dT (kvs : List (List Key × V))
  /-- a set of ints: its members, its size -/
  | set (S : Int → Bool) (n : Nat)
  /-- an instance of the class at C, its dict at dx, its attributes -/
  | ins (C dx : Addr) (fs : List (Str × V))
  /-- the dict of the instance at x -/
  | own (x : Addr)
  /-- the dict of an exception -/
  | xd (fs : List (Str × V))
  /-- a bound method, f of x -/
  | met (f x : Addr)
  /-- a range object lo, lo + 1, .. below hi -/
  | rng (lo hi : Int)
  /-- a thing that is known to the object (the script; a dict while a loop walks it): read, never written while it is so -/
  | frz (o : Obj) (u : HO)
  /-- a code object's table -/
  | tbl (ps : Array Value)
  /-- any other thing, by what is true of its one object (a def of one's own: SetO a S n := HO.ext fun h => ..) -/
  | ext (φ : Heap → Prop)
abbrev Hp := Addr → Option HO
def upd (H : Hp) (a : Addr) (o : HO) : Hp := fun b => if b = a then some o else H b
theorem upd_same {H : Hp} {a : Addr} {o : HO} : upd H a o a = some o := by unfold upd; rw [if_pos rfl]
theorem upd_ne {H : Hp} {a b : Addr} {o : HO} (h : b ≠ a) : upd H a o b = H b := by unfold upd; rw [if_neg h]
theorem ne_of_none {H : Hp} {a b : Addr} {o : HO} (h : H a = some o) (h' : H b = none) : a ≠ b := by
  intro e; subst e; rw [h] at h'; cases h'
section
variable (P : Program) (w : World)
def ObjOk (H : Hp) (h : Heap) (a : Addr) : HO → Prop
  | .lst xs => xs.length ≤ sizeLine ∧ ∃ (its : List Value) (n : Nat), Vals xs its ∧ h.get? a = some { cls := .type "list", data := .seq its.toArray n }
  | .tup xs => xs.length ≤ sizeLine ∧ ∃ its : List Value, Vals xs its ∧ IsTup h a its.toArray
  | .dK kvs => kvs.length ≤ sizeLine ∧ (a == sysModules) = false ∧ ∃ vs, KV kvs vs ∧ h.DictOf (mixKind P w) a vs
  | .dT kvs => kvs.length ≤ sizeLine ∧ (a == sysModules) = false ∧ ∃ xs : List (List Key × Addr × Value),
      Paired (fun (p : List Key × V) (q : List Key × Addr × Value) => p.1 = q.1 ∧ H q.2.1 = some (.tup (p.1.map kV)) ∧ RelV p.2 q.2.2) kvs xs ∧
      ∃ o es ep, h.get? a = some o ∧ o.ExactDict ∧ o.data = .dict es ep ∧ es.toList = xs.map (entryOfKey (tupleKind (mixKind P w))) ∧ (xs.map (·.1)).Nodup
  | .set S n => h.SetOf (intKind P w) a S n
  | .ins C dx fs => H dx = some (.own a) ∧ fs.length ≤ 1000 ∧ dx ≠ a ∧ h.get? a = some (PySem.W.instObj C dx) ∧
      ∃ mA, h.Ns1 dx mA ∧ (∀ f, RelO (fs.lookup f) (mA f)) ∧ PySem.Within mA (fs.map (·.1))
  | .own _ => ∃ o, h.get? a = some o
  | .xd fs => ∃ mA, h.Ns1 a mA ∧ ∀ f, RelO (fs.lookup f) (mA f)
  | .rng lo hi => ∃ t u v, h.get? a = some { cls := .type "range", data := .fields #[.int lo t, .int hi u, .int 1 v] }
  | .frz o u => h.get? a = some o ∧ ObjOk H h a u
  | .tbl ps => h.get? a = some { cls := .none, data := .fields ps }
  | .met f x => h.get? a = some (PySem.W.methodObj (.ref f) (.ref x))
  | .ext φ => φ h ∧ (∃ o, h.get? a = some o) ∧ ∀ h1 h2 : Heap, φ h1 → (∀ o, h1.get? a = some o → h2.get? a = some o) → φ h2
/-- the abstract heap is held -/
def HOk (H : Hp) (h : Heap) : Prop := ∀ a o, H a = some o → ObjOk P w H h a o
end
section
variable {P : Program} {w : World} {H H' : Hp} {h h' : Heap} {a : Addr} {o : HO}
theorem ObjOk.lt (x : ObjOk P w H h a o) : a < h.objs.size := by
  cases o with
  | lst xs => obtain ⟨_, _, _, _, e⟩ := x; exact Heap.lt_size e
  | tup xs => obtain ⟨_, _, _, p⟩ := x; exact p.lt
  | dK kvs => obtain ⟨_, _, _, _, o, _, _, e, _⟩ := x; exact Heap.lt_size e
  | dT kvs => obtain ⟨_, _, _, _, o, _, _, e, _⟩ := x; exact Heap.lt_size e
  | set S n => obtain ⟨o, _, _, _, e, _⟩ := x; exact Heap.lt_size e
  | ins C dx fs => obtain ⟨_, _, _, e, _⟩ := x; exact Heap.lt_size e
  | own y => obtain ⟨_, e⟩ := x; exact Heap.lt_size e
  | xd fs => obtain ⟨_, ⟨_, _, _, e, _⟩, _⟩ := x; exact Heap.lt_size e
  | rng lo hi => obtain ⟨_, _, _, e⟩ := x; exact Heap.lt_size e
  | frz ob u => obtain ⟨e, _⟩ := x; exact Heap.lt_size e
  | tbl ps => exact Heap.lt_size (show h.get? a = some _ from x)
  | met f y => exact Heap.lt_size (show h.get? a = some _ from x)
  | ext φ => obtain ⟨_, ⟨_, e⟩, _⟩ := x; exact Heap.lt_size e
theorem Paired.mapP {α β : Type} {F G : α → β → Prop} : ∀ {l₁ : List α} {l₂ : List β}, Paired F l₁ l₂ → (∀ a b, F a b → G a b) → Paired G l₁ l₂
  | _, _, .nil, _ => .nil
  | _, _, .cons r t, f => .cons (f _ _ r) (Paired.mapP t f)
/-- what an object's description leans on: its own object, its own dict, the tuples -/
theorem ObjOk.stay (x : ObjOk P w H h a o) (k : ∀ b u, (b = a ∨ H b = some (.own a)) → h.get? b = some u → h'.get? b = some u)
    (ho : ∀ b, H b = some (.own a) → H' b = some (.own a)) (ht : ∀ b xs, H b = some (.tup xs) → H' b = some (.tup xs)) : ObjOk P w H' h' a o := by
  induction o with
  | lst xs => obtain ⟨z, its, n, r, e⟩ := x; exact ⟨z, its, n, r, k _ _ (.inl rfl) e⟩
  | tup xs => obtain ⟨z, its, r, ob, e, c⟩ := x; exact ⟨z, its, r, ob, k _ _ (.inl rfl) e, c⟩
  | dK kvs => obtain ⟨z, y, vs, r, ob, es, ep, e, c⟩ := x; exact ⟨z, y, vs, r, ob, es, ep, k _ _ (.inl rfl) e, c⟩
  | dT kvs =>
    obtain ⟨z, y, xs, r, ob, es, ep, e, c⟩ := x
    exact ⟨z, y, xs, Paired.mapP r fun p q z => ⟨z.1, ht _ _ z.2.1, z.2.2⟩, ob, es, ep, k _ _ (.inl rfl) e, c⟩
  | set S n => obtain ⟨ob, es, ep, t, e, c⟩ := x; exact ⟨ob, es, ep, t, k _ _ (.inl rfl) e, c⟩
  | ins C dx fs =>
    obtain ⟨d, z, ne, e, mA, ⟨od, es, ep, e2, c⟩, r⟩ := x
    exact ⟨ho _ d, z, ne, k _ _ (.inl rfl) e, mA, ⟨od, es, ep, k _ _ (.inr d) e2, c⟩, r⟩
  | own y => obtain ⟨ob, e⟩ := x; exact ⟨ob, k _ _ (.inl rfl) e⟩
  | xd fs => obtain ⟨mA, ⟨od, es, ep, e, c⟩, r⟩ := x; exact ⟨mA, ⟨od, es, ep, k _ _ (.inl rfl) e, c⟩, r⟩
  | rng lo hi => obtain ⟨t, u, v, e⟩ := x; exact ⟨t, u, v, k _ _ (.inl rfl) e⟩
  | frz ob u ih => obtain ⟨e, q⟩ := x; exact ⟨k _ _ (.inl rfl) e, ih q⟩
  | tbl ps =>
    have e : h.get? a = some { cls := .none, data := .fields ps } := x
    show h'.get? a = some { cls := .none, data := .fields ps }
    exact k a _ (.inl rfl) e
  | met f y =>
    have e : h.get? a = some (PySem.W.methodObj (.ref f) (.ref y)) := x
    show h'.get? a = some (PySem.W.methodObj (.ref f) (.ref y))
    exact k a _ (.inl rfl) e
  | ext φ => obtain ⟨p, ⟨o, e⟩, st⟩ := x; exact ⟨st _ _ p fun o q => k _ _ (.inl rfl) q, ⟨o, k _ _ (.inl rfl) e⟩, st⟩
theorem HOk.lt (x : HOk P w H h) (e : H a = some o) : a < h.objs.size := (x a o e).lt
theorem HOk.fresh (x : HOk P w H h) (e : h.objs.size ≤ a) : H a = none := by
  cases q : H a with
  | none => rfl
  | some u => exact absurd (Nat.lt_of_lt_of_le (x.lt q) e) (Nat.lt_irrefl _)
/-- every object of the heap is kept -/
theorem HOk.kept (x : HOk P w H h) (k : ∀ b u, h.get? b = some u → h'.get? b = some u) : HOk P w H h' := fun a o e =>
  (x a o e).stay (fun b u _ q => k b u q) (fun _ q => q) fun _ _ q => q
/-- a new object is laid and tracked -/
theorem HOk.laid (x : HOk P w H h) (k : ∀ b u, h.get? b = some u → h'.get? b = some u) (hp : h.objs.size ≤ a) (new : ObjOk P w (upd H a o) h' a o) : HOk P w (upd H a o) h' := fun b u e => by
  have hn := x.fresh hp
  by_cases hb : b = a
  · subst hb; rw [upd_same] at e; cases e; exact new
  · rw [upd_ne hb] at e
    exact (x b u e).stay (fun c v _ q => k c v q) (fun c q => by rw [upd_ne (ne_of_none q hn)]; exact q) fun c xs q => by rw [upd_ne (ne_of_none q hn)]; exact q
end
/-- what may be read as u: it is u, or a known u -/
def Rd (H : Hp) (a : Addr) (u : HO) : Prop := H a = some u ∨ ∃ o, H a = some (.frz o u)
theorem Rd.ok {P : Program} {w : World} {H : Hp} {h : Heap} {a : Addr} {u : HO} (r : Rd H a u) (x : HOk P w H h) : ObjOk P w H h a u := by
  rcases r with r | ⟨o, r⟩
  · exact x a u r
  · obtain ⟨_, q⟩ := x a _ r
    exact q
/-- what may be written -/
def Mut : Option HO → Prop
  | some (.lst _) => True
  | some (.dK _) => True
  | some (.dT _) => True
  | some (.set _ _) => True
  | some (.ins _ _ _) => True
  | some (.ext _) => True
  | _ => False
section
variable {P : Program} {w : World} {H : Hp} {h h' : Heap} {x e : Addr} {o' : HO}
/-- the object at e is changed: x itself, or the dict of the instance x -/
theorem HOk.write (ok : HOk P w H h) (mu : Mut (H x)) (he : e = x ∨ H e = some (.own x)) (k : ∀ b u, b ≠ e → h.get? b = some u → h'.get? b = some u) (heo : ∃ u, h'.get? e = some u)
    (new : ObjOk P w (upd H x o') h' x o') : HOk P w (upd H x o') h' := fun b u q => by
  have nown : ∀ c y, H c = some (.own y) → c ≠ x := fun c y r z => by subst z; rw [r] at mu; exact mu
  have ntup : ∀ c xs, H c = some (.tup xs) → c ≠ x := fun c xs r z => by subst z; rw [r] at mu; exact mu
  by_cases hb : b = x
  · subst hb; rw [upd_same] at q; cases q; exact new
  · rw [upd_ne hb] at q
    by_cases hbe : b = e
    · have q' : H b = some (.own x) := by
        rcases he with z | z
        · exact absurd (hbe.trans z) hb
        · rw [hbe]; exact z
      rw [q] at q'; cases q'
      obtain ⟨v, hv⟩ := heo
      exact ⟨v, by rw [hbe]; exact hv⟩
    · refine (ok b u q).stay (fun c v hc r => k c v ?_ r) (fun c r => by rw [upd_ne (nown c b r)]; exact r) fun c xs r => by rw [upd_ne (ntup c xs r)]; exact r
      rcases hc with rfl | hc
      · exact hbe
      · rintro rfl
        rcases he with z | z
        · exact nown c b hc z
        · rw [hc] at z; cases z; exact hb rfl
end
structure Un (fs ex : List Addr) (H H' : Hp) (h h' : Heap) : Prop where
  keep : ∀ b o, h.get? b = some o → H b = none → b ∉ fs → b ∉ ex → h'.get? b = some o
  slot : ∀ b o, h.get? b = some o → H b = none → b ∈ fs → b ∉ ex → ∃ sl, h'.get? b = some { o with slots := sl }
  free : ∀ b o, h.get? b = some o → H b = none → b ∉ ex → H' b = none
  there : ∀ b o, h.get? b = some o → b ∉ ex → ∃ o', h'.get? b = some o'
  tups : ∀ b xs, H b = some (.tup xs) → H' b = some (.tup xs)
  frzs : ∀ b o u, H b = some (.frz o u) → H' b = some (.frz o u)
  tbls : ∀ b ps, H b = some (.tbl ps) → ∃ more, H' b = some (.tbl (ps ++ more))
section
variable {fs fs' ex ex' : List Addr} {H H1 H2 : Hp} {h h1 h2 h' : Heap} {a x e : Addr} {o : HO}
theorem Un.any (u : Un fs ex H H1 h h1) {b : Addr} {ob : Obj} (q : h.get? b = some ob) (n : H b = none) (hx : b ∉ ex) : ∃ sl, h1.get? b = some { ob with slots := sl } := by
  by_cases hb : b ∈ fs
  · exact u.slot b ob q n hb hx
  · exact ⟨ob.slots, u.keep b ob q n hb hx⟩
theorem Un.kept (k : ∀ b u, h.get? b = some u → h'.get? b = some u) : Un fs ex H H h h' :=
  ⟨fun b ob q _ _ _ => k b ob q, fun b ob q _ _ _ => ⟨ob.slots, k b ob q⟩, fun _ _ _ n _ => n, fun b ob q _ => ⟨ob, k b ob q⟩, fun _ _ q => q, fun _ _ _ q => q, fun _ ps q => ⟨#[], by rw [q]; simp⟩⟩
theorem Un.refl : Un fs ex H H h h := Un.kept fun _ _ q => q
theorem Un.laid (k : ∀ b u, h.get? b = some u → h'.get? b = some u) (hp : h.objs.size ≤ a) (hn : H a = none) : Un fs ex H (upd H a o) h h' where
  keep := fun b u q _ _ _ => k b u q
  slot := fun b u q _ _ _ => ⟨u.slots, k b u q⟩
  free := fun b u q n _ => by rw [upd_ne (Nat.ne_of_lt (Nat.lt_of_lt_of_le (Heap.lt_size q) hp))]; exact n
  there := fun b u q _ => ⟨u, k b u q⟩
  tups := fun b xs q => by rw [upd_ne (ne_of_none q hn)]; exact q
  frzs := fun b u xs q => by rw [upd_ne (ne_of_none q hn)]; exact q
  tbls := fun b ps q => ⟨#[], by rw [upd_ne (ne_of_none q hn), q]; simp⟩
theorem Un.write (mu : Mut (H x)) (he : e = x ∨ H e = some (.own x)) (k : ∀ b u, b ≠ e → h.get? b = some u → h'.get? b = some u) (heo : ∃ u, h'.get? e = some u) : Un fs ex H (upd H x o) h h' := by
  have hx : ∀ b, H b = none → b ≠ x := fun b n z => by subst z; rw [n] at mu; exact mu
  have hb : ∀ b, H b = none → b ≠ e := fun b n z => by
    subst z
    rcases he with r | r
    · exact hx b n r
    · rw [n] at r; cases r
  have hm : ∀ b u, H b = some u → ¬ Mut (some u) → b ≠ x := fun b u q nm z => by subst z; rw [q] at mu; exact nm mu
  refine ⟨fun b u q n _ _ => k b u (hb b n) q, fun b u q n _ _ => ⟨u.slots, k b u (hb b n) q⟩, fun b u q n _ => by rw [upd_ne (hx b n)]; exact n, fun b u q _ => ?_,
    fun b xs q => by rw [upd_ne (hm b _ q fun z => z)]; exact q, fun b u xs q => by rw [upd_ne (hm b _ q fun z => z)]; exact q, fun b ps q => ⟨#[], by rw [upd_ne (hm b _ q fun z => z), q]; simp⟩⟩
  by_cases hbe : b = e
  · subst hbe; exact heo
  · exact ⟨u, k b u hbe q⟩
end
def trk (h : Heap) (H : Hp) : List Addr := (List.range h.objs.size).filter fun a => (H a).isSome
def hidT (h : Heap) (H : Hp) : Heap := PySem.W.hideAll h (trk h H)
theorem hidT_size (h : Heap) (H : Hp) : (hidT h H).objs.size = h.objs.size := PySem.W.hideAll_size _ _
theorem hidT_get {h : Heap} {H : Hp} {b : Addr} {o : Obj} (e : h.get? b = some o) (n : H b = none) : (hidT h H).get? b = some o :=
  PySem.W.hideAll_get _ e fun hm => by
    have q : (H b).isSome = true := (List.mem_filter.mp hm).2
    rw [n] at q; simp at q
theorem of_hidT {h : Heap} {H : Hp} {b : Addr} {o : Obj} (e : (hidT h H).get? b = some o) : h.get? b = some o ∧ H b = none := by
  have e' : h.get? b = some o := PySem.W.of_hideAll (trk h H) e
  refine ⟨e', ?_⟩
  cases q : H b with
  | none => rfl
  | some x =>
    have hm : b ∈ trk h H := List.mem_filter.mpr ⟨List.mem_range.mpr (Heap.lt_size e'), by simp [q]⟩
    have z : (hidT h H).get? b = none := PySem.W.hideAll_none (trk h H) hm
    rw [z] at e; cases e
end L2
namespace L2
open PySem PySem.Spec PyProof.Rows
/-- the module's facts, over the base: the heap at the law's entry without what is tracked there -/
structure Mod (K : PySem.W.Frag) (mg : Str → Option Value) (base : Heap) : Prop where
  kin : K.In base
  glob : base.Ns mainGlobals mg
  blt : ∃ mb, base.Ns builtinsNs mb ∧ ∀ x : Str, x ≠ "__name__" → mb x = bootBuiltins x
  nolimit : base.NoLimit
/-- the context: a def's body (or a comprehension's block) running. base: fixed through the whole law; s₀, H₀: the entry; outer: the frames whose slots others may change (a def's callers); stack: all frames that run;
   ex: iterators that were made ahead of the entry and are walked here (a comprehension's); fn: the names whose cells were made at the entry (a def: all; a comprehension's block: its own); calm: not within an except suite; pn: pins that every state bears; xe: what is wanted of an exception that leaves the code -/
structure Cx where
  prog : Program
  w : World
  K : PySem.W.Frag
  mg : Str → Option Value
  base : Heap
  A : Around
  N : List Str
  s_0 : Shared
  H_0 : Hp
  env : Env
  outer : List Env
  stack : List Env
  ex : List Addr
  fn : Str → Bool
  calm : Bool
  pn : List (Addr × Obj)
  xe : Value → Shared → Prop
/-- the callers' frames -/
def frs (l : List Env) : List Addr := l.filterMap (·.frame)
abbrev Cx.fs (X : Cx) : List Addr := frs X.outer
def Vis (sc : Scope) (x : Str) : Prop := sc.names.lookup x = some .local ∨ sc.names.lookup x = some .cell ∨ sc.names.lookup x = some .free
def Loc (sc : Scope) (x : Str) : Prop := sc.names.lookup x = some .local ∨ sc.names.lookup x = some .cell
def Look (env : Env) (h : Heap) (m : Str → Option Value) (x : Str) (u : Value) : Prop :=
  (env.kindOf x = some .local ∧ m x = some u) ∨ ((env.kindOf x = some .cell ∨ env.kindOf x = some .free) ∧ ∃ c, env.cells.lookup x = some c ∧ h.IsCell c (some u))
structure Cx.Ok (X : Cx) : Prop where
  mod : Mod X.K X.mg X.base
  kind : X.env.scope.kind = .function
  glob : X.env.globals = mainGlobals
  blt : X.env.builtins = builtinsNs
  above : X.s_0.heap.objs.size ≤ X.env.locals
  inj : ∀ x y c, X.env.cells.lookup x = some c → X.env.cells.lookup y = some c → x = y
  has : ∀ x, (X.env.kindOf x = some .cell ∨ X.env.kindOf x = some .free) → ∃ c, X.env.cells.lookup x = some c
  cab : ∀ x c, X.fn x = true → X.env.cells.lookup x = some c → X.s_0.heap.objs.size ≤ c
  hd : X.calm = true → X.A.handled = none
  frames : X.A.frames = some X.stack
  stk : X.stack = X.outer ∨ (X.stack = X.env :: X.outer ∧ X.env.frame = some X.env.locals)
  exf : ∀ b ∈ X.ex, b ≠ X.env.locals ∧ ∀ x c, X.env.cells.lookup x = some c → c ≠ b
  bs : ∀ b o, X.base.get? b = some o → X.s_0.heap.get? b = some o ∧ X.H_0 b = none
  bsz : X.base.objs.size ≤ X.s_0.heap.objs.size
  noex : ∀ b o, X.base.get? b = some o → b ∉ X.ex
  exfs : ∀ b ∈ X.ex, b ∉ X.fs
  funs : X.s_0.heap.FunFrames X.base X.outer
  frf : ∀ b ∈ X.fs, X.H_0 b = none
structure Inv (X : Cx) (pins : List (Addr × Obj)) (σ : List (Option V)) (H : Hp) (s : Shared) : Prop where
  ok : X.Ok
  os : s.os = X.s_0.os
  bare : AllBare s.gens
  base : Un X.fs X.ex X.H_0 H X.s_0.heap s.heap
  loc : ∃ m, s.heap.Ns X.env.locals m ∧ ∀ (i : Nat) (x : Str) (v : V), X.N[i]? = some x → σ[i]? = some (some v) → Vis X.env.scope x → ∃ u, RelV v u ∧ Look X.env s.heap m x u
  cell : ∀ x c, X.env.cells.lookup x = some c → ∃ v, s.heap.IsCell c v
  free : H X.env.locals = none
  freeC : ∀ x c, X.env.cells.lookup x = some c → H c = none
  pin : ∀ p ∈ X.pn ++ pins, s.heap.get? p.1 = some p.2 ∧ H p.1 = none ∧ p.1 ≠ X.env.locals ∧ p.1 ∉ X.fs ∧ ∀ v, p.2.data ≠ .cell v
  hok : HOk X.prog X.w H s.heap
  len : σ.length = X.N.length
section
variable {X : Cx} {pins : List (Addr × Obj)} {σ : List (Option V)} {H H' : Hp} {s : Shared} {h' : Heap}
theorem Cx.Ok.nofr (ok : X.Ok) {b : Addr} {o : Obj} (e : X.base.get? b = some o) : b ∉ X.fs := fun hb => by
  have := (ok.funs.mem hb).1
  rw [e] at this; cases this
theorem Inv.bs (I : Inv X pins σ H s) : ∀ b o, X.base.get? b = some o → s.heap.get? b = some o ∧ H b = none := fun b o e =>
  ⟨I.base.keep b o (I.ok.bs b o e).1 (I.ok.bs b o e).2 (I.ok.nofr e) (I.ok.noex b o e), I.base.free b o (I.ok.bs b o e).1 (I.ok.bs b o e).2 (I.ok.noex b o e)⟩
theorem Inv.bk (I : Inv X pins σ H s) : ∀ b o, X.base.get? b = some o → s.heap.get? b = some o := fun b o e => (I.bs b o e).1
theorem Inv.mod (I : Inv X pins σ H s) : Mod X.K X.mg X.base := I.ok.mod
theorem Inv.kIn (I : Inv X pins σ H s) : X.K.In s.heap := I.ok.mod.kin.keeps I.bk
theorem Inv.lt (I : Inv X pins σ H s) : X.env.locals < s.heap.objs.size := let ⟨_, hn, _⟩ := I.loc; hn.lt
theorem Inv.sz (I : Inv X pins σ H s) : X.s_0.heap.objs.size ≤ s.heap.objs.size := Nat.le_trans I.ok.above (Nat.le_of_lt I.lt)
theorem Inv.nofs (I : Inv X pins σ H s) {a : Addr} (h : s.heap.objs.size ≤ a) : a ∉ X.fs := fun hb => by
  obtain ⟨_, o, ho, _⟩ := I.ok.funs.mem hb
  exact absurd (Nat.lt_of_lt_of_le (Heap.lt_size ho) (Nat.le_trans I.sz h)) (Nat.lt_irrefl _)
theorem Inv.cne (I : Inv X pins σ H s) : ∀ x c, X.env.cells.lookup x = some c → c ≠ X.env.locals := fun x c e z => by
  obtain ⟨v, o, ho, hd⟩ := I.cell x c e
  obtain ⟨m, ⟨o', es, ep, ho', hd', _⟩, _⟩ := I.loc
  rw [z, ho'] at ho; cases ho; rw [hd'] at hd; cases hd
theorem Inv.funs (I : Inv X pins σ H s) : s.heap.FunFrames X.base X.outer := by
  have all : ∀ (l : List Env), (∀ b ∈ frs l, b ∈ X.fs) → X.s_0.heap.FunFrames X.base l → s.heap.FunFrames X.base l := by
    intro l
    induction l with
    | nil => intro _ _; trivial
    | cons env r ih =>
      intro hs hl
      obtain ⟨hk, ⟨L, o, hf, hn, ho, hd⟩, hr⟩ := hl
      have hL : L ∈ X.fs := hs L (by unfold frs; rw [List.filterMap_cons, hf]; exact List.mem_cons_self)
      obtain ⟨sl, e⟩ := I.base.slot L o ho (I.ok.frf L hL) hL fun z => I.ok.exfs L z hL
      exact ⟨hk, ⟨L, _, hf, hn, e, hd⟩, ih (fun b hb => hs b (by unfold frs; rw [List.filterMap_cons, hf]; exact List.mem_cons_of_mem _ hb)) hr⟩
  exact all X.outer (fun _ hb => hb) I.ok.funs
/-- the frames that run, for a call -/
theorem Inv.stack (I : Inv X pins σ H s) : s.heap.FunFrames X.base X.stack := by
  rcases I.ok.stk with e | ⟨e, hf⟩
  · rw [e]; exact I.funs
  · rw [e]
    obtain ⟨m, hn, _⟩ := I.loc
    refine .cons (by rw [I.ok.kind]; decide) hf hn ?_ I.funs
    exact Heap.get?_none_of_le (Nat.le_trans I.ok.bsz I.ok.above)
theorem Inv.stkSub (I : Inv X pins σ H s) : ∀ b ∈ frs X.stack, b ∈ X.env.locals :: X.fs := fun b hb => by
  rcases I.ok.stk with e | ⟨e, hf⟩
  · rw [e] at hb; exact List.mem_cons_of_mem _ hb
  · rw [e] at hb
    unfold frs at hb
    rw [List.filterMap_cons, hf] at hb
    exact hb
theorem Inv.stkFree (I : Inv X pins σ H s) : ∀ b ∈ frs X.stack, H b = none := fun b hb => by
  rcases List.mem_cons.mp (I.stkSub b hb) with e | hb
  · rw [e]; exact I.free
  · obtain ⟨_, o, ho, _⟩ := I.ok.funs.mem hb
    exact I.base.free b o ho (I.ok.frf b hb) fun z => I.ok.exfs b z hb
/-- THE STEP: the untracked objects but the frame and the records at ch are kept (the callers' frames up to slots), the frame's map is kept, the new abstract heap is held -/
theorem Inv.step {g' : Array GenState} {t' : Nat} {d' : Drawn} {ch : List Addr} (I : Inv X pins σ H s)
    (hch : ∀ b ∈ ch, (b ∈ X.ex ∨ X.s_0.heap.objs.size ≤ b) ∧ b ≠ X.env.locals ∧ (∀ x c, X.env.cells.lookup x = some c → c ≠ b) ∧ ∀ p ∈ X.pn ++ pins, p.1 ≠ b)
    (keep : ∀ b o, b ≠ X.env.locals → b ∉ X.fs → b ∉ ch → s.heap.get? b = some o → H b = none → h'.get? b = some o)
    (slot : ∀ b o, b ≠ X.env.locals → b ∈ X.fs → b ∉ ch → s.heap.get? b = some o → H b = none → ∃ sl, h'.get? b = some { o with slots := sl }) (free : ∀ b o, b ∉ ch → s.heap.get? b = some o → H b = none → H' b = none)
    (there : ∀ b o, b ∉ ch → s.heap.get? b = some o → ∃ o', h'.get? b = some o')
    (tups : ∀ b xs, H b = some (.tup xs) → H' b = some (.tup xs)) (frzs : ∀ b o u, H b = some (.frz o u) → H' b = some (.frz o u)) (tbls : ∀ b ps, H b = some (.tbl ps) → ∃ more, H' b = some (.tbl (ps ++ more)))
    (ns : ∀ m, s.heap.Ns X.env.locals m → h'.Ns X.env.locals m) (hok : HOk X.prog X.w H' h') (hg : AllBare g') :
    Inv X pins σ H' { s with heap := h', gens := g', drawn := d', toks := t' } := by
  have neL : ∀ b o, X.s_0.heap.get? b = some o → b ≠ X.env.locals := fun b o e => Nat.ne_of_lt (Nat.lt_of_lt_of_le (Heap.lt_size e) I.ok.above)
  have neC : ∀ b o, X.s_0.heap.get? b = some o → b ∉ X.ex → b ∉ ch := fun b o e hx hb => by
    rcases (hch b hb).1 with z | z
    · exact hx z
    · exact absurd (Nat.lt_of_lt_of_le (Heap.lt_size e) z) (Nat.lt_irrefl _)
  have cellK : ∀ x c, X.env.cells.lookup x = some c → ∀ v, s.heap.IsCell c v → h'.IsCell c v := fun x c e v ⟨o, ho, hd⟩ => by
    have nch : c ∉ ch := fun z => (hch c z).2.2.1 x c e rfl
    by_cases hc : c ∈ X.fs
    · obtain ⟨sl, q⟩ := slot c o (I.cne x c e) hc nch ho (I.freeC x c e)
      exact ⟨_, q, hd⟩
    · exact ⟨o, keep c o (I.cne x c e) hc nch ho (I.freeC x c e), hd⟩
  refine ⟨I.ok, I.os, hg, ⟨fun b o e n hb hx => ?_, fun b o e n hb hx => ?_, fun b o e n hx => ?_, fun b o e hx => ?_, fun b xs e => tups b xs (I.base.tups b xs e), fun b o xs e => frzs b o xs (I.base.frzs b o xs e), fun b ps e => ?_⟩, ?_, fun x c e => ?_, ?_, fun x c e => ?_, fun p hp => ?_, hok, I.len⟩
  · exact keep b o (neL b o e) hb (neC b o e hx) (I.base.keep b o e n hb hx) (I.base.free b o e n hx)
  · obtain ⟨sl, e1⟩ := I.base.slot b o e n hb hx
    obtain ⟨sl', e2⟩ := slot b _ (neL b o e) hb (neC b o e hx) e1 (I.base.free b o e n hx)
    exact ⟨sl', e2⟩
  · obtain ⟨o', e1⟩ := I.base.there b o e hx
    exact free b o' (neC b o e hx) e1 (I.base.free b o e n hx)
  · obtain ⟨o', e1⟩ := I.base.there b o e hx
    exact there b o' (neC b o e hx) e1
  · obtain ⟨m1, e1⟩ := I.base.tbls b ps e
    obtain ⟨m2, e2⟩ := tbls b _ e1
    exact ⟨m1 ++ m2, by rw [e2, Array.append_assoc]⟩
  · obtain ⟨m, hn, hl⟩ := I.loc
    refine ⟨m, ns m hn, fun i x v e1 e2 e3 => ?_⟩
    obtain ⟨u, r, l⟩ := hl i x v e1 e2 e3
    refine ⟨u, r, ?_⟩
    rcases l with l | ⟨k, c, e, z⟩
    · exact .inl l
    · exact .inr ⟨k, c, e, cellK x c e _ z⟩
  · obtain ⟨v, z⟩ := I.cell x c e
    exact ⟨v, cellK x c e v z⟩
  · obtain ⟨m, ⟨o, _, _, ho, _⟩, _⟩ := I.loc
    exact free _ o (fun z => (hch _ z).2.1 rfl) ho I.free
  · obtain ⟨v, o, ho, hd⟩ := I.cell x c e
    exact free c o (fun z => (hch c z).2.2.1 x c e rfl) ho (I.freeC x c e)
  · obtain ⟨e, n, ne, nf, d⟩ := I.pin p hp
    have nch : p.1 ∉ ch := fun z => (hch p.1 z).2.2.2 p hp rfl
    exact ⟨keep p.1 p.2 ne nf nch e n, free p.1 p.2 nch e n, ne, nf, d⟩
/-- .. where the frame's own object is kept too -/
theorem Inv.un {t' : Nat} (I : Inv X pins σ H s) (u : Un X.fs [] H H' s.heap h') (hok : HOk X.prog X.w H' h') : Inv X pins σ H' { s with heap := h', toks := t' } := by
  obtain ⟨m, ⟨o, es, ep, ho, r⟩, _⟩ := id I.loc
  obtain ⟨sl, hL⟩ := u.any ho I.free (by simp)
  exact I.step (g' := s.gens) (d' := s.drawn) (ch := []) (fun _ z => nomatch z) (fun b o _ hb _ e n => u.keep b o e n hb (by simp)) (fun b o _ hb _ e n => u.slot b o e n hb (by simp)) (fun b o _ e n => u.free b o e n (by simp)) (fun b o _ e => u.there b o e (by simp)) u.tups u.frzs u.tbls (fun m' hm => by
    obtain ⟨o', es', ep', ho', r'⟩ := hm
    rw [ho] at ho'; cases ho'
    exact ⟨_, es', ep', hL, r'⟩) hok I.bare
/-- behind a call (or a comprehension's block): the slots of this frame may have changed too, the records at ch may have turned -/
theorem Inv.call {g' : Array GenState} {t' : Nat} {d' : Drawn} {ch : List Addr} (I : Inv X pins σ H s) (u : Un (frs X.stack) ch H H' s.heap h') (hok : HOk X.prog X.w H' h') (hg : AllBare g')
    (hch : ∀ b ∈ ch, (b ∈ X.ex ∨ X.s_0.heap.objs.size ≤ b) ∧ b ≠ X.env.locals ∧ (∀ x c, X.env.cells.lookup x = some c → c ≠ b) ∧ ∀ p ∈ X.pn ++ pins, p.1 ≠ b) :
    Inv X pins σ H' { s with heap := h', gens := g', drawn := d', toks := t' } := by
  obtain ⟨m, ⟨o, es, ep, ho, r⟩, _⟩ := id I.loc
  obtain ⟨sl, hL⟩ := u.any ho I.free fun z => (hch _ z).2.1 rfl
  exact I.step (ch := ch) hch (fun b o hL hb hc e n => u.keep b o e n (fun z => (List.mem_cons.mp (I.stkSub b z)).elim hL hb) hc) (fun b o _ _ hc e n => u.any e n hc) (fun b o hc e n => u.free b o e n hc) (fun b o hc e => u.there b o e hc) u.tups u.frzs u.tbls (fun m' hm => by
    obtain ⟨o', es', ep', ho', r'⟩ := hm
    rw [ho] at ho'; cases ho'
    exact ⟨_, es', ep', hL, r'⟩) hok hg
/-- an untracked record of ours (an iterator) has turned -/
theorem Inv.turned {t' : Nat} {it : Addr} (I : Inv X pins σ H s) (k : ∀ b o, b ≠ it → s.heap.get? b = some o → h'.get? b = some o) (hn : H it = none) (hL : it ≠ X.env.locals)
    (h1 : it ∈ X.ex ∨ X.s_0.heap.objs.size ≤ it) (h2 : ∀ x c, X.env.cells.lookup x = some c → c ≠ it) (h3 : ∀ p ∈ X.pn ++ pins, p.1 ≠ it) : Inv X pins σ H { s with heap := h', toks := t' } := by
  have nit : ∀ b u, H b = some u → b ≠ it := fun b u e z => by rw [z, hn] at e; cases e
  refine I.step (g' := s.gens) (d' := s.drawn) (ch := [it]) (fun b hb => ?_) (fun b o _ _ hc e _ => k b o (fun z => hc (by simp [z])) e) (fun b o _ _ hc e _ => ⟨o.slots, k b o (fun z => hc (by simp [z])) e⟩) (fun _ _ _ _ n => n)
    (fun b o hc e => ⟨o, k b o (fun z => hc (by simp [z])) e⟩) (fun _ _ e => e) (fun _ _ _ e => e) (fun b ps e => ⟨#[], by rw [e]; simp⟩) (fun m hm => ?_) (fun b u e => ?_) I.bare
  · have e : b = it := by simpa using hb
    subst e
    exact ⟨h1, hL, h2, h3⟩
  · obtain ⟨o, es, ep, ho, r⟩ := hm
    exact ⟨o, es, ep, k _ o (Ne.symm hL) ho, r⟩
  · refine (I.hok b u e).stay (fun c v hc q => k c v ?_ q) (fun _ q => q) fun _ _ q => q
    rcases hc with z | z
    · rw [z]; exact nit b u e
    · exact nit c _ z
theorem Inv.tok (I : Inv X pins σ H s) (t : Nat) : Inv X pins σ H { s with toks := t } := I.un (h' := s.heap) (t' := t) Un.refl I.hok
/-- all objects kept -/
theorem Inv.kept {t' : Nat} (I : Inv X pins σ H s) (k : ∀ b u, s.heap.get? b = some u → h'.get? b = some u) : Inv X pins σ H { s with heap := h', toks := t' } := I.un (Un.kept k) (I.hok.kept k)
/-- a new object laid and tracked -/
theorem Inv.laid {a : Addr} {o : HO} {t' : Nat} (I : Inv X pins σ H s) (k : ∀ b u, s.heap.get? b = some u → h'.get? b = some u) (hp : s.heap.objs.size ≤ a) (new : ObjOk X.prog X.w (upd H a o) h' a o) :
    Inv X pins σ (upd H a o) { s with heap := h', toks := t' } := I.un (Un.laid k hp (I.hok.fresh hp)) (I.hok.laid k hp new)
/-- an object written -/
theorem Inv.write {x e : Addr} {o : HO} {t' : Nat} (I : Inv X pins σ H s) (mu : Mut (H x)) (he : e = x ∨ H e = some (.own x)) (k : ∀ b u, b ≠ e → s.heap.get? b = some u → h'.get? b = some u) (heo : ∃ u, h'.get? e = some u)
    (new : ObjOk X.prog X.w (upd H x o) h' x o) : Inv X pins σ (upd H x o) { s with heap := h', toks := t' } := I.un (Un.write mu he k heo) (I.hok.write mu he k heo new)
/-- forgetting slots, pins -/
theorem Inv.weak {σ' : List (Option V)} (I : Inv X pins σ H s) (hl : σ'.length = σ.length) (w : ∀ (i : Nat) v, σ'[i]? = some (some v) → σ[i]? = some (some v)) : Inv X pins σ' H s :=
  ⟨I.ok, I.os, I.bare, I.base, let ⟨m, hn, hl'⟩ := I.loc; ⟨m, hn, fun i x v e1 e2 e3 => hl' i x v e1 (w i v e2) e3⟩, I.cell, I.free, I.freeC, I.pin, I.hok, hl.trans I.len⟩
theorem Inv.pins_of {pins' : List (Addr × Obj)} (I : Inv X pins σ H s) (h : ∀ p ∈ pins', s.heap.get? p.1 = some p.2 ∧ H p.1 = none ∧ p.1 ≠ X.env.locals ∧ p.1 ∉ X.fs ∧ ∀ v, p.2.data ≠ .cell v) : Inv X pins' σ H s :=
  ⟨I.ok, I.os, I.bare, I.base, I.loc, I.cell, I.free, I.freeC, fun p hp => (List.mem_append.mp hp).elim (fun z => I.pin p (List.mem_append_left _ z)) (h p), I.hok, I.len⟩
theorem nodup_ix {N : List Str} (hN : N.Nodup) {i j : Nat} {x : Str} (a : N[i]? = some x) (b : N[j]? = some x) : i = j := by
  obtain ⟨h1, e1⟩ := List.getElem?_eq_some_iff.mp a
  obtain ⟨h2, e2⟩ := List.getElem?_eq_some_iff.mp b
  exact (List.getElem_inj hN).mp (e1.trans e2.symm)
/-- a name is stored; what changed -/
theorem store_ok2 {M : Model} {A : Around} {E : Value → Shared → Prop} {i : Nat} {x : Str} {v : V} {u : Value} {Q : Unit → Shared → Prop} (I : Inv X pins σ H s) (hN : X.N.Nodup) (hi : X.N[i]? = some x) (hx : Loc X.env.scope x) (r : RelV v u)
    (h : ∀ s', Inv X pins (σ.set i (some v)) H s' → (∃ a, Heap.SameBut a s.heap s'.heap ∧ (a = X.env.locals ∨ X.env.cells.lookup x = some a)) → Q () s') (hf : X.fn x = true ∨ X.env.scope.names.lookup x = some .local := by first | exact .inl rfl | exact .inr rfl | assumption) : wpAny M A (storeName X.env x u) Q E s := by
  obtain ⟨m, hn, hl⟩ := id I.loc
  have hcls : (X.env.scope.kind == .class || (X.env.scope.kind == .module && X.env.locals != X.env.globals)) = false := by rw [I.ok.kind]; rfl
  have hiσ : i < σ.length := by rw [I.len]; exact (List.getElem?_eq_some_iff.mp hi).1
  have cne := I.cne
  have tracked : ∀ {a : Addr} {h' : Heap}, (∃ o, s.heap.get? a = some o ∧ H a = none) → Heap.SameBut a s.heap h' → HOk X.prog X.w H h' := fun {a h'} ha hs b ob e => by
    obtain ⟨_, _, hfree⟩ := ha
    refine (I.hok b ob e).stay (fun c w' hc q => (hs.2 c ?_).trans q) (fun _ q => q) fun _ _ q => q
    rintro rfl
    rcases hc with rfl | hc
    · rw [hfree] at e; cases e
    · rw [hfree] at hc; cases hc
  rcases hx with hk | hk
  · refine wpAny_storeName_local hk hn (fun h' hn' hs => ?_) hcls
    obtain ⟨oL, _, _, hoL, _⟩ := id hn
    refine h _ ⟨I.ok, I.os, I.bare, ⟨fun b o e n hb hx => ?_, fun b o e n hb hx => ?_, I.base.free, fun b o e hx => ?_, I.base.tups, I.base.frzs, I.base.tbls⟩, ⟨_, hn', fun j y v' e1 e2 e3 => ?_⟩, fun y c e => ?_, I.free, I.freeC, fun p hp => ?_, tracked ⟨oL, hoL, I.free⟩ hs, by simpa using I.len⟩ ⟨_, hs, .inl rfl⟩
    · exact (hs.2 b (Nat.ne_of_lt (Nat.lt_of_lt_of_le (Heap.lt_size e) I.ok.above))).trans (I.base.keep b o e n hb hx)
    · obtain ⟨sl, e1⟩ := I.base.slot b o e n hb hx
      exact ⟨sl, (hs.2 b (Nat.ne_of_lt (Nat.lt_of_lt_of_le (Heap.lt_size e) I.ok.above))).trans e1⟩
    · obtain ⟨o', e1⟩ := I.base.there b o e hx
      exact ⟨o', (hs.2 b (Nat.ne_of_lt (Nat.lt_of_lt_of_le (Heap.lt_size e) I.ok.above))).trans e1⟩
    · by_cases hj : j = i
      · subst hj
        rw [hi] at e1; cases e1
        rw [List.getElem?_set_self hiσ] at e2
        cases e2
        exact ⟨u, r, .inl ⟨hk, by simp⟩⟩
      · rw [List.getElem?_set_ne (Ne.symm hj)] at e2
        obtain ⟨u', r', q⟩ := hl j y v' e1 e2 e3
        refine ⟨u', r', ?_⟩
        rcases q with ⟨k, e⟩ | ⟨k, c, e, z⟩
        · refine .inl ⟨k, ?_⟩
          have : y ≠ x := fun e => hj (nodup_ix hN e1 (e ▸ hi))
          simp [this, e]
        · exact .inr ⟨k, c, e, z.sameBut hs (cne y c e)⟩
    · obtain ⟨w', z⟩ := I.cell y c e
      exact ⟨w', z.sameBut hs (cne y c e)⟩
    · obtain ⟨e, n, ne, nf, d⟩ := I.pin p hp
      exact ⟨(hs.2 p.1 ne).trans e, n, ne, nf, d⟩
  · have hfn : X.fn x = true := by
      rcases hf with z | z
      · exact z
      · rw [z] at hk; cases hk
    obtain ⟨c, hc⟩ := I.ok.has x (.inl hk)
    obtain ⟨w', z⟩ := I.cell x c hc
    refine wpAny_storeName_cell I.ok.kind hk hc z (fun h' hc' hs => ?_)
    obtain ⟨oc, hoc, hocd⟩ := id z
    refine h { s with heap := h' } ⟨I.ok, I.os, I.bare, ⟨fun b o e n hb hx => ?_, fun b o e n hb hx => ?_, I.base.free, fun b o e hx => ?_, I.base.tups, I.base.frzs, I.base.tbls⟩, ⟨m, hn.sameBut hs (Ne.symm (cne x c hc)), fun j y v' e1 e2 e3 => ?_⟩, fun y c' e => ?_, I.free, I.freeC, fun p hp => ?_, tracked ⟨oc, hoc, I.freeC x c hc⟩ hs, by simpa using I.len⟩ ⟨c, hs, .inr hc⟩
    · exact (hs.2 b (Nat.ne_of_lt (Nat.lt_of_lt_of_le (Heap.lt_size e) (I.ok.cab x c hfn hc)))).trans (I.base.keep b o e n hb hx)
    · obtain ⟨sl, e1⟩ := I.base.slot b o e n hb hx
      exact ⟨sl, (hs.2 b (Nat.ne_of_lt (Nat.lt_of_lt_of_le (Heap.lt_size e) (I.ok.cab x c hfn hc)))).trans e1⟩
    · obtain ⟨o', e1⟩ := I.base.there b o e hx
      exact ⟨o', (hs.2 b (Nat.ne_of_lt (Nat.lt_of_lt_of_le (Heap.lt_size e) (I.ok.cab x c hfn hc)))).trans e1⟩
    · by_cases hj : j = i
      · subst hj
        rw [hi] at e1; cases e1
        rw [List.getElem?_set_self hiσ] at e2
        cases e2
        exact ⟨u, r, .inr ⟨.inl hk, c, hc, hc'⟩⟩
      · rw [List.getElem?_set_ne (Ne.symm hj)] at e2
        obtain ⟨u', r', q⟩ := hl j y v' e1 e2 e3
        refine ⟨u', r', ?_⟩
        rcases q with q | ⟨k, c', e, z'⟩
        · exact .inl q
        · refine .inr ⟨k, c', e, z'.sameBut hs ?_⟩
          rintro rfl
          exact hj (nodup_ix hN e1 (I.ok.inj _ _ _ e hc ▸ hi))
    · by_cases hcc : c' = c
      · subst hcc; exact ⟨_, hc'⟩
      · obtain ⟨w2, z2⟩ := I.cell y c' e
        exact ⟨w2, z2.sameBut hs hcc⟩
    · obtain ⟨e, n, ne, nf, d⟩ := I.pin p hp
      refine ⟨(hs.2 p.1 ?_).trans e, n, ne, nf, d⟩
      intro q
      rw [q, hoc] at e
      have q' : oc = p.2 := Option.some.inj e
      exact d w' (by rw [← q']; exact hocd)
theorem store_ok {M : Model} {A : Around} {E : Value → Shared → Prop} {i : Nat} {x : Str} {v : V} {u : Value} {Q : Unit → Shared → Prop} (I : Inv X pins σ H s) (hN : X.N.Nodup) (hi : X.N[i]? = some x) (hx : Loc X.env.scope x) (r : RelV v u)
    (h : ∀ s', Inv X pins (σ.set i (some v)) H s' → Q () s') (hf : X.fn x = true ∨ X.env.scope.names.lookup x = some .local := by first | exact .inl rfl | exact .inr rfl | assumption) : wpAny M A (storeName X.env x u) Q E s :=
  store_ok2 I hN hi hx r (fun s' I' _ => h s' I') hf
/-- behind a call or a block, the state as it is -/
theorem Inv.call' {s' : Shared} {ch : List Addr} (I : Inv X pins σ H s) (ho : s'.os = s.os) (u : Un (frs X.stack) ch H H' s.heap s'.heap) (hok : HOk X.prog X.w H' s'.heap) (hg : AllBare s'.gens)
    (hch : ∀ b ∈ ch, (b ∈ X.ex ∨ X.s_0.heap.objs.size ≤ b) ∧ b ≠ X.env.locals ∧ (∀ x c, X.env.cells.lookup x = some c → c ≠ b) ∧ ∀ p ∈ X.pn ++ pins, p.1 ≠ b) : Inv X pins σ H' s' := by
  obtain ⟨h', g', d', t', o'⟩ := s'
  have e : o' = s.os := ho
  subst e
  exact I.call (g' := g') (t' := t') (d' := d') u hok hg hch
end
/-- an exception: its class, its own dict's address (where it has one), the abstract heap behind it -/
abbrev XK := Value → Option Addr → Hp → Prop
abbrev St := List (Option V)
abbrev VK := V → Hp → Prop
/-- an expression's reading; a test's; an argument list's -/
abbrev TE := St → Hp → VK → Prop
abbrev TT := St → Hp → (Bool → Hp → Prop) → Prop
abbrev TA := St → Hp → (List V → Hp → Prop) → Prop
/-- what is wanted behind a statement -/
structure Ends where
  nx : St → Hp → Prop
  rt : VK
  bk : St → Hp → Prop := fun _ _ => False
  ct : St → Hp → Prop := fun _ _ => False
abbrev TS := Ends → St → Hp → Prop
def EP (X : Cx) (pins : List (Addr × Obj)) (σ : St) (Q : VK) (u : Value) (s' : Shared) : Prop := ∃ v H', Inv X pins σ H' s' ∧ RelV v u ∧ Q v H'
def TP (X : Cx) (pins : List (Addr × Obj)) (σ : St) (Q : Bool → Hp → Prop) (b : Bool) (s' : Shared) : Prop := ∃ H', Inv X pins σ H' s' ∧ Q b H'
def AP (X : Cx) (pins : List (Addr × Obj)) (σ : St) (Q : List V → Hp → Prop) (us : List Value) (s' : Shared) : Prop := ∃ vs H', Inv X pins σ H' s' ∧ Vals vs us ∧ Q vs H'
def SP (X : Cx) (pins : List (Addr × Obj)) (D : Ends) (f : Flow) (s' : Shared) : Prop :=
  match f with
  | .next => ∃ σ' H', Inv X pins σ' H' s' ∧ D.nx σ' H'
  | .brk => ∃ σ' H', Inv X pins σ' H' s' ∧ D.bk σ' H'
  | .cont => ∃ σ' H', Inv X pins σ' H' s' ∧ D.ct σ' H'
  | .ret u => ∃ v σ' H', Inv X pins σ' H' s' ∧ RelV v u ∧ D.rt v H'
def PE (X : Cx) (e : Expr) (t : TE) : Prop :=
  ∀ (pins : List (Addr × Obj)) (s : Shared) (σ : St) (H : Hp) (Q : VK), Inv X pins σ H s → t σ H Q → wpAny (model X.prog X.w) X.A (eval e X.env) (EP X pins σ Q) X.xe s
def PT (X : Cx) (e : Expr) (t : TT) : Prop :=
  ∀ (pins : List (Addr × Obj)) (s : Shared) (σ : St) (H : Hp) (Q : Bool → Hp → Prop), Inv X pins σ H s → t σ H Q → wpAny (model X.prog X.w) X.A (isTrue e X.env (eval e X.env)) (TP X pins σ Q) X.xe s
/-- a test whatever its 'whole' is (and, or) -/
def PW (X : Cx) (e : Expr) (t : TT) : Prop :=
  ∀ (whole : Sem Value) (pins : List (Addr × Obj)) (s : Shared) (σ : St) (H : Hp) (Q : Bool → Hp → Prop), Inv X pins σ H s → t σ H Q → wpAny (model X.prog X.w) X.A (isTrue e X.env whole) (TP X pins σ Q) X.xe s
theorem PW.pt {X : Cx} {e : Expr} {t : TT} (h : PW X e t) : PT X e t := h _
/-- an argument list (no star), from the left -/
def PA (X : Cx) (es : List Expr) (t : TA) : Prop :=
  ∀ (pos : Pos) (pins : List (Addr × Obj)) (s : Shared) (σ : St) (H : Hp) (Q : List V → Hp → Prop), Inv X pins σ H s → t σ H Q → wpAny (model X.prog X.w) X.A (spliced (backTo pos (starEach es X.env))) (AP X pins σ Q) X.xe s
def PS (X : Cx) (st : Stmt) (t : TS) : Prop :=
  ∀ (pins : List (Addr × Obj)) (s : Shared) (σ : St) (H : Hp) (D : Ends), Inv X pins σ H s → t D σ H → wpAny (model X.prog X.w) X.A (exec st X.env) (SP X pins D) X.xe s
def PSs (X : Cx) (st : List Stmt) (t : TS) : Prop :=
  ∀ (pins : List (Addr × Obj)) (s : Shared) (σ : St) (H : Hp) (D : Ends), Inv X pins σ H s → t D σ H → wpAny (model X.prog X.w) X.A (execs st X.env) (SP X pins D) X.xe s
/-- weaken the end -/
theorem thn {α : Type} {t : Sem α} {Q Q' : α → Shared → Prop} {M : Model} {A : Around} {E : Value → Shared → Prop} {s : Shared} (h : wpAny M A t Q E s) (hQ : ∀ a s, Q a s → Q' a s) : wpAny M A t Q' E s := wpAny_mono h hQ fun _ _ x => x
end L2
namespace L2
open PySem PySem.Spec PyProof.Rows
section
variable {X : Cx}
def tVar (i : Nat) : TE := fun σ H Q => ∃ v, σ[i]? = some (some v) ∧ Q v H
def tC (v : V) : TE := fun _ H Q => Q v H
theorem pe_var {i : Nat} {x : Str} {pos : Pos} (hN : X.N[i]? = some x) (hv : Vis X.env.scope x) (hd : (x == ("__debug__" : Str)) = false := by decide) (hcd : (x == ("__classdict__" : Str)) = false := by decide) : PE X (.Name x pos) (tVar i) := by
  intro pins s σ H Q I h
  obtain ⟨v, e, h⟩ := h
  obtain ⟨m, hn, hl⟩ := I.loc
  obtain ⟨u, r, l⟩ := hl i x v hN e hv
  have fin : EP X pins σ Q u s := ⟨v, H, I, r, h⟩
  rcases l with ⟨hk, hm⟩ | ⟨hk, c, hc, hcell⟩
  · exact wpAny_Name (wpAny_loadName_local I.ok.kind hk hn hm fin) hd
  · rcases hk with hk | hk
    · exact wpAny_Name (wpAny_loadName_cell I.ok.kind hk hc hcell fin) hd
    · exact wpAny_Name (wpAny_loadName_free I.ok.kind hk hc hcell fin hcd) hd
theorem pe_int {i j pos} : PE X (.Constant (.int i) j pos) (tC (.int i)) := fun _ _ _ H _ I h => wpAny_Constant_int ⟨.int i, H, I.tok _, ⟨_, rfl⟩, h⟩
theorem pe_bl {b j pos} : PE X (.Constant (.bool b) j pos) (tC (.bl b)) := fun _ _ _ H _ I h => Constant_bool ⟨.bl b, H, I, rfl, h⟩
theorem pe_non {j pos} : PE X (.Constant .none j pos) (tC .non) := fun _ _ _ H _ I h => Constant_none ⟨.non, H, I, rfl, h⟩
/-- a global name of the def -/
def Gl (X : Cx) (x : Str) : Prop := X.env.kindOf x = some .globalImplicit
theorem ld_glob {E : Value → Shared → Prop} {pins : List (Addr × Obj)} {s : Shared} {σ : St} {H : Hp} {x : Str} {u : Value} {pos : Pos} {Q : Value → Shared → Prop} (I : Inv X pins σ H s) (hg : Gl X x) (hm : X.mg x = some u) (h : Q u s)
    (hd : (x == ("__debug__" : Str)) = false := by decide) : wpAny (model X.prog X.w) X.A (eval (.Name x pos) X.env) Q E s :=
  Calls.Name_function_global I.ok.kind hg (Calls.loadGlobal_global (by rw [I.ok.glob]; exact I.mod.glob.keeps I.bk) hm h) hd
theorem ld_blt {E : Value → Shared → Prop} {pins : List (Addr × Obj)} {s : Shared} {σ : St} {H : Hp} {x : Str} {u : Value} {pos : Pos} {Q : Value → Shared → Prop} (I : Inv X pins σ H s) (hg : Gl X x) (hm : X.mg x = none) (hv : bootBuiltins x = some u) (h : Q u s)
    (hn : x ≠ "__name__" := by decide) (hd : (x == ("__debug__" : Str)) = false := by decide) : wpAny (model X.prog X.w) X.A (eval (.Name x pos) X.env) Q E s := by
  obtain ⟨mb, h1, h2⟩ := I.mod.blt
  exact Calls.Name_function_global I.ok.kind hg (Calls.loadGlobal_builtin (by rw [I.ok.glob]; exact I.mod.glob.keeps I.bk) hm (by rw [I.ok.blt]; exact h1.keeps I.bk) ((h2 x hn).trans hv) h) hd
/-- a module's constant, a class, a function, as a value -/
theorem pe_glob {x : Str} {v : V} {u : Value} {pos : Pos} (hg : Gl X x) (hm : X.mg x = some u) (r : RelV v u) (hd : (x == ("__debug__" : Str)) = false := by decide) : PE X (.Name x pos) (tC v) :=
  fun _ _ _ H _ I h => ld_glob I hg hm ⟨v, H, I, r, h⟩ hd
variable {a b : Expr} {ta tb : TE} {pos : Pos}
def PC (X : Cx) (op : CmpOp) (a b : Expr) (t : TE) : Prop :=
  ∀ (pins : List (Addr × Obj)) (s : Shared) (σ : St) (H : Hp) (Q : VK), Inv X pins σ H s → t σ H Q →
    wpAny (model X.prog X.w) X.A (eval a X.env) (fun v s₁ => wpAny (model X.prog X.w) X.A (eval b X.env) (fun u s₂ => wpAny (model X.prog X.w) X.A (compareOp op v u) (EP X pins σ Q) X.xe s₂) X.xe s₁) X.xe s
theorem nobehind (b : Expr) {op : CmpOp} (h : op ≠ .In) (h2 : op ≠ .NotIn) : behindInMarks op b = false := by
  have e1 : (op == CmpOp.In) = false := by cases op <;> first | rfl | exact absurd rfl h
  have e2 : (op == CmpOp.NotIn) = false := by cases op <;> first | rfl | exact absurd rfl h2
  cases b <;> simp [behindInMarks, e1, e2]
/-- is None -/
def tIsN (ta : TE) : TE := fun σ H Q => ta σ H fun x H1 => Q (.bl (decide (x = .non))) H1
theorem RelV.none_iff {x : V} {v : Value} (r : RelV x v) : (v == Value.none) = decide (x = .non) := by
  cases x with
  | non => cases r; rfl
  | bl _ => cases r; rfl
  | int _ => obtain ⟨t, rfl⟩ := r; rfl
  | str _ => obtain ⟨t, rfl⟩ := r; rfl
  | byt _ => obtain ⟨t, rfl⟩ := r; rfl
  | flt _ => obtain ⟨t, rfl⟩ := r; rfl
  | ref _ => cases r; rfl
  | ty _ => cases r; rfl
theorem pc_isN {j pos'} (ha : PE X a ta) : PC X .Is a (.Constant .none j pos') (tIsN ta) := by
  intro pins s σ H Q I h
  refine thn (ha pins s σ H _ I h) fun v s1 ⟨x, H1, I1, r1, q1⟩ => ?_
  exact Constant_none (is_none_gen ⟨.bl _, H1, I1, by rw [r1.none_iff]; rfl, q1⟩)
/-- a comparison as a value, as a test -/
def tB (t : TE) : TT := fun σ H Q => t σ H fun x H1 => ∃ c, x = .bl c ∧ Q c H1
theorem pt_cmp {op : CmpOp} {t : TE} (h : PC X op a b t) (h1 : behindInMarks op b = false := by first | exact nobehind _ (by decide) (by decide) | rfl) : PT X (.Compare a [op] [b] pos) (tB t) := by
  intro pins s σ H Q I hw
  refine wpAny_isTrue_Compare1 (thn (h pins s σ H _ I hw) fun v s1 h1 => thn h1 fun u s2 h2 => thn h2 fun c s3 ⟨x, H1, I1, r1, q1⟩ => ?_) h1
  obtain ⟨d, rfl, q⟩ := q1
  cases r1
  exact wpAny_truthy_bool ⟨H1, I1, q⟩
/-- an expression whose value is a bool, as a test -/
theorem pt_val {e : Expr} {t : TE} (h : PE X e t) (he : ∀ whole, isTrue e X.env whole = (do let v ← whole; standAt e.pos; holding [v] (truthy v)) := by intro _; rfl) : PT X e (tB t) := by
  intro pins s σ H Q I hw
  refine isTrue_plain (thn (h pins s σ H _ I hw) fun v s1 ⟨x, H1, I1, r1, q1⟩ => ?_) (he _)
  obtain ⟨d, rfl, q⟩ := q1
  cases r1
  exact wpAny_truthy_bool ⟨H1, I1, q⟩
variable {tA tB' : TT} {rest : List Expr}
def tOr (t u : TT) : TT := fun σ H Q => t σ H fun c H1 => if c = true then Q true H1 else u σ H1 Q
def tNot (t : TT) : TT := fun σ H Q => t σ H fun c H1 => Q (!c) H1
theorem pw_or1 (ha : PT X a tA) : PW X (.BoolOp .Or [a] pos) tA := by
  intro wh pins s σ H Q I h
  refine isTrue_or (thn (ha pins s σ H Q I h) fun c s1 e => ?_)
  cases c with
  | false => exact isTrue_or_nil e
  | true => exact e
theorem pw_or (ha : PT X a tA) (hb : PW X (.BoolOp .Or (b :: rest) pos) tB') : PW X (.BoolOp .Or (a :: b :: rest) pos) (tOr tA tB') := by
  intro wh pins s σ H Q I h
  refine isTrue_or (thn (ha pins s σ H _ I h) fun c s1 ⟨H1, I1, q1⟩ => ?_)
  cases c with
  | true => exact ⟨H1, I1, q1⟩
  | false => exact hb wh pins s1 σ H1 Q I1 q1
theorem pt_not (ha : PT X a tA) : PT X (.UnaryOp .Not a pos) (tNot tA) := by
  intro pins s σ H Q I h
  exact isTrue_not (ha pins s σ H (fun c H1 => Q (!c) H1) I h)
/-- .. as values (bools) -/
def tAndV (ta tb : TE) : TE := fun σ H Q => ta σ H fun x H1 => ∃ c, x = .bl c ∧ if c = true then tb σ H1 Q else Q (.bl false) H1
theorem pe_one {op} {t : TE} (h : PE X a t) : PE X (.BoolOp op [a] pos) t := fun pins s σ H Q I hw => BoolOp_one (h pins s σ H Q I hw)
theorem pe_and (ha : PE X a ta) (hb : PE X (.BoolOp .And (b :: rest) pos) tb) : PE X (.BoolOp .And (a :: b :: rest) pos) (tAndV ta tb) := by
  intro pins s σ H Q I h
  refine BoolOp_and (thn (ha pins s σ H _ I h) fun v s1 ⟨x, H1, I1, r1, q1⟩ => ?_)
  obtain ⟨c, rfl, q1⟩ := q1
  cases r1
  refine wpAny_truthy_bool ?_
  cases c with
  | true => exact hb pins s1 σ H1 Q I1 q1
  | false => exact ⟨.bl false, H1, I1, rfl, q1⟩
end
end L2
namespace L2
open PySem PySem.Spec PyProof.Rows
def SqL (K : PySem.W.Frag) (H : Hp) (a : Addr) (xs : List V) : Prop :=
  Rd H a (.lst xs) ∨
    ∃ (o : Obj) (its : Array Value) (n : Nat), K.lookup a = some o ∧ o.cls = .type "list" ∧ o.dict = none ∧ o.data = .seq its n ∧ its.size ≤ sizeLine ∧ Vals xs its.toList
def SqT (K : PySem.W.Frag) (H : Hp) (a : Addr) (xs : List V) : Prop :=
  Rd H a (.tup xs) ∨
    ∃ (o : Obj) (its : Array Value) (n : Nat), K.lookup a = some o ∧ o.cls = .type "tuple" ∧ o.data = .seq its n ∧ its.size ≤ sizeLine ∧ Vals xs its.toList
def absV : Value → Option V
  | .none => some .non
  | .bool b => some (.bl b)
  | .int i _ => some (.int i)
  | .str x _ => some (.str x)
  | .bytes b _ => some (.byt b)
  | .float b _ => some (.flt b)
  | .ref a => some (.ref a)
  | .type n => some (.ty n)
  | _ => none
theorem RelV.abs {x : V} {u : Value} (r : RelV x u) : absV u = some x := by
  cases x with
  | non => cases r; rfl
  | bl _ => cases r; rfl
  | int _ => obtain ⟨t, rfl⟩ := r; rfl
  | str _ => obtain ⟨t, rfl⟩ := r; rfl
  | byt _ => obtain ⟨t, rfl⟩ := r; rfl
  | flt _ => obtain ⟨t, rfl⟩ := r; rfl
  | ref _ => cases r; rfl
  | ty _ => cases r; rfl
theorem RelV.inj {x y : V} {u : Value} (r : RelV x u) (q : RelV y u) : x = y := Option.some.inj (r.abs.symm.trans q.abs)
theorem Vals.inj : ∀ {xs ys : List V} {us : List Value}, Vals xs us → Vals ys us → xs = ys
  | _, _, _, .nil, .nil => rfl
  | _, _, _, .cons r t, .cons r' t' => by rw [r.inj r', Vals.inj t t']
section
variable {X : Cx} {pins : List (Addr × Obj)} {σ : St} {H : Hp} {s : Shared} {a : Addr} {xs ys : List V}
theorem SqL.of {K : PySem.W.Frag} (h : H a = some (.lst xs)) : SqL K H a xs := .inl (.inl h)
theorem SqT.of {K : PySem.W.Frag} (h : H a = some (.tup xs)) : SqT K H a xs := .inl (.inl h)
theorem Inv.list (I : Inv X pins σ H s) (h : SqL X.K H a xs) : ∃ its : List Value, Vals xs its ∧ PlainL s.heap a its.toArray ∧ xs.length ≤ sizeLine := by
  rcases h with h | ⟨o, its, n, hk, hc, hd, hs, hz, r⟩
  · obtain ⟨z, its, n, r, e⟩ := h.ok I.hok
    exact ⟨its, r, ⟨_, n, e, rfl, rfl, rfl⟩, z⟩
  · refine ⟨its.toList, r, ⟨o, n, I.kIn a o hk, hc, hd, by simpa using hs⟩, ?_⟩
    have e := r.length
    simp only [Array.length_toList] at e
    omega
theorem Inv.tuple (I : Inv X pins σ H s) (h : SqT X.K H a xs) : ∃ its : List Value, Vals xs its ∧ IsTup s.heap a its.toArray ∧ xs.length ≤ sizeLine := by
  rcases h with h | ⟨o, its, n, hk, hc, hs, hz, r⟩
  · obtain ⟨z, its, r, p⟩ := h.ok I.hok
    exact ⟨its, r, p, z⟩
  · refine ⟨its.toList, r, ⟨o, I.kIn a o hk, hc, n, by simpa using hs⟩, ?_⟩
    have e := r.length
    simp only [Array.length_toList] at e
    omega
theorem Inv.list_inj (I : Inv X pins σ H s) (h : SqL X.K H a xs) (h' : SqL X.K H a ys) : xs = ys := by
  obtain ⟨its, r, ⟨o, n, e, _, _, d⟩, _⟩ := I.list h
  obtain ⟨its', r', ⟨o', n', e', _, _, d'⟩, _⟩ := I.list h'
  rw [e] at e'; cases e'
  rw [d] at d'
  injection d' with d1 _
  have : its = its' := by simpa using congrArg Array.toList d1
  subst this
  exact r.inj r'
end
abbrev Cx.wish (X : Cx) (E : Value → Shared → Prop) : Cx := { X with xe := E }
/-- no exception leaves -/
abbrev Cx.nox (X : Cx) : Cx := X.wish fun _ _ => False
theorem Cx.Ok.wish {X : Cx} (ok : X.Ok) (E : Value → Shared → Prop) : (X.wish E).Ok :=
  ⟨ok.mod, ok.kind, ok.glob, ok.blt, ok.above, ok.inj, ok.has, ok.cab, ok.hd, ok.frames, ok.stk, ok.exf, ok.bs, ok.bsz, ok.noex, ok.exfs, ok.funs, ok.frf⟩
theorem Cx.Ok.unwish {X : Cx} {E : Value → Shared → Prop} (ok : (X.wish E).Ok) : X.Ok :=
  ⟨ok.mod, ok.kind, ok.glob, ok.blt, ok.above, ok.inj, ok.has, ok.cab, ok.hd, ok.frames, ok.stk, ok.exf, ok.bs, ok.bsz, ok.noex, ok.exfs, ok.funs, ok.frf⟩
section
variable {X : Cx} {pins : List (Addr × Obj)} {σ : St} {H : Hp} {s : Shared} {E : Value → Shared → Prop}
theorem Inv.wish (I : Inv X pins σ H s) (E : Value → Shared → Prop) : Inv (X.wish E) pins σ H s := ⟨I.ok.wish E, I.os, I.bare, I.base, I.loc, I.cell, I.free, I.freeC, I.pin, I.hok, I.len⟩
theorem Inv.unwish (I : Inv (X.wish E) pins σ H s) : Inv X pins σ H s := ⟨I.ok.unwish, I.os, I.bare, I.base, I.loc, I.cell, I.free, I.freeC, I.pin, I.hok, I.len⟩
theorem SP.unwish {D : Ends} {f : Flow} {s' : Shared} (h : SP (X.wish E) pins D f s') : SP X pins D f s' := by
  cases f with
  | next => obtain ⟨σ', H', I, q⟩ := h; exact ⟨σ', H', I.unwish, q⟩
  | brk => obtain ⟨σ', H', I, q⟩ := h; exact ⟨σ', H', I.unwish, q⟩
  | cont => obtain ⟨σ', H', I, q⟩ := h; exact ⟨σ', H', I.unwish, q⟩
  | ret u => obtain ⟨v, σ', H', I, r, q⟩ := h; exact ⟨v, σ', H', I.unwish, r, q⟩
theorem PSs.nox {st : List Stmt} {t : TS} (h : PSs X.nox st t) : PSs X st t := fun pins s σ H D I hw =>
  wpAny_mono (h pins s σ H D (I.wish _) hw) (fun _ _ q => q.unwish) fun _ _ z => False.elim z
end
section
variable {X : Cx} {st : Stmt} {rest : List Stmt} {t u : TS} {e : Expr} {te : TE} {pos : Pos}
def tNext : TS := fun D σ H => D.nx σ H
def tSeq (t u : TS) : TS := fun D σ H => t { D with nx := u D } σ H
theorem pss_nil : PSs X [] tNext := fun _ _ σ H _ I h => wpAny_execs_nil ⟨σ, H, I, h⟩
theorem pss_cons (h1 : PS X st t) (h2 : PSs X rest u) : PSs X (st :: rest) (tSeq t u) := by
  intro pins s σ H D I h
  refine wpAny_execs_cons (thn (h1 pins s σ H { D with nx := u D } I h) fun f s1 q => ?_)
  cases f with
  | next =>
    obtain ⟨σ', H', I', q⟩ := q
    exact h2 pins s1 σ' H' D I' q
  | ret v => exact q
  | brk => exact q
  | cont => exact q
theorem pss_one (h1 : PS X st t) : PSs X [st] t := by
  intro pins s σ H D I h
  refine wpAny_execs_cons (thn (h1 pins s σ H D I h) fun f s1 q => ?_)
  cases f with
  | next => exact wpAny_execs_nil q
  | ret v => exact q
  | brk => exact q
  | cont => exact q
/-- in a def's body nothing is shown -/
theorem Inv.quiet {pins : List (Addr × Obj)} {σ : St} {H : Hp} {s : Shared} (I : Inv X pins σ H s) : interactive X.env = false := by simp [interactive, I.ok.kind]
/-- an expression whose value is dropped -/
def tDrop (te : TE) : TS := fun D σ H => te σ H fun _ H1 => D.nx σ H1
theorem ps_expr (he : PE X e te) (hs : swapsWith e none pos.line X.env = pure false := by rfl) : PS X (.Expr e pos) (tDrop te) := by
  intro pins s σ H D I h
  exact wpAny_Expr_any (thn (he pins s σ H _ I h) fun v s1 ⟨x, H1, I1, r1, q1⟩ => ⟨σ, H1, I1, q1⟩) I.quiet hs
def tRet (te : TE) : TS := fun D σ H => te σ H D.rt
theorem ps_ret (he : PE X e te) : PS X (.Return (some e) pos) (tRet te) := by
  intro pins s σ H D I h
  exact wpAny_Return_some (thn (he pins s σ H _ I h) fun v s1 ⟨x, H1, I1, r1, q1⟩ => ⟨x, σ, H1, I1, r1, q1⟩)
def tIfS (c : TT) (t u : TS) : TS := fun D σ H => c σ H fun b H1 => if b = true then t D σ H1 else u D σ H1
theorem ps_if {c : Expr} {a b : List Stmt} {tc : TT} (hc : PT X c tc) (ha : PSs X a t) (hb : PSs X b u) : PS X (.If c a b pos) (tIfS tc t u) := by
  intro pins s σ H D I h
  refine wpAny_If (thn (hc pins s σ H _ I h) fun d s1 ⟨H1, I1, q1⟩ => ?_)
  cases d with
  | true => exact ha pins s1 σ H1 D I1 q1
  | false => exact hb pins s1 σ H1 D I1 q1
end
abbrev TG := V → St → Hp → (St → Hp → Prop) → Prop
def PG (X : Cx) (target : Expr) (t : TG) : Prop :=
  ∀ (pins : List (Addr × Obj)) (s : Shared) (σ : St) (H : Hp) (v : V) (u : Value) (Q : St → Hp → Prop), Inv X pins σ H s → RelV v u → t v σ H Q →
    wpAny (model X.prog X.w) X.A (assign target X.env u) (fun _ s' => ∃ σ' H', Inv X pins σ' H' s' ∧ Q σ' H') X.xe s
section
variable {X : Cx} {pos : Pos}
def gName (i : Nat) : TG := fun v σ H Q => Q (σ.set i (some v)) H
theorem pg_name {i : Nat} {x : Str} (hN : X.N.Nodup) (hi : X.N[i]? = some x) (hx : Loc X.env.scope x) (hf : X.fn x = true ∨ X.env.scope.names.lookup x = some .local := by first | exact .inl rfl | exact .inr rfl | assumption) : PG X (.Name x pos) (gName i) := by
  intro pins s σ H v u Q I r h
  exact wpAny_assign_Name (store_ok I hN hi hx r (fun s' I' => ⟨_, H, I', h⟩) hf)
/-- target = value -/
def tAsg (te : TE) (g : TG) : TS := fun D σ H => te σ H fun x H1 => g x σ H1 D.nx
/-- name = value -/
theorem ps_set {i : Nat} {x : Str} {e : Expr} {te : TE} {pos' : Pos} (hN : X.N.Nodup) (hi : X.N[i]? = some x) (hx : Loc X.env.scope x) (he : PE X e te) (hs : swapsWith e (some (.Name x pos')) pos.line X.env = pure false := by rfl) (hf : X.fn x = true ∨ X.env.scope.names.lookup x = some .local := by first | exact .inl rfl | exact .inr rfl | assumption) :
    PS X (.Assign [.Name x pos'] e pos) (tAsg te (gName i)) := by
  intro pins s σ H D I h
  refine wpAny_Assign_Name (thn (he pins s σ H _ I h) fun v s1 ⟨y, H1, I1, r1, q1⟩ => ?_) hs
  exact store_ok I1 hN hi hx r1 (fun s2 I2 => ⟨_, H1, I2, q1⟩) hf
end
section
variable {X : Cx} {pos : Pos}
/-- the invariant W with its measure -/
def tWhile (c : TT) (tb : TS) : TS := fun D σ H => ∃ W : Nat → St → Hp → Prop, (∃ m, W m σ H) ∧ ∀ m σ H, W m σ H →
  c σ H fun b H1 => if b = true then ∃ N : St → Hp → Prop, (∀ σ' H', N σ' H' → ∃ m', m' < m ∧ W m' σ' H') ∧ tb { D with nx := N, ct := N, bk := D.nx } σ H1 else D.nx σ H1
theorem ps_while {c : Expr} {body : List Stmt} {tc : TT} {tb : TS} (hp : PassesOwn (model X.prog X.w) X.A X.env X.xe) (hc : PT X c tc) (hb : PSs X body tb) : PS X (.While c body [] pos) (tWhile tc tb) := by
  intro pins s σ H D I h
  obtain ⟨W, ⟨m0, w0⟩, turn⟩ := h
  refine wpAny_While (codeAny_whileLoop (fun n s' => ∃ σ' H', Inv X pins σ' H' s' ∧ W n σ' H') ?_ m0 ⟨σ, H, I, w0⟩)
  rintro n s1 ⟨σ1, H1, I1, w1⟩
  refine wpAny_passesOwn hp (thn (hc pins s1 σ1 H1 _ I1 (turn n σ1 H1 w1)) fun b s2 ⟨H2, I2, q2⟩ => ?_)
  cases b with
  | true =>
    obtain ⟨N, hN, q2⟩ := q2
    rw [if_pos rfl]
    refine wpAny_passesOwn hp (thn (hb pins s2 σ1 H2 _ I2 q2) fun f s3 q3 => ?_)
    cases f with
    | next =>
      obtain ⟨σ3, H3, I3, n3⟩ := q3
      obtain ⟨m', hm, w3⟩ := hN σ3 H3 n3
      exact ⟨m', hm, σ3, H3, I3, w3⟩
    | cont =>
      obtain ⟨σ3, H3, I3, n3⟩ := q3
      obtain ⟨m', hm, w3⟩ := hN σ3 H3 n3
      exact ⟨m', hm, σ3, H3, I3, w3⟩
    | brk => exact q3
    | ret v => exact q3
  | false =>
    rw [if_neg Bool.false_ne_true]
    exact wpAny_execs_nil ⟨σ1, H2, I2, q2⟩
end
/-- at turn i: it yields x (the heap may grow), or it stops -/
structure It where
  go : Nat → Hp → Prop
  yld : Nat → Hp → V → Hp → Prop
  stop : Nat → Hp → Prop
/-- the iterator's own objects may turn: they are not the frame's, not pinned, younger than the entry (or a comprehension's own) -/
def FpOk (X : Cx) (pins : List (Addr × Obj)) (H : Hp) (b : Addr) : Prop :=
  H b = none ∧ b ≠ X.env.locals ∧ b ∉ X.fs ∧ (b ∈ X.ex ∨ X.s_0.heap.objs.size ≤ b) ∧ (∀ x c, X.env.cells.lookup x = some c → c ≠ b) ∧ ∀ p ∈ X.pn ++ pins, p.1 ≠ b
theorem Inv.fpOk {X : Cx} {pins : List (Addr × Obj)} {σ : St} {H H' : Hp} {s : Shared} {b : Addr} (I : Inv X pins σ H s) (hb : s.heap.objs.size ≤ b) (hn : H' b = none) : FpOk X pins H' b := by
  refine ⟨hn, Nat.ne_of_gt (Nat.lt_of_lt_of_le I.lt hb), I.nofs hb, .inr (Nat.le_trans I.sz hb), fun x c e z => ?_, fun p hp z => ?_⟩
  · obtain ⟨v, q⟩ := I.cell x c e
    exact absurd (Nat.lt_of_lt_of_le q.lt (by rw [z]; exact hb)) (Nat.lt_irrefl _)
  · exact absurd (Nat.lt_of_lt_of_le (Heap.lt_size (I.pin p hp).1) (by rw [z]; exact hb)) (Nat.lt_irrefl _)
structure Turn (P : Program) (w : World) (K : PySem.W.Frag) (tg : Expr) (J : It) (fp : List Addr) (it : Addr) (tn : Nat → Heap → Prop) : Prop where
  mem : it ∈ fp
  obj : ∀ i h, tn i h → ∀ b ∈ fp, ∃ o, h.get? b = some o ∧ ∀ v, o.data ≠ .cell v
  keep : ∀ i h h', tn i h → (∀ b ∈ fp, ∀ o, h.get? b = some o → h'.get? b = some o) → tn i h'
  item : ∀ (X : Cx), X.prog = P → X.w = w → X.K = K → X.calm = true → ∀ (i : Nat) (pins : List (Addr × Obj)) (s : Shared) (σ : St) (H : Hp) (E : Value → Shared → Prop), Inv X pins σ H s → (∀ b ∈ fp, FpOk X pins H b) → tn i s.heap → J.go i H →
    wpAny (model P w) X.A (pyNext (.ref it)) (fun r s1 => ∃ u, r = some u ∧
      wpAny (model P w) X.A (letOwnedTupleGo tg (.ref it) u) (fun _ s2 => ∃ x H', Inv X pins σ H' s2 ∧ RelV x u ∧ J.yld i H x H' ∧ tn (i + 1) s2.heap ∧ ∀ b ∈ fp, H' b = none) E s1) E s
  done : ∀ (X : Cx), X.prog = P → X.w = w → X.K = K → X.calm = true → ∀ (i : Nat) (pins : List (Addr × Obj)) (s : Shared) (σ : St) (H : Hp) (E : Value → Shared → Prop), Inv X pins σ H s → (∀ b ∈ fp, FpOk X pins H b) → tn i s.heap → J.stop i H →
    wpAny (model P w) X.A (pyNext (.ref it)) (fun r s1 => r = none ∧ Inv X pins σ H s1) E s
  self : ∀ (A : Around) (i : Nat) (s : Shared) (Q : Value → Shared → Prop) (E : Value → Shared → Prop), tn i s.heap → Q (.ref it) s → wpAny (model P w) A (pyIter (.ref it)) Q E s
abbrev TI := St → Hp → (It → Hp → Prop) → Prop
/-- an iterator has come -/
def PIE (X : Cx) (pins : List (Addr × Obj)) (σ : St) (tg : Expr) (R : It → Hp → Prop) (itv : Value) (s2 : Shared) : Prop :=
  ∃ (it : Addr) (fp : List Addr) (tn : Nat → Heap → Prop) (J : It) (H' : Hp), itv = .ref it ∧ Inv X pins σ H' s2 ∧ Turn X.prog X.w X.K tg J fp it tn ∧ tn 0 s2.heap ∧ (∀ b ∈ fp, FpOk X pins H' b) ∧ R J H'
def PI (X : Cx) (tg iter : Expr) (wi : TI) : Prop :=
  ∀ (pins : List (Addr × Obj)) (s : Shared) (σ : St) (H : Hp) (R : It → Hp → Prop), Inv X pins σ H s → wi σ H R →
    wpAny (model X.prog X.w) X.A (eval iter X.env) (fun v s1 => wpAny (model X.prog X.w) X.A (pyIter v) (PIE X pins σ tg R) X.xe s1) X.xe s
/-- the step ahead of the store is nothing for an iterator that keeps no tuple -/
theorem go_of {M : Model} {A : Around} {E : Value → Shared → Prop} {s : Shared} {tg : Expr} {it : Addr} {u : Value} {o : Obj} {n : String} {vs : Array Value} {Q : Unit → Shared → Prop} (ho : s.heap.get? it = some o) (hc : o.cls = .type n) (hd : o.data = .fields vs)
    (hn : ["enumerate", "zip", "dict_itemiterator", "dict_reverseitemiterator", "odict_iterator", "itertools.zip_longest", "itertools.pairwise"].contains n = false) (hQ : Q () s) : wpAny M A (letOwnedTupleGo tg (.ref it) u) Q E s := by
  unfold letOwnedTupleGo
  cases tg <;> first
    | exact wpAny_pure hQ
    | (cases u <;> first
        | exact wpAny_pure hQ
        | (refine wpAny_bind (wpAny_load ho ?_)
           rw [hc, hd]
           show wpAny M A (if (["enumerate", "zip", "dict_itemiterator", "dict_reverseitemiterator", "odict_iterator", "itertools.zip_longest", "itertools.pairwise"].contains n && vs[0]? == some (rawInt _)) = true then _ else _) Q E s
           rw [if_neg (by intro h; rw [hn, Bool.false_and] at h; cases h)]
           exact wpAny_pure hQ))
/-- the list at a, as it stands at each turn (a loop may append to it) -/
def Itl (K : PySem.W.Frag) (a : Addr) : It :=
  ⟨fun i H => ∃ xs x, SqL K H a xs ∧ xs[i]? = some x, fun i H x H' => H' = H ∧ ∀ xs, SqL K H a xs → xs[i]? = some x, fun i H => ∃ xs, SqL K H a xs ∧ xs.length ≤ i⟩
theorem turn_list {P : Program} {w : World} {K : PySem.W.Frag} {tg : Expr} (a it : Addr) : Turn P w K tg (Itl K a) [it] it (fun i h => h.IsListIter it a i) where
  mem := by simp
  obj := fun i h st b hb => by
    have e : b = it := by simpa using hb
    subst e
    obtain ⟨o, e, c, d⟩ := st
    exact ⟨o, e, fun v z => by rw [d] at z; cases z⟩
  keep := fun i h h' st k => st.at fun o e => k it (by simp) o e
  item := by
    intro X hP hw hK hc i pins s σ H E I hf st hg
    subst hP hw hK
    obtain ⟨xs, x, hq, hx⟩ := hg
    obtain ⟨its, rv, p, hz⟩ := I.list hq
    obtain ⟨u, hu, ru⟩ := rv.get hx
    obtain ⟨f0, f1, f2, f3, f4, f5⟩ := hf it (by simp)
    refine wpAny_pyNext_list_item st p.isList (x := u) (by simpa using hu) fun h' st' sb => ?_
    have I1 : Inv X pins σ H { s with heap := h' } := I.turned (t' := s.toks) (fun b o hb e => (sb.2 b hb).trans e) f0 f1 f3 f4 f5
    obtain ⟨o, e, c, d⟩ := id st'
    exact ⟨u, rfl, go_of (s := { s with heap := h' }) e c d (by decide) ⟨x, H, I1, ru, ⟨rfl, fun ys hy => by rw [I.list_inj hy hq]; exact hx⟩, st', fun b hb => (hf b hb).1⟩⟩
  done := by
    intro X hP hw hK hc i pins s σ H E I hf st hg
    subst hP hw hK
    obtain ⟨xs, hq, hx⟩ := hg
    obtain ⟨its, rv, p, hz⟩ := I.list hq
    obtain ⟨f0, f1, f2, f3, f4, f5⟩ := hf it (by simp)
    have hl := rv.length
    exact wpAny_pyNext_list_end (I.ok.hd hc) st p.isList (by simp; omega) fun h' eb => ⟨rfl, I.turned (t' := s.toks) (fun b o hb e => eb b o hb e) f0 f1 f3 f4 f5⟩
  self := fun _ _ _ _ _ st h => wpAny_pyIter_listiter st h
end L2
namespace L2
open PySem PySem.Spec PyProof.Rows
section
variable {X : Cx} {tg : Expr}
def iList (K : PySem.W.Frag) (tl : TE) : TI := fun σ H R => tl σ H fun x H1 => ∃ a, x = .ref a ∧ (∃ xs, SqL K H1 a xs) ∧ R (Itl K a) H1
theorem pi_list {l : Expr} {tl : TE} (hl : PE X l tl) : PI X tg l (iList X.K tl) := by
  intro pins s σ H R I h
  refine thn (hl pins s σ H _ I h) fun v s1 ⟨x, H1, I1, r1, q1⟩ => ?_
  obtain ⟨a, e, ⟨xs, hq⟩, q⟩ := q1
  subst e
  cases r1
  obtain ⟨its, rv, p, hz⟩ := I1.list hq
  refine wpAny_pyIter_list p.isList ?_
  refine ⟨s1.heap.objs.size, [s1.heap.objs.size], _, _, H1, rfl, I1.kept (t' := s1.toks) fun b o e => Heap.get?_push_of_some _ e, turn_list a _, ⟨_, Heap.get?_push_size _ rfl, rfl, rfl⟩, fun b hb => ?_, q⟩
  have e : b = s1.heap.objs.size := by simpa using hb
  subst e
  exact I1.fpOk (Nat.le_refl _) (I1.hok.fresh (Nat.le_refl _))
/-- W: the invariant by the turn and a measure; N: what the body is to reach -/
def tFor (wi : TI) (g : TG) (tb : TS) : TS := fun D σ H => wi σ H fun J H1 => ∃ W : Nat → Nat → St → Hp → Prop, (∃ m, W 0 m σ H1) ∧ ∀ i m σ H, W i m σ H →
  (J.stop i H ∧ D.nx σ H) ∨ (J.go i H ∧ ∃ N : St → Hp → Prop, (∀ σ' H', N σ' H' → ∃ m', m' < m ∧ W (i + 1) m' σ' H') ∧ ∀ x H', J.yld i H x H' → g x σ H' fun σ2 H2 => tb { D with nx := N, ct := N, bk := D.nx } σ2 H2)
/-- the records at fp as they stand -/
def pinsAt (fp : List Addr) (h : Heap) : List (Addr × Obj) := fp.filterMap fun b => (h.get? b).map fun o => (b, o)
theorem mem_pinsAt {fp : List Addr} {h : Heap} {b : Addr} {o : Obj} (hb : b ∈ fp) (e : h.get? b = some o) : (b, o) ∈ pinsAt fp h := List.mem_filterMap.mpr ⟨b, hb, by rw [e]; rfl⟩
theorem of_pinsAt {fp : List Addr} {h : Heap} {p : Addr × Obj} (hp : p ∈ pinsAt fp h) : p.1 ∈ fp ∧ h.get? p.1 = some p.2 := by
  obtain ⟨b, hb, e⟩ := List.mem_filterMap.mp hp
  cases q : h.get? b with
  | none => rw [q] at e; cases e
  | some o =>
    rw [q] at e
    have e' : (b, o) = p := Option.some.inj e
    subst e'
    exact ⟨hb, q⟩
theorem Inv.pinned {pins : List (Addr × Obj)} {σ : St} {H : Hp} {s : Shared} {fp : List Addr} (I : Inv X pins σ H s) (hf : ∀ b ∈ fp, FpOk X pins H b) (ho : ∀ b ∈ fp, ∃ o, s.heap.get? b = some o ∧ ∀ v, o.data ≠ .cell v) : Inv X (pins ++ pinsAt fp s.heap) σ H s :=
  I.pins_of fun p hp => (List.mem_append.mp hp).elim (fun z => I.pin p (List.mem_append_right _ z)) fun z => by
    obtain ⟨hb, e⟩ := of_pinsAt z
    obtain ⟨f0, f1, f2, _⟩ := hf p.1 hb
    obtain ⟨o, e', d⟩ := ho p.1 hb
    rw [e] at e'; cases e'
    exact ⟨e, f0, f1, f2, d⟩
theorem Inv.unpinned {pins pl : List (Addr × Obj)} {σ : St} {H : Hp} {s : Shared} (I : Inv X (pins ++ pl) σ H s) : Inv X pins σ H s := I.pins_of fun p hp => I.pin p (List.mem_append_right _ (List.mem_append_left _ hp))
theorem ps_for {iter : Expr} {body : List Stmt} {wi : TI} {g : TG} {tb : TS} {pos : Pos} (hp : PassesOwn (model X.prog X.w) X.A X.env X.xe) (hc : X.calm = true) (hi : PI X tg iter wi) (hg : PG X tg g) (hb : PSs X body tb)
    (hs : ∀ x, foldedSetIterable iter X.env x = pure x := by intro _; rfl) : PS X (.For tg iter body [] pos) (tFor wi g tb) := by
  intro pins s σ H D I h
  refine wpAny_For (thn (hi pins s σ H _ I h) fun v s1 h1 => thn h1 fun itv s2 h2 => ?_) hs
  obtain ⟨it, fp, tn, J, H2, e, I2, T, st2, f2, W, ⟨m0, w0⟩, turn⟩ := h2
  subst e
  -- what stays true of the iterator's objects through the loop
  have stat : ∀ {H' : Hp}, (∀ b ∈ fp, H' b = none) → ∀ b ∈ fp, FpOk X pins H' b := fun hn b hb => ⟨hn b hb, (f2 b hb).2⟩
  refine codeAny_forLoop_any (fun n s' => ∃ i σ' H', Inv X pins σ' H' s' ∧ tn i s'.heap ∧ (∀ b ∈ fp, H' b = none) ∧ W i n σ' H') ?_ m0 ⟨0, σ, H2, I2, st2, fun b hb => (f2 b hb).1, w0⟩
  rintro n s3 ⟨i, σ3, H3, I3, st3, fr3, w3⟩
  rcases turn i n σ3 H3 w3 with ⟨stop, qn⟩ | ⟨go, N, hN, step⟩
  · refine wpAny_passesOwn hp (thn (T.done X rfl rfl rfl hc i pins s3 σ3 H3 X.xe I3 (stat fr3) st3 stop) fun r s4 ⟨hr, I4⟩ => ?_)
    subst hr
    exact wpAny_execs_nil ⟨σ3, H3, I4, qn⟩
  · refine wpAny_passesOwn hp (thn (T.item X rfl rfl rfl hc i pins s3 σ3 H3 X.xe I3 (stat fr3) st3 go) fun r s4 ⟨u, hr, h4⟩ => ?_)
    subst hr
    refine wpAny_passesOwn hp (thn h4 fun _ s5 ⟨x, H5, I5, r5, y5, st5, fr5⟩ => ?_)
    have I5' := I5.pinned (stat fr5) (T.obj _ _ st5)
    refine wpAny_passesOwn hp (thn (hg _ s5 σ3 H5 x u _ I5' r5 (step x H5 y5)) fun _ s6 ⟨σ6, H6, I6, q6⟩ => ?_)
    refine wpAny_passesOwn hp (thn (hb _ s6 σ6 H6 _ I6 q6) fun f s7 q7 => ?_)
    have again : ∀ {σ7 : St} {H7 : Hp}, Inv X (pins ++ pinsAt fp s5.heap) σ7 H7 s7 → N σ7 H7 → ∃ m, m < n ∧ ∃ i σ' H', Inv X pins σ' H' s7 ∧ tn i s7.heap ∧ (∀ b ∈ fp, H' b = none) ∧ W i m σ' H' := fun {σ7 H7} I7 n7 => by
      obtain ⟨m', hm, w7⟩ := hN σ7 H7 n7
      refine ⟨m', hm, i + 1, σ7, H7, I7.unpinned, T.keep _ _ _ st5 fun b hb o e => (I7.pin (b, o) (List.mem_append_right _ (List.mem_append_right _ (mem_pinsAt hb e)))).1, fun b hb => ?_, w7⟩
      obtain ⟨o, e, d⟩ := T.obj _ _ st5 b hb
      exact (I7.pin (b, o) (List.mem_append_right _ (List.mem_append_right _ (mem_pinsAt hb e)))).2.1
    cases f with
    | next => obtain ⟨σ7, H7, I7, n7⟩ := q7; exact again I7 n7
    | cont => obtain ⟨σ7, H7, I7, n7⟩ := q7; exact again I7 n7
    | brk => obtain ⟨σ7, H7, I7, q7⟩ := q7; exact ⟨σ7, H7, I7.unpinned, q7⟩
    | ret v => obtain ⟨x7, σ7, H7, I7, r7, q7⟩ := q7; exact ⟨x7, σ7, H7, I7.unpinned, r7, q7⟩
end
/-- over a list that the body leaves as it is -/
theorem for_list {K : PySem.W.Frag} {a : Addr} {xs : List V} {g : TG} {tb : TS} {D : Ends} {σ : St} {H : Hp} (Pv : Nat → St → Hp → Prop) (h0 : Pv 0 σ H) (hl : ∀ i σ H, i ≤ xs.length → Pv i σ H → SqL K H a xs)
    (hs : ∀ i x σ H, xs[i]? = some x → Pv i σ H → g x σ H fun σ2 H2 => tb { D with nx := Pv (i + 1), ct := Pv (i + 1), bk := D.nx } σ2 H2) (hd : ∀ σ H, Pv xs.length σ H → D.nx σ H) :
    ∃ W : Nat → Nat → St → Hp → Prop, (∃ m, W 0 m σ H) ∧ ∀ i m σ H, W i m σ H →
      ((Itl K a).stop i H ∧ D.nx σ H) ∨ ((Itl K a).go i H ∧ ∃ N : St → Hp → Prop, (∀ σ' H', N σ' H' → ∃ m', m' < m ∧ W (i + 1) m' σ' H') ∧ ∀ x H', (Itl K a).yld i H x H' → g x σ H' fun σ2 H2 => tb { D with nx := N, ct := N, bk := D.nx } σ2 H2) := by
  refine ⟨fun i m σ H => m = xs.length - i ∧ i ≤ xs.length ∧ Pv i σ H, ⟨xs.length, by simp, Nat.zero_le _, h0⟩, ?_⟩
  rintro i m σ H ⟨rfl, hi, p⟩
  have q := hl i σ H hi p
  by_cases hlt : i < xs.length
  · refine .inr ⟨⟨xs, xs[i], q, by simp [hlt]⟩, Pv (i + 1), fun σ' H' p' => ⟨xs.length - (i + 1), by omega, rfl, hlt, p'⟩, fun x H' y => ?_⟩
    obtain ⟨e, y⟩ := y
    subst e
    exact hs i x σ _ (y xs q) p
  · have e : i = xs.length := by omega
    subst e
    exact .inl ⟨⟨xs, q, Nat.le_refl _⟩, hd σ H p⟩
end L2
namespace L2
open PySem PySem.Spec PyProof.Rows
abbrev R2 := V → V → Hp → VK → Prop
/-- a two-place operation on values: f is binaryOp op, inplaceOp op or compareOp op -/
def OpR (X : Cx) (f : Value → Value → Sem Value) (r : R2) : Prop :=
  ∀ (pins : List (Addr × Obj)) (s : Shared) (σ : St) (H : Hp) (x y : V) (v u : Value) (Q : VK), Inv X pins σ H s → RelV x v → RelV y u → r x y H Q →
    wpAny (model X.prog X.w) X.A (f v u) (EP X pins σ Q) X.xe s
/-- a one-place operation -/
def UnR (X : Cx) (f : Value → Sem Value) (r : V → Hp → VK → Prop) : Prop :=
  ∀ (pins : List (Addr × Obj)) (s : Shared) (σ : St) (H : Hp) (x : V) (v : Value) (Q : VK), Inv X pins σ H s → RelV x v → r x H Q →
    wpAny (model X.prog X.w) X.A (f v) (EP X pins σ Q) X.xe s
/-- a call of a value that is known (a builtin, a type) with values -/
def CallR (X : Cx) (f : Value) (r : List V → Hp → VK → Prop) : Prop :=
  ∀ (pins : List (Addr × Obj)) (s : Shared) (σ : St) (H : Hp) (xs : List V) (us : List Value) (Q : VK), Inv X pins σ H s → Vals xs us → r xs H Q →
    wpAny (model X.prog X.w) X.A (call f us) (EP X pins σ Q) X.xe s
def tOp (r : R2) (ta tb : TE) : TE := fun σ H Q => ta σ H fun x H1 => tb σ H1 fun y H2 => r x y H2 Q
def tUn (r : V → Hp → VK → Prop) (ta : TE) : TE := fun σ H Q => ta σ H fun x H1 => r x H1 Q
/-- ints in, under C, and a value out -/
def rI (C : Int → Int → Prop) (g : Int → Int → V) : R2 := fun x y H Q => ∃ i j, x = .int i ∧ y = .int j ∧ C i j ∧ Q (g i j) H
def rI0 (g : Int → Int → V) : R2 := fun x y H Q => ∃ i j, x = .int i ∧ y = .int j ∧ Q (g i j) H
def rU (g : Int → V) : V → Hp → VK → Prop := fun x H Q => ∃ i, x = .int i ∧ Q (g i) H
section
variable {X : Cx} {a b c : Expr} {ta tb tc : TE} {pos : Pos}
theorem binT (ha : PE X a ta) (hb : PE X b tb) {pins : List (Addr × Obj)} {s : Shared} {σ : St} {H : Hp} {R : V → V → Hp → Prop} (I : Inv X pins σ H s)
    (h : ta σ H fun x H1 => tb σ H1 fun y H2 => R x y H2) {Q : Value → Shared → Prop} {f : Value → Value → Sem Value}
    (hf : ∀ v u s2 x y H2, Inv X pins σ H2 s2 → RelV x v → RelV y u → R x y H2 → wpAny (model X.prog X.w) X.A (f v u) Q X.xe s2) :
    wpAny (model X.prog X.w) X.A (eval a X.env) (fun v s₁ => wpAny (model X.prog X.w) X.A (eval b X.env) (fun u s₂ => wpAny (model X.prog X.w) X.A (f v u) Q X.xe s₂) X.xe s₁) X.xe s := by
  refine thn (ha pins s σ H _ I h) fun v s1 ⟨x, H1, I1, r1, q1⟩ => ?_
  refine thn (hb pins s1 σ H1 _ I1 q1) fun u s2 ⟨y, H2, I2, r2, q2⟩ => ?_
  exact hf v u s2 x y H2 I2 r1 r2 q2
theorem pe_op {op : Operator} {r : R2} (ho : OpR X (binaryOp op) r) (ha : PE X a ta) (hb : PE X b tb) : PE X (.BinOp a op b pos) (tOp r ta tb) := by
  intro pins s σ H Q I h
  exact wpAny_BinOp (binT ha hb I h fun v u s2 x y H2 I2 rx ry q => ho pins s2 σ H2 x y v u Q I2 rx ry q)
theorem pe_un {op : UnaryOp} {r : V → Hp → VK → Prop} (ho : UnR X (unaryOp op) r) (ha : PE X a ta) : PE X (.UnaryOp op a pos) (tUn r ta) := by
  intro pins s σ H Q I h
  exact UnaryOp_ (thn (ha pins s σ H _ I h) fun v s1 ⟨x, H1, I1, r1, q1⟩ => ho pins s1 σ H1 x v Q I1 r1 q1)
theorem opI {f : Value → Value → Sem Value} {C : Int → Int → Prop} {g : Int → Int → Int}
    (rule : ∀ (i j : Int) (t u : Tok) (s : Shared) (Q : Value → Shared → Prop) (E : Value → Shared → Prop), C i j → Q (.int (g i j) s.toks) { s with toks := s.toks + 1 } → wpAny (model X.prog X.w) X.A (f (.int i t) (.int j u)) Q E s) :
    OpR X f (rI C fun i j => .int (g i j)) := by
  intro pins s σ H x y v u Q I rx ry h
  obtain ⟨i, j, rfl, rfl, hc, q⟩ := h
  obtain ⟨t, rfl⟩ := rx
  obtain ⟨t', rfl⟩ := ry
  exact rule i j t t' s _ _ hc ⟨.int (g i j), H, I.tok _, ⟨_, rfl⟩, q⟩
theorem opI0 {f : Value → Value → Sem Value} {g : Int → Int → Int}
    (rule : ∀ (i j : Int) (t u : Tok) (s : Shared) (Q : Value → Shared → Prop) (E : Value → Shared → Prop), Q (.int (g i j) s.toks) { s with toks := s.toks + 1 } → wpAny (model X.prog X.w) X.A (f (.int i t) (.int j u)) Q E s) :
    OpR X f (rI0 fun i j => .int (g i j)) := by
  intro pins s σ H x y v u Q I rx ry h
  obtain ⟨i, j, rfl, rfl, q⟩ := h
  obtain ⟨t, rfl⟩ := rx
  obtain ⟨t', rfl⟩ := ry
  exact rule i j t t' s _ _ ⟨.int (g i j), H, I.tok _, ⟨_, rfl⟩, q⟩
theorem opB0 {f : Value → Value → Sem Value} {g : Int → Int → Bool}
    (rule : ∀ (i j : Int) (t u : Tok) (s : Shared) (Q : Value → Shared → Prop) (E : Value → Shared → Prop), Q (.bool (g i j)) s → wpAny (model X.prog X.w) X.A (f (.int i t) (.int j u)) Q E s) :
    OpR X f (rI0 fun i j => .bl (g i j)) := by
  intro pins s σ H x y v u Q I rx ry h
  obtain ⟨i, j, rfl, rfl, q⟩ := h
  obtain ⟨t, rfl⟩ := rx
  obtain ⟨t', rfl⟩ := ry
  exact rule i j t t' s _ _ ⟨.bl (g i j), H, I, rfl, q⟩
def CMul (i j : Int) : Prop := (-(2 ^ 64) < i ∧ i < 2 ^ 64) ∨ (-(2 ^ 64) < j ∧ j < 2 ^ 64)
theorem CMul.ok {i j : Int} (h : CMul i j) : IntMulOk i j := by
  rcases h with ⟨h1, h2⟩ | ⟨h1, h2⟩
  · exact .of_left (intBits_le_64 h1 h2)
  · exact .of_right (intBits_le_64 h1 h2)
theorem op_add : OpR X (binaryOp .Add) (rI0 fun i j => .int (i + j)) := opI0 fun _ _ _ _ _ _ _ q => add_int q
theorem op_sub : OpR X (binaryOp .Sub) (rI0 fun i j => .int (i - j)) := opI0 fun _ _ _ _ _ _ _ q => sub_int q
theorem op_mul : OpR X (binaryOp .Mult) (rI CMul fun i j => .int (i * j)) := opI fun _ _ _ _ _ _ _ hc q => mul_int q hc.ok
theorem unI {f : Value → Sem Value} {g : Int → Int}
    (rule : ∀ (i : Int) (t : Tok) (s : Shared) (Q : Value → Shared → Prop) (E : Value → Shared → Prop), Q (.int (g i) s.toks) { s with toks := s.toks + 1 } → wpAny (model X.prog X.w) X.A (f (.int i t)) Q E s) :
    UnR X f (rU fun i => .int (g i)) := by
  intro pins s σ H x v Q I rx h
  obtain ⟨i, rfl, q⟩ := h
  obtain ⟨t, rfl⟩ := rx
  exact rule i t s _ _ ⟨.int (g i), H, I.tok _, ⟨_, rfl⟩, q⟩
theorem un_neg : UnR X (unaryOp .USub) (rU fun i => .int (-i)) := unI fun _ _ _ _ _ q => neg_int q
end
/-- the scalars that == tells apart as data does -/
def scal : V → V → Bool
  | .non, .non => true | .non, .int _ => true | .int _, .non => true | .non, .bl _ => true | .bl _, .non => true | .non, .str _ => true | .str _, .non => true
  | .int _, .int _ => true | .bl _, .bl _ => true | .str _, .str _ => true | .byt _, .byt _ => true
  | .int _, .str _ => true | .str _, .int _ => true | .bl _, .str _ => true | .str _, .bl _ => true
  | _, _ => false
def rEq : R2 := fun x y H Q => scal x y = true ∧ Q (.bl (decide (x = y))) H
def rNe : R2 := fun x y H Q => scal x y = true ∧ Q (.bl (!decide (x = y))) H
theorem dec_int {i j : Int} : decide (V.int i = V.int j) = (i == j) := by
  rw [Bool.eq_iff_iff]
  simp
theorem dec_bl {i j : Bool} : decide (V.bl i = V.bl j) = (i == j) := by
  rw [Bool.eq_iff_iff]
  simp
theorem dec_str {i j : Str} : decide (V.str i = V.str j) = (i == j) := by
  rw [Bool.eq_iff_iff]
  simp
theorem dec_byt {i j : Array UInt8} : decide (V.byt i = V.byt j) = (i.toList == j.toList) := by
  rw [Bool.eq_iff_iff]
  cases i
  cases j
  simp
section
variable {X : Cx} {a b c : Expr} {ta tb tc : TE} {pos : Pos}
theorem fin_bl {pins : List (Addr × Obj)} {σ : St} {H : Hp} {s : Shared} {Q : VK} {k k' : Bool} (I : Inv X pins σ H s) (q : Q (.bl k) H) (e : k = k') : EP X pins σ Q (.bool k') s := by
  subst e
  exact ⟨.bl k, H, I, rfl, q⟩
theorem op_eq : OpR X (compareOp .Eq) rEq := by
  intro pins s σ H x y v u Q I rx ry h
  obtain ⟨hs, q⟩ := h
  cases x with
  | non =>
    cases rx
    cases y with
    | non => cases ry; exact PySem.EqNone.eq_none_none (fin_bl I q (by simp))
    | bl j => cases ry; exact PySem.EqNone.eq_none_bool (fin_bl I q (by simp))
    | int j => obtain ⟨t', rfl⟩ := ry; exact PySem.EqNone.eq_none_int (fin_bl I q (by simp))
    | str j => obtain ⟨t', rfl⟩ := ry; exact PySem.EqNone.eq_none_str (fin_bl I q (by simp))
    | _ => exact absurd (show false = true from hs) Bool.false_ne_true
  | bl i =>
    cases rx
    cases y with
    | non => cases ry; exact PySem.EqNone.eq_bool_none (fin_bl I q (by simp))
    | bl j => cases ry; exact eq_bool (fin_bl I q dec_bl)
    | str j => obtain ⟨t', rfl⟩ := ry; exact PySem.EqMixed.eq_bool_str (fin_bl I q (by simp))
    | _ => exact absurd (show false = true from hs) Bool.false_ne_true
  | int i =>
    obtain ⟨t, rfl⟩ := rx
    cases y with
    | non => cases ry; exact PySem.EqNone.eq_int_none (fin_bl I q (by simp))
    | int j => obtain ⟨t', rfl⟩ := ry; exact eq_int (fin_bl I q dec_int)
    | str j => obtain ⟨t', rfl⟩ := ry; exact PySem.EqMixed.eq_int_str (fin_bl I q (by simp))
    | _ => exact absurd (show false = true from hs) Bool.false_ne_true
  | str i =>
    obtain ⟨t, rfl⟩ := rx
    cases y with
    | non => cases ry; exact PySem.EqNone.eq_str_none (fin_bl I q (by simp))
    | bl j => cases ry; exact PySem.EqMixed.eq_str_bool (fin_bl I q (by simp))
    | int j => obtain ⟨t', rfl⟩ := ry; exact PySem.EqMixed.eq_str_int (fin_bl I q (by simp))
    | str j => obtain ⟨t', rfl⟩ := ry; exact eq_str (fin_bl I q dec_str)
    | _ => exact absurd (show false = true from hs) Bool.false_ne_true
  | byt i =>
    obtain ⟨t, rfl⟩ := rx
    cases y with
    | byt j => obtain ⟨t', rfl⟩ := ry; exact PySem.W.eq_bytes (fin_bl I q dec_byt)
    | _ => exact absurd (show false = true from hs) Bool.false_ne_true
  | _ => cases y <;> exact absurd (show false = true from hs) Bool.false_ne_true
theorem op_ne : OpR X (compareOp .NotEq) rNe := by
  intro pins s σ H x y v u Q I rx ry h
  obtain ⟨hs, q⟩ := h
  cases x with
  | non =>
    cases rx
    cases y with
    | non => cases ry; exact PySem.EqNone.ne_none_none (fin_bl I q (by simp))
    | bl j => cases ry; exact PySem.EqNone.ne_none_bool (fin_bl I q (by simp))
    | int j => obtain ⟨t', rfl⟩ := ry; exact PySem.EqNone.ne_none_int (fin_bl I q (by simp))
    | str j => obtain ⟨t', rfl⟩ := ry; exact PySem.EqNone.ne_none_str (fin_bl I q (by simp))
    | _ => exact absurd (show false = true from hs) Bool.false_ne_true
  | bl i =>
    cases rx
    cases y with
    | non => cases ry; exact PySem.EqNone.ne_bool_none (fin_bl I q (by simp))
    | bl j => cases ry; exact ne_bool (fin_bl I q (congrArg not dec_bl))
    | str j => obtain ⟨t', rfl⟩ := ry; exact PySem.EqMixed.ne_bool_str (fin_bl I q (by simp))
    | _ => exact absurd (show false = true from hs) Bool.false_ne_true
  | int i =>
    obtain ⟨t, rfl⟩ := rx
    cases y with
    | non => cases ry; exact PySem.EqNone.ne_int_none (fin_bl I q (by simp))
    | int j => obtain ⟨t', rfl⟩ := ry; exact ne_int (fin_bl I q (congrArg not dec_int))
    | str j => obtain ⟨t', rfl⟩ := ry; exact PySem.EqMixed.ne_int_str (fin_bl I q (by simp))
    | _ => exact absurd (show false = true from hs) Bool.false_ne_true
  | str i =>
    obtain ⟨t, rfl⟩ := rx
    cases y with
    | non => cases ry; exact PySem.EqNone.ne_str_none (fin_bl I q (by simp))
    | bl j => cases ry; exact PySem.EqMixed.ne_str_bool (fin_bl I q (by simp))
    | int j => obtain ⟨t', rfl⟩ := ry; exact PySem.EqMixed.ne_str_int (fin_bl I q (by simp))
    | str j => obtain ⟨t', rfl⟩ := ry; exact ne_str (fin_bl I q (congrArg not dec_str))
    | _ => exact absurd (show false = true from hs) Bool.false_ne_true
  | byt i =>
    obtain ⟨t, rfl⟩ := rx
    cases y with
    | byt j => obtain ⟨t', rfl⟩ := ry; exact PySem.W.ne_bytes (fin_bl I q (congrArg not dec_byt))
    | _ => exact absurd (show false = true from hs) Bool.false_ne_true
  | _ => cases y <;> exact absurd (show false = true from hs) Bool.false_ne_true
theorem op_lt : OpR X (compareOp .Lt) (rI0 fun i j => .bl (decide (i < j))) := opB0 fun _ _ _ _ _ _ _ q => lt_int q
theorem op_le : OpR X (compareOp .LtE) (rI0 fun i j => .bl (decide (i ≤ j))) := opB0 fun _ _ _ _ _ _ _ q => le_int q
theorem nomark (b : Expr) {op : CmpOp} (h : op ≠ .In := by decide) (h2 : op ≠ .NotIn := by decide) : behindInMarks op b = false := by
  have e1 : (op == CmpOp.In) = false := by cases op <;> first | rfl | exact absurd rfl h
  have e2 : (op == CmpOp.NotIn) = false := by cases op <;> first | rfl | exact absurd rfl h2
  cases b <;> simp [behindInMarks, e1, e2]
/-- a comparison as a value; hm: nomark b, or (for in, not in) by with_unfolding_all rfl -/
theorem pe_cmpR {op : CmpOp} {r : R2} (ho : OpR X (compareOp op) r) (ha : PE X a ta) (hb : PE X b tb) (hm : behindInMarks op b = false) : PE X (.Compare a [op] [b] pos) (tOp r ta tb) := by
  intro pins s σ H Q I h
  exact wpAny_Compare1 (binT ha hb I h fun v u s2 x y H2 I2 rx ry q => ho pins s2 σ H2 x y v u Q I2 rx ry q) hm
/-- a reading of a value as a test -/
def tTest (t : TE) : TT := fun σ H Q => t σ H fun x H' => ∃ k, x = .bl k ∧ Q k H'
theorem pt_cmpR {op : CmpOp} {r : R2} (ho : OpR X (compareOp op) r) (ha : PE X a ta) (hb : PE X b tb) (hm : behindInMarks op b = false) : PT X (.Compare a [op] [b] pos) (tTest (tOp r ta tb)) := by
  intro pins s σ H Q I h
  refine wpAny_isTrue_Compare1 (thn (ha pins s σ H _ I h) fun v s1 ⟨x, H1, I1, r1, q1⟩ => thn (hb pins s1 σ H1 _ I1 q1) fun u s2 ⟨y, H2, I2, r2, q2⟩ =>
    thn (ho pins s2 σ H2 x y v u _ I2 r1 r2 q2) fun c s3 ⟨z, H3, I3, r3, k, e, q3⟩ => ?_) hm
  subst e
  cases r3
  exact wpAny_truthy_bool ⟨H3, I3, q3⟩
theorem line63 : (sizeLine : Nat) < 2 ^ 63 := by rw [sizeLine_eq]; decide
theorem vals1 {x : V} {us : List Value} (r : Vals [x] us) : ∃ u, us = [u] ∧ RelV x u := by
  cases r with
  | cons r1 r2 => cases r2; exact ⟨_, rfl, r1⟩
theorem vals2 {x y : V} {us : List Value} (r : Vals [x, y] us) : ∃ u w', us = [u, w'] ∧ RelV x u ∧ RelV y w' := by
  cases r with
  | cons r1 r2 =>
    cases r2 with
    | cons r3 r4 => cases r4; exact ⟨_, _, rfl, r1, r3⟩
theorem call_max2 (hc : X.calm = true) : CallR X (.builtin "max") (fun xs H Q => ∃ i j, xs = [.int i, .int j] ∧ Q (.int (if j > i then j else i)) H) := by
  intro pins s σ H xs us Q I r h
  obtain ⟨i, j, rfl, q⟩ := h
  obtain ⟨u, w', rfl, ⟨t, rfl⟩, ⟨t', rfl⟩⟩ := vals2 r
  refine max_two_ints (I.ok.hd hc) fun h' tk k => ⟨_, H, I.kept k, ?_, q⟩
  by_cases hj : j > i
  · rw [if_pos hj, if_pos hj]; exact ⟨_, rfl⟩
  · rw [if_neg hj, if_neg hj]; exact ⟨_, rfl⟩
theorem call_min2 (hc : X.calm = true) : CallR X (.builtin "min") (fun xs H Q => ∃ i j, xs = [.int i, .int j] ∧ Q (.int (if j < i then j else i)) H) := by
  intro pins s σ H xs us Q I r h
  obtain ⟨i, j, rfl, q⟩ := h
  obtain ⟨u, w', rfl, ⟨t, rfl⟩, ⟨t', rfl⟩⟩ := vals2 r
  refine min_two_ints (I.ok.hd hc) fun h' tk k => ⟨_, H, I.kept k, ?_, q⟩
  by_cases hj : j < i
  · rw [if_pos hj, if_pos hj]; exact ⟨_, rfl⟩
  · rw [if_neg hj, if_neg hj]; exact ⟨_, rfl⟩
end
end L2
namespace L2
open PySem PySem.Spec PyProof.Rows
structure ObjM (h : Heap) (x dx C : Addr) (mA : Str → Option Value) : Prop where
  obj : h.get? x = some (PySem.W.instObj C dx)
  ns : h.Ns1 dx mA
  ne : dx ≠ x
theorem lookIn_ns {h : Heap} {dx : Addr} {mA : Str → Option Value} (n : h.Ns1 dx mA) : ∃ od, h.get? dx = some od ∧ ∀ name, PySem.W.lookIn name od = some (mA name) := by
  obtain ⟨o, es, ep, ho, hd, hk, _, hm⟩ := n
  refine ⟨o, ho, fun name => ?_⟩
  have e := hm name
  unfold nsFind findBy at e
  rw [← Array.find?_toList] at e
  unfold PySem.W.lookIn
  rw [hd]
  dsimp only
  split
  · rename_i y q
    rw [q] at e
    exact congrArg some e
  · rename_i q
    rw [q] at e
    have a : es.toList.any (·.refKey) = false := by
      rw [List.any_eq_false]
      intro y hy
      obtain ⟨z, t, hkey⟩ := hk y (Array.mem_toList_iff.mp hy)
      simp [DictEntry.refKey, hkey]
    have a' : ¬ es.toList.any (·.refKey) = true := by rw [a]; exact Bool.false_ne_true
    rw [if_neg a']
    exact congrArg some e
theorem ObjM.look {h : Heap} {x dx C : Addr} {mA : Str → Option Value} (I : ObjM h x dx C mA) : ∃ od, PySem.W.InstAt h x (PySem.W.instObj C dx) C (some od) ∧ ∀ name, PySem.W.lookIn name od = some (mA name) :=
  let ⟨od, ho, hl⟩ := lookIn_ns I.ns
  ⟨od, ⟨I.obj, rfl, rfl, ho⟩, hl⟩
section
variable {prog : Program} {w : World} {A : Around} {E : Value → Shared → Prop} {s : Shared} {K : PySem.W.Frag} {x dx C f : Addr} {mA : Str → Option Value} {name : Str} {v : Value}
theorem get_map {expr : Bool} {Q : Value → Shared → Prop} (X : K.In s.heap) (I : ObjM s.heap x dx C mA) (hg : PySem.W.plainGet K C name = true) (hh : PySem.W.hasDictIn K C = true)
    (ha : PySem.W.findIn K (.ref C) name = some none) (hv : mA name = some v) (hv' : PySem.W.handedIn v = true) (h : Q v { s with toks := s.toks + 1 }) :
    wpAny (model prog w) A (getAttr (.ref x) name expr) Q E s := by
  obtain ⟨od, J, hl⟩ := I.look
  exact PySem.W.get_value X J (PySem.W.plainGet_of hg).1 (PySem.W.findObj_own hh ha rfl (by rw [hl, hv])) hv' h
theorem get_meth {pl : Sem Bool} {Q : Value × List Value → Shared → Prop} (X : K.In s.heap) (I : ObjM s.heap x dx C mA) (hg : PySem.W.plainGet K C name = true)
    (hf : PySem.W.findIn K (.ref C) name = some (some (.ref f))) (ht : PySem.W.isFn K (.ref f) = true) (hv : mA name = none) (h : Q (.ref f, [.ref x]) s) :
    wpAny (model prog w) A (getMethod (.ref x) name pl) Q E s := by
  obtain ⟨od, J, hl⟩ := I.look
  exact PySem.W.method_fn X J (PySem.W.plainGet_of hg).1 (PySem.W.plainGet_of hg).2 hf (beq_iff_eq.mp ht) (by show (PySem.W.lookIn name od).map (·.isSome) = some false; rw [hl, hv]; rfl) h
theorem set_map {ns : List Str} {Q : Unit → Shared → Prop} (X : K.In s.heap) (I : ObjM s.heap x dx C mA)
    (hs : PySem.W.findIn K (.ref C) "__setattr__" = some (some (.builtin "object.__setattr__"))) (hp : PySem.W.plainOver K C = true) (ht : PySem.W.takerIn K C name = some none) (hh : PySem.W.hasDictIn K C = true)
    (hw : PySem.Within mA ns) (hsz : ns.length ≤ sizeLine)
    (h : ∀ h', ObjM h' x dx C (fun y => if y = name then some v else mA y) → Heap.SameBut dx s.heap h' → Q () { s with heap := h', toks := s.toks + 2 }) :
    wpAny (model prog w) A (setAttr (.ref x) name v) Q E s := by
  obtain ⟨od, J, hl⟩ := I.look
  refine PySem.W.set_plain X J hs (PySem.W.osa_open (s := { s with toks := s.toks + 1 }) (r := none) X J hp ht fun b => ?_)
  obtain ⟨cd, hc, hd'⟩ := PySem.W.any_some hh
  have hx : s.heap.get? x = some ⟨.ref C, some dx, .plain, #[]⟩ := I.obj
  refine wpAny_bind (wpAny_pure (wpAny_bind (wpAny_bind (wpAny_loadPart hx (wpAny_bind (PySem.W.Looks.here (s := { s with toks := s.toks + 1 }) (PySem.W.looks_clsIn X hc) ?_))))))
  rw [hd']
  refine wpAny_pure (a := some dx) (wpAny_bind (wpAny_pure (wpAny_bind ?_)))
  refine wpAny_nsSet1 (s := { s with toks := s.toks + 1 }) I.ns fun h' hn2 hs2 => ?_
  obtain ⟨oD, esD, epD, hoD, hdD, hcD⟩ := hn2.count (PySem.Within.cons name v hw)
  refine wpAny_bind (wpAny_lookBehind hoD (by rw [hdD]; exact pastItsLine_dict (Nat.le_trans hcD (by rw [List.length_cons]; omega))) ?_)
  exact wpAny_pure (h _ ⟨(hs2.2 _ (Ne.symm I.ne)).trans I.obj, hn2, I.ne⟩ hs2)
/-- C(..): the dict at the heap's end, the instance behind it; then its __init__ -/
theorem make_map {R : Result → Shared → Prop} {vs : List Value} {kw : List (Str × Value)} (X : K.In s.heap) (hm : PySem.W.makesIn K C = true)
    (hi : PySem.W.findIn K (.ref C) "__init__" = some (some (.ref f))) (hf : PySem.W.typeIn K (.ref f) = some (.type "function"))
    (h : codeAny (model prog w) (A.under (.builtin "type.__call__" ⟨.ref C :: vs, kw⟩)) (.call (.ref f) ⟨.ref (s.heap.objs.size + 1) :: vs, kw⟩) (PySem.W.InitBack (s.heap.objs.size + 1) R)
      { s with heap := (s.heap.push PySem.W.emptyDict).push (PySem.W.instObj C s.heap.objs.size) }) :
    codeAny (model prog w) A (.call (.ref C) ⟨vs, kw⟩) R s := by
  obtain ⟨hh, g, d, t, os⟩ := s
  exact PySem.W.make_core (PySem.W.makes_of X hm) (PySem.W.looks_findIn X hi) (fun self => PySem.W.bind_fn X self hf) (.inl rfl) h
end
def putF (f : Str) (v : V) : List (Str × V) → List (Str × V)
  | [] => [(f, v)]
  | (g, x) :: r => if g = f then (g, v) :: r else (g, x) :: putF f v r
theorem lookup_putF (f g : Str) (v : V) : ∀ fs : List (Str × V), (putF f v fs).lookup g = if g = f then some v else fs.lookup g
  | [] => by
    show List.lookup g [(f, v)] = _
    by_cases h : g = f
    · have hb : (g == f) = true := beq_iff_eq.mpr h
      simp only [List.lookup, hb, if_pos h]
    · have hb : (g == f) = false := beq_eq_false_iff_ne.mpr h
      simp only [List.lookup, hb, if_neg h]
  | (k, x) :: r => by
    have ih := lookup_putF f g v r
    rw [show putF f v ((k, x) :: r) = (if k = f then (k, v) :: r else (k, x) :: putF f v r) from rfl]
    by_cases hk : k = f
    · rw [if_pos hk]
      by_cases h : g = k
      · have hb : (g == k) = true := beq_iff_eq.mpr h
        simp only [List.lookup, hb, if_pos (h.trans hk)]
      · have hb : (g == k) = false := beq_eq_false_iff_ne.mpr h
        simp only [List.lookup, hb, if_neg (fun e : g = f => h (e.trans hk.symm))]
    · rw [if_neg hk]
      by_cases h : g = k
      · have hb : (g == k) = true := beq_iff_eq.mpr h
        simp only [List.lookup, hb, if_neg (fun e : g = f => hk (h.symm.trans e))]
      · have hb : (g == k) = false := beq_eq_false_iff_ne.mpr h
        simp only [List.lookup, hb]
        exact ih
theorem keys_putF (f : Str) (v : V) : ∀ fs : List (Str × V), f ∈ (putF f v fs).map (·.1) ∧ ∀ g, g ∈ fs.map (·.1) → g ∈ (putF f v fs).map (·.1)
  | [] => ⟨by simp [putF], fun g h => by simp at h⟩
  | (k, x) :: r => by
    obtain ⟨i1, i2⟩ := keys_putF f v r
    rw [show putF f v ((k, x) :: r) = (if k = f then (k, v) :: r else (k, x) :: putF f v r) from rfl]
    by_cases hk : k = f
    · rw [if_pos hk]
      subst hk
      exact ⟨by simp, fun g h => by simpa using h⟩
    · rw [if_neg hk]
      refine ⟨?_, fun g h => ?_⟩
      · rw [List.map_cons]
        exact List.mem_cons_of_mem _ i1
      · rw [List.map_cons] at h ⊢
        rcases List.mem_cons.mp h with e | e
        · exact List.mem_cons.mpr (.inl e)
        · exact List.mem_cons_of_mem _ (i2 g e)
theorem length_putF (f : Str) (v : V) : ∀ fs : List (Str × V), (putF f v fs).length ≤ fs.length + 1
  | [] => by simp [putF]
  | (k, x) :: r => by
    have ih := length_putF f v r
    rw [show putF f v ((k, x) :: r) = (if k = f then (k, v) :: r else (k, x) :: putF f v r) from rfl]
    by_cases hk : k = f
    · rw [if_pos hk, List.length_cons, List.length_cons]; omega
    · rw [if_neg hk, List.length_cons, List.length_cons]; omega
theorem RelO.some_of {v : V} {o : Option Value} (r : RelO (some v) o) : ∃ u, o = some u ∧ RelV v u := by
  cases o with
  | none => exact (show False from r).elim
  | some u => exact ⟨u, rfl, r⟩
theorem RelO.none_of {o : Option Value} (r : RelO none o) : o = none := by
  cases o with
  | none => rfl
  | some u => exact (show False from r).elim
theorem handed_of {v : V} {u : Value} (r : RelV v u) : PySem.W.handedIn u = true := by
  cases v with
  | non => cases (show u = Value.none from r); rfl
  | bl b => cases (show u = Value.bool b from r); rfl
  | int i => obtain ⟨t, e⟩ := (show ∃ t, u = Value.int i t from r); cases e; rfl
  | str x => obtain ⟨t, e⟩ := (show ∃ t, u = Value.str x t from r); cases e; rfl
  | byt b => obtain ⟨t, e⟩ := (show ∃ t, u = Value.bytes b t from r); cases e; rfl
  | flt b => obtain ⟨t, e⟩ := (show ∃ t, u = Value.float b t from r); cases e; rfl
  | ref a => cases (show u = Value.ref a from r); rfl
  | ty n => cases (show u = Value.type n from r); rfl
section
variable {P : Program} {w : World} {H H' : Hp} {h h' : Heap} {a C dx : Addr} {fs fs' : List (Str × V)}
theorem ins_get (hok : HOk P w H h) (e : H a = some (.ins C dx fs)) : ∃ mA, ObjM h a dx C mA ∧ (∀ f, RelO (fs.lookup f) (mA f)) ∧ PySem.Within mA (fs.map (·.1)) ∧ fs.length ≤ 1000 ∧ H dx = some (.own a) := by
  obtain ⟨d, z, ne, ob, mA, n, r, q⟩ := (show ObjOk P w H h a (.ins C dx fs) from hok a _ e)
  exact ⟨mA, ⟨ob, n, ne⟩, r, q, z, d⟩
end
structure Cls (K : PySem.W.Frag) (C : Addr) : Prop where
  pg : PySem.W.plainGet K C Str.empty = true
  hd : PySem.W.hasDictIn K C = true
  po : PySem.W.plainOver K C = true
  sa : PySem.W.findIn K (.ref C) "__setattr__" = some (some (.builtin "object.__setattr__"))
theorem Cls.get {K : PySem.W.Frag} {C : Addr} (c : Cls K C) (f : Str) : PySem.W.plainGet K C f = true := c.pg
/-- no class of it has the name -/
def NoAttr (K : PySem.W.Frag) (C : Addr) (f : Str) : Prop := PySem.W.findIn K (.ref C) f = some none
theorem NoAttr.taker {K : PySem.W.Frag} {C : Addr} {f : Str} (n : NoAttr K C f) : PySem.W.takerIn K C f = some none := by
  unfold PySem.W.takerIn
  rw [show PySem.W.findIn K (.ref C) f = some none from n]
  rfl
/-- a method: a plain def of the class or of one above it -/
structure Meth (K : PySem.W.Frag) (C : Addr) (m : Str) (f : Addr) : Prop where
  at_ : PySem.W.findIn K (.ref C) m = some (some (.ref f))
  fn : PySem.W.isFn K (.ref f) = true
  kp : PySem.W.keepIn K (.ref f) = true
section
variable {X : Cx} {pins : List (Addr × Obj)} {σ : St} {H : Hp} {s : Shared} {a C dx : Addr} {fs : List (Str × V)} {f : Str} {v : V} {A : Around} {E : Value → Shared → Prop}
theorem getattr_ok {b : Bool} {Q : Value → Shared → Prop} (I : Inv X pins σ H s) (e : H a = some (.ins C dx fs)) (c : Cls X.K C) (n : NoAttr X.K C f) (l : fs.lookup f = some v)
    (h : ∀ u s', Inv X pins σ H s' → RelV v u → Q u s') : wpAny (model X.prog X.w) A (getAttr (.ref a) f b) Q E s := by
  obtain ⟨mA, O, r, _, _, _⟩ := ins_get I.hok e
  obtain ⟨u, hu, ru⟩ := RelO.some_of (v := v) (o := mA f) (by rw [← l]; exact r f)
  exact get_map I.kIn O (c.get f) c.hd n hu (handed_of ru) (h u _ (I.tok _) ru)
theorem getmeth_ok {m : Str} {g : Addr} {pl : Sem Bool} {Q : Value × List Value → Shared → Prop} (I : Inv X pins σ H s) (e : H a = some (.ins C dx fs)) (c : Cls X.K C) (k : Meth X.K C m g) (l : fs.lookup m = none)
    (h : Q (.ref g, [.ref a]) s) : wpAny (model X.prog X.w) A (getMethod (.ref a) m pl) Q E s := by
  obtain ⟨mA, O, r, _, _, _⟩ := ins_get I.hok e
  have hn : mA m = none := RelO.none_of (by rw [← l]; exact r m)
  exact get_meth I.kIn O (c.get m) k.at_ k.fn hn h
theorem setattr_ok {y : V} {u : Value} {Q : Unit → Shared → Prop} (I : Inv X pins σ H s) (e : H a = some (.ins C dx fs)) (c : Cls X.K C) (n : NoAttr X.K C f) (hl : fs.length < 1000) (ry : RelV y u)
    (h : ∀ s', Inv X pins σ (upd H a (.ins C dx (putF f y fs))) s' → Q () s') : wpAny (model X.prog X.w) A (setAttr (.ref a) f u) Q E s := by
  obtain ⟨mA, O, r, wi, _, ho⟩ := ins_get I.hok e
  have hz : (fs.map (·.1)).length ≤ sizeLine := by rw [List.length_map, sizeLine_eq]; omega
  refine set_map I.kIn O c.sa c.po n.taker c.hd wi hz fun h' O' sb => h _ ?_
  have hd : ∃ o, h'.get? dx = some o := let ⟨o, _, _, e', _⟩ := O'.ns; ⟨o, e'⟩
  refine I.write (x := a) (e := dx) (by rw [e]; exact True.intro) (.inr ho) (fun b q hb z => (sb.2 b hb).trans z) hd ?_
  refine ⟨by rw [upd_ne O.ne]; exact ho, ?_, O.ne, O'.obj, _, O'.ns, fun g => ?_, fun g hg => ?_⟩
  · have := length_putF f y fs; omega
  · show RelO ((putF f y fs).lookup g) (if g = f then some u else mA g)
    rw [lookup_putF]
    by_cases q : g = f
    · rw [if_pos q, if_pos q]; exact ry
    · rw [if_neg q, if_neg q]; exact r g
  · by_cases q : g = f
    · rw [q]; exact (keys_putF f y fs).1
    · refine (keys_putF f y fs).2 g (wi g fun z => hg ?_)
      show (if g = f then some u else mA g) = none
      rw [if_neg q]; exact z
/-- a new instance, tracked, without attributes -/
theorem Inv.made (I : Inv X pins σ H s) : Inv X pins σ (upd (upd H s.heap.objs.size (.own (s.heap.objs.size + 1))) (s.heap.objs.size + 1) (.ins C s.heap.objs.size []))
    { s with heap := (s.heap.push PySem.W.emptyDict).push (PySem.W.instObj C s.heap.objs.size) } := by
  have e1 : (s.heap.push PySem.W.emptyDict).get? s.heap.objs.size = some PySem.W.emptyDict := Heap.get?_push_size s.heap rfl
  have e2 : ((s.heap.push PySem.W.emptyDict).push (PySem.W.instObj C s.heap.objs.size)).get? (s.heap.objs.size + 1) = some (PySem.W.instObj C s.heap.objs.size) := by
    have := Heap.get?_push_size (s.heap.push PySem.W.emptyDict) (o := PySem.W.instObj C s.heap.objs.size) rfl
    rwa [Heap.size_push] at this
  have e3 : (s.heap.push PySem.W.emptyDict).Ns s.heap.objs.size (fun _ => none) := ⟨PySem.W.emptyDict, #[], _, e1, rfl, (fun e he => absurd he (by simp)), fun _ => rfl⟩
  have I1 := I.laid (a := s.heap.objs.size) (o := .own (s.heap.objs.size + 1)) (h' := s.heap.push PySem.W.emptyDict) (t' := s.toks) (fun b u q => Heap.get?_push_of_some _ q) (Nat.le_refl _) ⟨_, e1⟩
  refine I1.laid (a := s.heap.objs.size + 1) (o := .ins C s.heap.objs.size []) (t' := s.toks) (fun b u q => Heap.get?_push_of_some _ q) (Nat.le_of_eq (Heap.size_push _ _)) ?_
  have ne : s.heap.objs.size ≠ s.heap.objs.size + 1 := Nat.ne_of_lt (Nat.lt_succ_self _)
  refine ⟨by rw [upd_ne ne, upd_same], Nat.zero_le _, ne, e2, fun _ => none, (Heap.Ns1.of_empty e3).at fun o q => Heap.get?_push_of_some _ q, fun _ => True.intro, fun y hy => absurd rfl hy⟩
/-- e.f where nothing but the object is asked: through attributeBase (super) and the last hold -/
theorem attr_of {prog : Program} {w : World} {env : Env} {e : Expr} {f : Str} {pos : Pos} {s : Shared} {Q : Value → Shared → Prop} (hb : attributeBase e f env (eval e env) = eval e env)
    (h : wpAny (model prog w) A (eval e env) (fun o s₁ => wpAny (model prog w) A (getAttr o f true) Q E s₁) E s) : wpAny (model prog w) A (eval (.Attribute e f pos) env) Q E s :=
  Attribute_any_ h (by rw [arm_eval_Attribute, hb])
end
/-- e.f = value -/
def sFld (K : PySem.W.Frag) (ta tv : TE) (f : Str) : TS := fun D σ H => tv σ H fun y H1 => ta σ H1 fun x H2 => ∃ a C dx fs, x = .ref a ∧ H2 a = some (.ins C dx fs) ∧ Cls K C ∧ NoAttr K C f ∧ fs.length < 1000 ∧
  D.nx σ (upd H2 a (.ins C dx (putF f y fs)))
/-- an augmented operator on two values -/
def InOp (X : Cx) (op : Operator) (rd : V → V → Hp → VK → Prop) : Prop :=
  ∀ (pins : List (Addr × Obj)) (s : Shared) (σ : St) (H : Hp) (x y : V) (u v : Value) (Q : VK), Inv X pins σ H s → RelV x u → RelV y v → rd x y H Q → wpAny (model X.prog X.w) X.A (inplaceOp op u v) (EP X pins σ Q) X.xe s
/-- e.f op= value -/
def sFldAug (K : PySem.W.Frag) (ta tv : TE) (rd : V → V → Hp → VK → Prop) (f : Str) : TS := fun D σ H => ta σ H fun x H1 => ∃ a C dx fs v, x = .ref a ∧ H1 a = some (.ins C dx fs) ∧ Cls K C ∧ NoAttr K C f ∧ fs.lookup f = some v ∧
  tv σ H1 fun y H2 => rd v y H2 fun z H3 => ∃ dx' fs', H3 a = some (.ins C dx' fs') ∧ fs'.length < 1000 ∧ D.nx σ (upd H3 a (.ins C dx' (putF f z fs')))
section
variable {X : Cx} {o e value : Expr} {f : Str} {pos pos' tpos : Pos} {ta tv : TE}
theorem ps_fld (ha : PE X o ta) (hv : PE X value tv) (hs : swapsWith value (some (.Attribute o f pos')) pos.line X.env = pure false) : PS X (.Assign [.Attribute o f pos'] value pos) (sFld X.K ta tv f) := by
  intro pins s σ H D I h
  refine plainObj_wpAny_Assign_Attribute (thn (hv pins s σ H _ I h) fun u s1 ⟨y, H1, I1, ry, q⟩ => thn (ha pins s1 σ H1 _ I1 q) fun ov s2 ⟨x, H2, I2, rx, a, C, dx, fs, ex, ea, c, n, l, q2⟩ => ?_) hs
  subst ex
  obtain rfl : ov = Value.ref a := rx
  exact setattr_ok I2 ea c n l ry fun s3 I3 => ⟨σ, _, I3, q2⟩
theorem ps_fldaug {op : Operator} {rd : V → V → Hp → VK → Prop} (ha : PE X o ta) (hv : PE X value tv) (hop : InOp X op rd) : PS X (.AugAssign (.Attribute o f tpos) op value pos) (sFldAug X.K ta tv rd f) := by
  intro pins s σ H D I h
  refine wpAny_AugAssign_AttributeAny (thn (ha pins s σ H _ I h) fun ov s1 ⟨x, H1, I1, rx, a, C, dx, fs, v, ex, ea, c, n, l, q⟩ => ?_)
  subst ex
  obtain rfl : ov = Value.ref a := rx
  refine getattr_ok I1 ea c n l fun u s2 I2 ru => thn (hv pins s2 σ H1 _ I2 q) fun w3 s3 ⟨y, H2, I3, ry, q3⟩ => thn (hop pins s3 σ H2 v y u w3 _ I3 ru ry q3) fun w4 s4 ⟨z, H3, I4, rz, dx', fs', ea', l', q4⟩ => ?_
  exact setattr_ok I4 ea' c n l' rz fun s5 I5 => ⟨σ, _, I5, q4⟩
def rAdd : V → V → Hp → VK → Prop := fun x y H Q => ∃ i j, x = .int i ∧ y = .int j ∧ Q (.int (i + j)) H
theorem in_add : InOp X .Add rAdd := by
  rintro pins s σ H x y u v Q I rx ry ⟨i, j, rfl, rfl, q⟩
  obtain ⟨t, rfl⟩ := (show ∃ t, u = Value.int i t from rx)
  obtain ⟨t', rfl⟩ := (show ∃ t', v = Value.int j t' from ry)
  exact PyProof.Rows.iadd_int ⟨.int (i + j), H, I.tok _, ⟨_, rfl⟩, q⟩
end
section
variable {X : Cx} {pins : List (Addr × Obj)} {σ : St} {H : Hp} {s : Shared} {A : Around} {E : Value → Shared → Prop} {Q : Value → Shared → Prop} {c : Value} {b : Bool}
end
end L2
namespace L2
open PySem PySem.Spec PyProof.Rows
structure Room (k : Nat) (A : Around) : Prop where
  hd : A.handled = none
  dp : A.depth + 3 * k + 5 < recursionLimit
  un : A.units + 16 * k + 200 < cLine
theorem Room.mono {j k : Nat} {A : Around} (r : Room k A) (h : j ≤ k) : Room j A := ⟨r.hd, by have := r.dp; omega, by have := r.un; omega⟩
theorem Room.deeper {k : Nat} {A : Around} (r : Room (k + 1) A) (env : Env) : Room k (A.deeper env) :=
  ⟨r.hd, by have := r.dp; show A.depth + 1 + 3 * k + 5 < _; omega, by have := r.un; show A.units + 3 + 16 * k + 200 < _; omega⟩
theorem make_depth {A : Around} {C : Addr} {us : List Value} {kw : List (Str × Value)} : (A.under (.builtin "type.__call__" ⟨.ref C :: us, kw⟩)).depth = A.depth + 1 := by
  first | rfl | simp [Around.under, Code.weight, Code.isCreation, Code.isGuard, Code.isCaller, Code.frames, Code.isFrame, guardIds]
theorem make_units {A : Around} {C : Addr} {us : List Value} {kw : List (Str × Value)} : (A.under (.builtin "type.__call__" ⟨.ref C :: us, kw⟩)).units = A.units + 1 := by
  first | rfl | simp [Around.under, Code.cUnits, Code.frames, Code.isFrame]
theorem Room.make {k : Nat} {A : Around} (r : Room (k + 1) A) (C : Addr) (us : List Value) (kw : List (Str × Value)) : Room k (A.under (.builtin "type.__call__" ⟨.ref C :: us, kw⟩)) :=
  ⟨r.hd, by have := r.dp; rw [make_depth]; omega, by have := r.un; rw [make_units]; omega⟩
theorem Room.depth {k : Nat} {A : Around} (r : Room k A) : A.depth < recursionLimit := by have := r.dp; omega
def tNil : TA := fun _ H Q => Q [] H
def tCons (ta : TE) (tr : TA) : TA := fun σ H Q => ta σ H fun x H1 => tr σ H1 fun xs H2 => Q (x :: xs) H2
section
variable {X : Cx} {e : Expr} {es : List Expr} {te : TE} {t : TA} {pos : Pos}
theorem pa_nil : PA X [] tNil := fun _ _ _ _ H Q I h => Calls.spliced_nil ⟨[], H, I, .nil, h⟩
theorem pa_cons (ha : PE X e te) (hr : PA X es t) (hs : starEach (e :: es) X.env = (false, eval e X.env) :: starEach es X.env := by rfl) : PA X (e :: es) (tCons te t) := by
  intro pos pins s σ H Q I h
  rw [hs]
  show wpAny _ _ (spliced ((false, eval e X.env) :: backTo pos (starEach es X.env))) _ _ s
  refine Calls.spliced_cons (thn (ha pins s σ H _ I h) fun u s1 ⟨x, H1, I1, r1, q1⟩ => ?_)
  exact thn (hr pos pins s1 σ H1 _ I1 q1) fun us s2 ⟨xs, H2, I2, r2, q2⟩ => ⟨x :: xs, H2, I2, .cons r1 r2, q2⟩
/-- a tuple, a list of written items -/
def tTup (t : TA) : TE := fun σ H Q => t σ H fun xs H1 => xs.length ≤ sizeLine ∧ ∀ p, H1 p = none → Q (.ref p) (upd H1 p (.tup xs))
def tLst (t : TA) : TE := fun σ H Q => t σ H fun xs H1 => xs.length ≤ sizeLine ∧ ∀ p, H1 p = none → Q (.ref p) (upd H1 p (.lst xs))
theorem pe_tup {x1} (h : PA X es t) : PE X (.Tuple es x1 pos) (tTup t) := by
  intro pins s σ H Q I hq
  refine wpAny_Tuple_spliced (thn (h pos pins s σ H _ I hq) fun us s1 ⟨xs, H1, I1, r, z, q⟩ => ⟨by rw [← r.length]; exact z, ?_⟩)
  have hf : H1 s1.heap.objs.size = none := I1.hok.fresh (Nat.le_refl _)
  refine ⟨.ref s1.heap.objs.size, upd H1 s1.heap.objs.size (.tup xs), I1.laid (t' := s1.toks) (fun b u e => Heap.get?_push_of_some _ e) (Nat.le_refl _) ?_, rfl, q _ hf⟩
  exact ⟨z, us, r, ⟨_, Heap.get?_push_size _ rfl, rfl, _, rfl⟩⟩
theorem pe_lst (h : PA X es t) : PE X (.List es pos) (tLst t) := by
  intro pins s σ H Q I hq
  refine wpAny_List_spliced (thn (h pos pins s σ H _ I hq) fun us s1 ⟨xs, H1, I1, r, z, q⟩ => ⟨by rw [← r.length]; exact z, ?_⟩)
  have hf : H1 s1.heap.objs.size = none := I1.hok.fresh (Nat.le_refl _)
  refine ⟨.ref s1.heap.objs.size, upd H1 s1.heap.objs.size (.lst xs), I1.laid (t' := s1.toks) (fun b u e => Heap.get?_push_of_some _ e) (Nat.le_refl _) ?_, rfl, q _ hf⟩
  exact ⟨z, us, 0, r, Heap.get?_push_size _ rfl⟩
end
/-- a def's promise: the bound arguments in the parameters' order, the heap, the wanted end, the wanted exception -/
abbrev Sp := List V → Hp → VK → XK → Prop
/-- how an exception lies behind a call (file 08 gives it): the callers' frames, abstract heap and state ahead of the call, the wish, the exception, the state -/
abbrev CXT := List Env → Hp → Shared → XK → Value → Shared → Prop
/-- the state at a call -/
structure Env0 (P : Program) (w : World) (K : PySem.W.Frag) (mg : Str → Option Value) (base : Heap) (A : Around) (outer : List Env) (s : Shared) (H : Hp) : Prop where
  frames : A.frames = some outer
  mod : Mod K mg base
  bs : ∀ b o, base.get? b = some o → s.heap.get? b = some o ∧ H b = none
  bsz : base.objs.size ≤ s.heap.objs.size
  funs : s.heap.FunFrames base outer
  frf : ∀ b ∈ frs outer, H b = none
  hok : HOk P w H s.heap
  bare : AllBare s.gens
/-- a call's end -/
def CE (outer : List Env) (P : Program) (w : World) (H : Hp) (s : Shared) (Q : VK) (u : Value) (s' : Shared) : Prop :=
  ∃ v H', s'.os = s.os ∧ AllBare s'.gens ∧ Un (frs outer) [] H H' s.heap s'.heap ∧ HOk P w H' s'.heap ∧ RelV v u ∧ Q v H'
def CR (CX : CXT) (outer : List Env) (P : Program) (w : World) (H : Hp) (s : Shared) (Q : VK) (E : XK) (r : Result) (s' : Shared) : Prop :=
  match r with
  | .ok (.ret u) => CE outer P w H s Q u s'
  | .ok _ => False
  | .error e => CX outer H s E e s'
structure FnOk (P : Program) (w : World) (K : PySem.W.Frag) (mg : Str → Option Value) (base : Heap) (CX : CXT) (k : Nat) (f : Addr) (fd : FuncData) (ps : List Str) (sp : Sp) : Prop where
  len : ∀ vs H Q E, sp vs H Q E → vs.length = ps.length
  run : ∀ (A : Around) (outer : List Env) (s : Shared) (H : Hp) (args : Args) (us : List Value) (vs : List V) (Q : VK) (E : XK), Room k A → Env0 P w K mg base A outer s H → BindsTo s fd args (ps.zip us) → Vals vs us → sp vs H Q E →
    codeAny (model P w) A (.call (.ref f) args) (CR CX outer P w H s Q E) s
theorem Env0.make {P : Program} {w : World} {K : PySem.W.Frag} {mg : Str → Option Value} {base : Heap} {A : Around} {outer : List Env} {s : Shared} {H : Hp} (e : Env0 P w K mg base A outer s H) (C : Addr) (us : List Value) (kw : List (Str × Value)) :
    Env0 P w K mg base (A.under (.builtin "type.__call__" ⟨.ref C :: us, kw⟩)) outer s H := ⟨by first | exact e.frames | (simpa [Around.under, Code.envs, Code.isFrame, pushEnvs] using e.frames), e.mod, e.bs, e.bsz, e.funs, e.frf, e.hok, e.bare⟩
section
variable {X : Cx} {pins : List (Addr × Obj)} {σ : St} {H : Hp} {s s' : Shared}
/-- from a body: what a callee wants -/
theorem Inv.env0 (I : Inv X pins σ H s) : Env0 X.prog X.w X.K X.mg X.base X.A X.stack s H :=
  ⟨I.ok.frames, I.ok.mod, I.bs, Nat.le_trans I.ok.bsz I.sz, I.stack, I.stkFree, I.hok, I.bare⟩
/-- behind a call -/
theorem Inv.after {Q : VK} {u : Value} (I : Inv X pins σ H s) (h : CE X.stack X.prog X.w H s Q u s') : EP X pins σ Q u s' := by
  obtain ⟨v, H', os, bare, un, hok, r, q⟩ := h
  obtain ⟨hh, g, d, t, os'⟩ := s'
  obtain rfl : os' = s.os := os
  exact ⟨v, H', I.call (h' := hh) (g' := g) (d' := d) (t' := t) (ch := []) un hok bare (fun b z => absurd z (by simp)), r, q⟩
end
/-- f(..): the written arguments, then the defaults dvs; E: what is wanted of an exception -/
def tCall (sp : Sp) (dvs : List V) (E : XK) (t : TA) : TE := fun σ H Q => t σ H fun vs H1 => sp (vs ++ dvs) H1 Q E
/-- o.m(..) of an instance of the class at C -/
def tMeth (C : Addr) (m : Str) (sp : Sp) (dvs : List V) (E : XK) (ta : TE) (t : TA) : TE := fun σ H Q => ta σ H fun x H1 => ∃ a dx fs, x = .ref a ∧ H1 a = some (.ins C dx fs) ∧ fs.lookup m = none ∧
  t σ H1 fun vs H2 => sp (x :: (vs ++ dvs)) H2 Q E
/-- C(..): a new instance and its dict, then __init__ -/
def tMake (C : Addr) (sp : Sp) (dvs : List V) (E : XK) (t : TA) : TE := fun σ H Q => t σ H fun vs H1 => ∀ x dx, H1 x = none → H1 dx = none → dx ≠ x →
  sp (.ref x :: (vs ++ dvs)) (upd (upd H1 dx (.own x)) x (.ins C dx [])) (fun v H2 => v = .non ∧ Q (.ref x) H2) E
/-- how the parameters are bound: us the positional arguments, kw the keywords' values by name, ds the defaults that fill up -/
def Binds (K : PySem.W.Frag) (fd : FuncData) (ps : List Str) (ds : List Value) : Prop :=
  ∀ (s : Shared) (us : List Value), K.In s.heap → (us ++ ds).length = ps.length → BindsTo s fd ⟨us, []⟩ (ps.zip (us ++ ds))
/-- every parameter is given -/
theorem Binds.all {K : PySem.W.Frag} {fd : FuncData} {ps : List Str} (h : ∀ us : List Value, us.length = ps.length → bindArgs fd ⟨us, []⟩ = pure (ps.zip us)) : Binds K fd ps [] := fun s us _ hl => by
  rw [List.append_nil] at hl ⊢
  exact .of_eq (h us hl)
/-- an exception of a callee reaches what this body wants of exceptions -/
def Passes (CX : CXT) (X : Cx) (E : XK) : Prop := ∀ (pins : List (Addr × Obj)) (σ : St) (H : Hp) (s : Shared) (e : Value) (s' : Shared), Inv X pins σ H s → CX X.stack H s E e s' → X.xe e s'
section
variable {X : Cx} {CX : CXT} {k : Nat} {f C : Addr} {fd : FuncData} {ps : List Str} {sp : Sp} {dvs : List V} {ds : List Value} {E : XK} {x m : Str} {p pos apos : Pos} {e o : Expr} {es : List Expr} {ta : TE} {t : TA}
/-- the callee runs -/
theorem run_fn {pins : List (Addr × Obj)} {σ : St} {H : Hp} {s : Shared} {Q : VK} {us : List Value} {vs : List V} (F : FnOk X.prog X.w X.K X.mg X.base CX k f fd ps sp) (hr : Room k X.A) (hb : Binds X.K fd ps ds) (hd : Vals dvs ds) (hx : Passes CX X E)
    (I : Inv X pins σ H s) (r : Vals vs us) (h : sp (vs ++ dvs) H Q E) : wpAny (model X.prog X.w) X.A (call (.ref f) us) (EP X pins σ Q) X.xe s := by
  have r2 : Vals (vs ++ dvs) (us ++ ds) := r.append hd
  have hl : (us ++ ds).length = ps.length := by rw [← r2.length]; exact F.len _ _ _ _ h
  refine wpAny_call (codeAny_mono (F.run X.A X.stack s H ⟨us, []⟩ (us ++ ds) (vs ++ dvs) Q E hr I.env0 (hb s us I.kIn hl) r2 h) fun r s' hq => ?_)
  cases r with
  | error e => exact hx pins σ H s e s' I hq
  | ok fl =>
    cases fl with
    | ret u => exact I.after hq
    | next => exact False.elim hq
    | brk => exact False.elim hq
    | cont => exact False.elim hq
theorem pe_call (F : FnOk X.prog X.w X.K X.mg X.base CX k f fd ps sp) (hr : Room k X.A) (hg : Gl X x) (hm : X.mg x = some (.ref f)) (hk : PySem.W.keepIn X.K (.ref f) = true) (hb : Binds X.K fd ps ds) (hd : Vals dvs ds) (hx : Passes CX X E)
    (ha : PA X (e :: es) t) (hdb : (x == ("__debug__" : Str)) = false := by decide) (he : starEach (e :: es) X.env = (false, eval e X.env) :: starEach es X.env := by rfl) (hpl : (backTo pos (starEach es X.env)).any (·.1) = false := by rfl) :
    PE X (.Call (.Name x p) (e :: es) [] pos) (tCall sp dvs E t) := by
  intro pins s σ H Q I h
  refine wpAny_Call_Name_kw (ld_glob I hg hm ?_ hdb)
  refine PySem.W.callWith_K (h₀ := X.base) I.ok.mod.kin hk (thn (ha pos pins s σ H _ I h) fun us s1 ⟨vs, H1, I1, r, q⟩ => ⟨I1.kIn, ?_⟩) he hpl
  exact run_fn F hr hb hd hx I1 r q
/-- o.m(e, ..) -/
theorem pe_meth {pl : Sem Bool} (he : PE X o ta) (c : Cls X.K C) (hm : Meth X.K C m f) (F : FnOk X.prog X.w X.K X.mg X.base CX k f fd ps sp) (hr : Room k X.A) (hb : Binds X.K fd ps ds) (hd : Vals dvs ds) (hx : Passes CX X E) (ha : PA X (e :: es) t)
    (hst : starEach (e :: es) X.env = (false, eval e X.env) :: starEach es X.env := by rfl) (hpl : (backTo pos (starEach es X.env)).any (·.1) = false := by rfl)
    (ht : eval (.Call (.Attribute o m apos) (e :: es) [] pos) X.env = (do
      let ov ← eval o X.env
      standAt apos.atName
      let (f, first) ← holding [ov] (getMethod ov m pl)
      callWith pos f first (backTo pos (starEach (e :: es) X.env)) (backToKw pos (keywordEach [] X.env))) := by rfl) :
    PE X (.Call (.Attribute o m apos) (e :: es) [] pos) (tMeth C m sp dvs E ta t) := by
  intro pins s σ H Q I h
  refine PySem.W.methodCall_KW (pl := pl) (thn (he pins s σ H _ I h) fun u s1 ⟨x, H1, I1, rx, a, dx, fs, ex, ea, l, q⟩ => ?_) ht
  subst ex
  obtain rfl : u = Value.ref a := rx
  refine getmeth_ok I1 ea c hm l ?_
  refine PySem.W.callWith_K (first := [.ref a]) (h₀ := X.base) I.ok.mod.kin hm.kp (thn (ha pos pins s1 σ H1 _ I1 q) fun us s2 ⟨vs, H2, I2, r, q2⟩ => ⟨I2.kIn, ?_⟩) hst hpl
  exact run_fn (us := .ref a :: us) (vs := .ref a :: vs) F hr hb hd hx I2 (.cons rfl r) q2
/-- o.m() -/
theorem pe_meth0 {pl : Sem Bool} (he : PE X o ta) (c : Cls X.K C) (hm : Meth X.K C m f) (F : FnOk X.prog X.w X.K X.mg X.base CX k f fd ps sp) (hr : Room k X.A) (hb : Binds X.K fd ps ds) (hd : Vals dvs ds) (hx : Passes CX X E)
    (ht : eval (.Call (.Attribute o m apos) [] [] pos) X.env = (do
      let ov ← eval o X.env
      standAt apos.atName
      let (f, first) ← holding [ov] (getMethod ov m pl)
      callWith pos f first (backTo pos (starEach [] X.env)) (backToKw pos (keywordEach [] X.env))) := by rfl) :
    PE X (.Call (.Attribute o m apos) [] [] pos) (tMeth C m sp dvs E ta tNil) := by
  intro pins s σ H Q I h
  refine PySem.W.methodCall_KW (pl := pl) (thn (he pins s σ H _ I h) fun u s1 ⟨x, H1, I1, rx, a, dx, fs, ex, ea, l, q⟩ => ?_) ht
  subst ex
  obtain rfl : u = Value.ref a := rx
  refine getmeth_ok I1 ea c hm l ?_
  exact PySem.W.callWith_K0 (first := [.ref a]) I1.kIn hm.kp (run_fn (us := [.ref a]) (vs := [.ref a]) F hr hb hd hx I1 (.cons rfl .nil) q)
/-- what a class must have to be made -/
structure Mk (K : PySem.W.Frag) (C f : Addr) : Prop where
  makes : PySem.W.makesIn K C = true
  init : PySem.W.findIn K (.ref C) "__init__" = some (some (.ref f))
  fn : PySem.W.isFn K (.ref f) = true
  kp : PySem.W.keepIn K (.ref C) = true
theorem run_make {pins : List (Addr × Obj)} {σ : St} {H : Hp} {s : Shared} {Q : VK} {us : List Value} {vs : List V} (M : Mk X.K C f) (F : FnOk X.prog X.w X.K X.mg X.base CX k f fd ps sp) (hr : Room (k + 1) X.A) (hb : Binds X.K fd ps ds) (hd : Vals dvs ds)
    (hx : Passes CX X E) (I : Inv X pins σ H s) (r : Vals vs us)
    (h : ∀ x dx, H x = none → H dx = none → dx ≠ x → sp (.ref x :: (vs ++ dvs)) (upd (upd H dx (.own x)) x (.ins C dx [])) (fun v H2 => v = .non ∧ Q (.ref x) H2) E) :
    wpAny (model X.prog X.w) X.A (call (.ref C) us) (EP X pins σ Q) X.xe s := by
  have hq := h (s.heap.objs.size + 1) s.heap.objs.size (I.hok.fresh (Nat.le_succ _)) (I.hok.fresh (Nat.le_refl _)) (Nat.ne_of_lt (Nat.lt_succ_self _))
  have I2 := Inv.made (C := C) I
  have r2 : Vals (V.ref (s.heap.objs.size + 1) :: (vs ++ dvs)) (Value.ref (s.heap.objs.size + 1) :: (us ++ ds)) := .cons rfl (r.append hd)
  have hl : (Value.ref (s.heap.objs.size + 1) :: us ++ ds).length = ps.length := by
    have e := r2.length
    rw [F.len _ _ _ _ hq] at e
    exact e.symm
  refine wpAny_call (make_map (f := f) I.kIn M.makes M.init (beq_iff_eq.mp M.fn) (codeAny_mono (F.run _ X.stack _ _ ⟨Value.ref (s.heap.objs.size + 1) :: us, []⟩ (Value.ref (s.heap.objs.size + 1) :: (us ++ ds)) _ _ E (hr.make C us [])
    (I2.env0.make C us []) (hb _ (Value.ref (s.heap.objs.size + 1) :: us) I2.kIn hl) r2 hq) fun r s' hq' => ?_))
  cases r with
  | error e => exact hx pins σ _ _ e s' I2 hq'
  | ok fl =>
    cases fl with
    | ret u =>
      obtain ⟨v, H', I3, rv, ev, q3⟩ := I2.after hq'
      subst ev
      exact ⟨rv, ⟨V.ref (s.heap.objs.size + 1), H', I3, rfl, q3⟩⟩
    | next => exact False.elim hq'
    | brk => exact False.elim hq'
    | cont => exact False.elim hq'
theorem pe_make (M : Mk X.K C f) (F : FnOk X.prog X.w X.K X.mg X.base CX k f fd ps sp) (hr : Room (k + 1) X.A) (hg : Gl X x) (hm : X.mg x = some (.ref C)) (hb : Binds X.K fd ps ds) (hd : Vals dvs ds) (hx : Passes CX X E)
    (ha : PA X (e :: es) t) (hdb : (x == ("__debug__" : Str)) = false := by decide) (he : starEach (e :: es) X.env = (false, eval e X.env) :: starEach es X.env := by rfl) (hpl : (backTo pos (starEach es X.env)).any (·.1) = false := by rfl) :
    PE X (.Call (.Name x p) (e :: es) [] pos) (tMake C sp dvs E t) := by
  intro pins s σ H Q I h
  refine wpAny_Call_Name_kw (ld_glob I hg hm ?_ hdb)
  refine PySem.W.callWith_K (h₀ := X.base) I.ok.mod.kin M.kp (thn (ha pos pins s σ H _ I h) fun us s1 ⟨vs, H1, I1, r, q⟩ => ⟨I1.kIn, ?_⟩) he hpl
  exact run_make M F hr hb hd hx I1 r q
theorem pe_make0 (M : Mk X.K C f) (F : FnOk X.prog X.w X.K X.mg X.base CX k f fd ps sp) (hr : Room (k + 1) X.A) (hg : Gl X x) (hm : X.mg x = some (.ref C)) (hb : Binds X.K fd ps ds) (hd : Vals dvs ds) (hx : Passes CX X E)
    (hdb : (x == ("__debug__" : Str)) = false := by decide) : PE X (.Call (.Name x p) [] [] pos) (tMake C sp dvs E tNil) := by
  intro pins s σ H Q I h
  refine wpAny_Call_Name_kw (ld_glob I hg hm ?_ hdb)
  exact PySem.W.callWith_K0 I.kIn M.kp (run_make (us := []) M F hr hb hd hx I .nil h)
end
section
variable {X : Cx} {CX : CXT} {k : Nat} {f C : Addr} {fd : FuncData} {ps ks : List Str} {sp : Sp} {E : XK} {x m : Str} {p pos apos kpos : Pos} {e o : Expr} {es : List Expr} {kws : List Keyword} {te ta : TE} {t tk : TA} {nm : Option Str}
variable {g : List Value → List Value → List Value} {gV : List V → List V → List V}
end
/-- names: the parameters first -/
structure FnScope (N P : List Str) (sc : Scope) : Prop where
  kind : sc.kind = .function
  co : sc.isCoroutine = false
  gen : sc.isGenerator = false
  nd : N.Nodup
  pre : N.take P.length = P
  par : ∀ x ∈ P, sc.names.lookup x = some .local ∨ sc.names.lookup x = some .cell
  nofree : ∀ y ∈ sc.names, y.2 ≠ .free
theorem bindL_out {kindOf : Str → Option NameKind} {x : Str} : ∀ {binds : List (Str × Value)} {m : Str → Option Value}, (∀ v, (x, v) ∉ binds) → bindL kindOf binds m x = m x
  | [], _, _ => rfl
  | (n, v) :: r, m, h => by
    unfold bindL
    rw [bindL_out fun w hw => h w (List.mem_cons_of_mem _ hw)]
    split
    · have : x ≠ n := by rintro rfl; exact h v List.mem_cons_self
      simp [this]
    · rfl
theorem bindC_out {kindOf : Str → Option NameKind} {x : Str} : ∀ {binds : List (Str × Value)} {m : Str → Option Value}, (∀ v, (x, v) ∉ binds) → bindC kindOf binds m x = m x
  | [], _, _ => rfl
  | (n, v) :: r, m, h => by
    unfold bindC
    rw [bindC_out fun w hw => h w (List.mem_cons_of_mem _ hw)]
    split
    · rfl
    · have : x ≠ n := by rintro rfl; exact h v List.mem_cons_self
      simp [this]
theorem bindL_get {kindOf : Str → Option NameKind} {x : Str} {v : Value} : ∀ {P : List Str} {vs : List Value} {i : Nat} {m : Str → Option Value}, P.Nodup → P[i]? = some x → vs[i]? = some v → kindOf x = some .local →
    bindL kindOf (P.zip vs) m x = some v
  | [], _, _, _, _, h, _, _ => by simp at h
  | _ :: _, [], _, _, _, _, h, _ => by simp at h
  | p :: P, w :: vs, 0, m, nd, h1, h2, hk => by
    simp at h1 h2; subst h1; subst h2
    show bindL kindOf ((p, w) :: P.zip vs) m p = _
    unfold bindL
    rw [bindL_out fun v hv => (List.nodup_cons.mp nd).1 (List.of_mem_zip hv).1, if_pos hk]
    simp
  | p :: P, w :: vs, i + 1, m, nd, h1, h2, hk => by
    show bindL kindOf ((p, w) :: P.zip vs) m x = _
    unfold bindL
    exact bindL_get (i := i) (List.nodup_cons.mp nd).2 (by simpa using h1) (by simpa using h2) hk
theorem bindC_get {kindOf : Str → Option NameKind} {x : Str} {v : Value} : ∀ {P : List Str} {vs : List Value} {i : Nat} {m : Str → Option Value}, P.Nodup → P[i]? = some x → vs[i]? = some v → kindOf x ≠ some .local →
    bindC kindOf (P.zip vs) m x = some v
  | [], _, _, _, _, h, _, _ => by simp at h
  | _ :: _, [], _, _, _, _, h, _ => by simp at h
  | p :: P, w :: vs, 0, m, nd, h1, h2, hk => by
    simp at h1 h2; subst h1; subst h2
    show bindC kindOf ((p, w) :: P.zip vs) m p = _
    unfold bindC
    rw [bindC_out fun v hv => (List.nodup_cons.mp nd).1 (List.of_mem_zip hv).1, if_neg hk]
    simp
  | p :: P, w :: vs, i + 1, m, nd, h1, h2, hk => by
    show bindC kindOf ((p, w) :: P.zip vs) m x = _
    unfold bindC
    exact bindC_get (i := i) (List.nodup_cons.mp nd).2 (by simpa using h1) (by simpa using h2) hk
/-- the names' values at the entry -/
def start (N : List Str) (vs : List V) : St := vs.map some ++ List.replicate (N.length - vs.length) none
/-- the context of a def's body, at its entry; an exception leaves the frame, then lies as CX says -/
def cxOf (CX : CXT) (P : Program) (w : World) (K : PySem.W.Frag) (mg : Str → Option Value) (base : Heap) (N : List Str) (qual : Str) (scope : Scope) (f : Addr) (cd : Value) (A : Around) (outer : List Env) (s : Shared) (H : Hp) (E : XK) : Cx where
  prog := P
  w := w
  K := K
  mg := mg
  base := base
  A := A.deeper (envOfC qual scope s.heap.objs.size f cd)
  N := N
  s_0 := s
  H_0 := H
  env := envOfC qual scope s.heap.objs.size f cd
  outer := outer
  stack := envOfC qual scope s.heap.objs.size f cd :: outer
  ex := []
  calm := true
  fn := fun _ => true
  pn := []
  xe := fun e s' => wpAny (model P w) (A.deeper (envOfC qual scope s.heap.objs.size f cd)) (leaving (envOfC qual scope s.heap.objs.size f cd) e) (fun _ s'' => CX outer H s E e s'') (fun e' s'' => CX outer H s E e' s'') s'
theorem cell_has {sc : Scope} {n : Nat} {x : Str} (h : sc.names.lookup x = some .cell) : ∃ c, (cellsFrom n sc.names []).lookup x = some c := by
  have q := PySem.W.cellsFrom_some sc.names n [] (.inl h)
  exact Option.isSome_iff_exists.mp q
theorem inv_start {CX : CXT} {P : Program} {w : World} {K : PySem.W.Frag} {mg : Str → Option Value} {base : Heap} {N ps : List Str} {qual : Str} {scope : Scope} {f : Addr} {cd : Value} {A : Around} {outer : List Env} {s s1 : Shared} {H : Hp} {E : XK} {us : List Value} {vs : List V}
    (S : FnScope N ps scope) (hd : A.handled = none) (e0 : Env0 P w K mg base A outer s H) (hl : vs.length = ps.length) (r : Vals vs us)
    (x : InCallC s s.heap.objs.size (bindL (envOfC qual scope s.heap.objs.size f cd).kindOf (ps.zip us) fun _ => none) (cellsFrom (s.heap.objs.size + 1) scope.names []) (bindC (envOfC qual scope s.heap.objs.size f cd).kindOf (ps.zip us) fun _ => none) s1) :
    Inv (cxOf CX P w K mg base N qual scope f cd A outer s H E) [] (start N vs) H s1 := by
  have hpl : ps.length ≤ N.length := by have := congrArg List.length S.pre; rw [List.length_take] at this; omega
  obtain ⟨h1, tk, rfl, hk⟩ := x.done
  have noA : ∀ b : Addr, b ∉ (cxOf CX P w K mg base N qual scope f cd A outer s H E).ex := fun b z => absurd (show b ∈ ([] : List Addr) from z) (by simp)
  refine ⟨⟨e0.mod, S.kind, rfl, rfl, Nat.le_refl _, fun y z c h1 h2 => ?_, fun y hy => ?_, fun y c _ h => ?_, fun _ => hd, Around.frames_deeper e0.frames, .inr ⟨rfl, rfl⟩, fun b z => absurd z (noA b), e0.bs, e0.bsz, fun b _ _ => noA b, fun b z => absurd z (noA b), e0.funs, e0.frf⟩,
    rfl, e0.bare, Un.kept hk, ⟨_, x.toInCall.ns, fun i y v h1 h2 h3 => ?_⟩, fun y c h => ⟨_, x.cell y c h⟩, e0.hok.fresh (Nat.le_refl _), fun y c h => ?_, fun p hp => absurd (show p ∈ ([] : List (Addr × Obj)) from hp) (by simp), e0.hok.kept hk, ?_⟩
  · exact name_of_addr x.apart (PySem.mem_of_lookup h1) (PySem.mem_of_lookup h2)
  · have hy : scope.names.lookup y = some .cell ∨ scope.names.lookup y = some .free := hy
    rcases hy with hy | hy
    · exact cell_has hy
    · exact absurd rfl (S.nofree _ (PySem.mem_of_lookup hy))
  · exact Nat.le_of_lt (x.above y c (PySem.mem_of_lookup h))
  · have hi : i < vs.length := by
      unfold start at h2
      by_cases hi : i < vs.length
      · exact hi
      · rw [List.getElem?_append_right (by simpa using hi)] at h2
        rw [List.getElem?_replicate] at h2
        split at h2 <;> cases h2
    have ha : vs[i]? = some v := by
      unfold start at h2
      rw [List.getElem?_append_left (by simpa using hi), List.getElem?_map] at h2
      cases e : vs[i]? with
      | none => rw [e] at h2; cases h2
      | some a => rw [e] at h2; cases h2; rfl
    obtain ⟨u, hu, rv⟩ := r.get ha
    have hp : ps[i]? = some y := by
      rw [← S.pre, List.getElem?_take_of_lt (by omega)]; exact h1
    have ndP : ps.Nodup := by rw [← S.pre]; exact S.nd.sublist (List.take_sublist _ _)
    refine ⟨u, rv, ?_⟩
    rcases S.par y (List.mem_of_getElem? hp) with k | k
    · exact .inl ⟨k, bindL_get ndP hp hu k⟩
    · obtain ⟨c, e⟩ := cell_has (n := s.heap.objs.size + 1) k
      refine .inr ⟨.inl k, c, e, ?_⟩
      have q := x.cell y c e
      rw [bindC_get ndP hp hu (by show scope.names.lookup y ≠ _; rw [k]; decide)] at q
      exact q
  · exact e0.hok.fresh (Nat.le_of_lt (x.above y c (PySem.mem_of_lookup h)))
  · unfold start
    show _ = N.length
    rw [List.length_append, List.length_map, List.length_replicate]
    omega
/-- THE RULE: a def (or a method) of the text, by its body. The body's reading t is chosen for each entry; it is run at the parameters' values -/
theorem fn_of {CX : CXT} {P : Program} {w : World} {K : PySem.W.Frag} {mg : Str → Option Value} {base : Heap} {k : Nat} {f : Addr} {name qual : Str} {params : Arguments} {body : List Stmt} {scope : Scope} {dV kV doc pm cdv ct oc : Value} {an od : Option Addr}
    {osl : Array (Option Value)} {N ps : List Str} {sp : Sp} (lk : K.lookup f = some ⟨oc, od, .func (PySem.W.fnOf name qual params body scope dV kV doc pm an cdv ct), osl⟩) (hcd : PySem.W.codeIn K cdv qual = true) (S : FnScope N ps scope)
    (len : ∀ vs H Q E, sp vs H Q E → vs.length = ps.length)
    (hbody : ∀ (A : Around) (outer : List Env) (s : Shared) (H : Hp) (vs : List V) (Q : VK) (E : XK), Room k (A.deeper (envOfC qual scope s.heap.objs.size f cdv)) → sp vs H Q E →
      ∃ t, PSs (cxOf CX P w K mg base N qual scope f cdv A outer s H E) body t ∧ t { nx := fun _ H' => Q .non H', rt := Q } (start N vs) H) :
    FnOk P w K mg base CX (k + 1) f (PySem.W.fnOf name qual params body scope dV kV doc pm an cdv ct) ps sp := by
  refine ⟨len, fun A outer s H args us vs Q E hr e0 hb r hsp => ?_⟩
  have hl := len _ _ _ _ hsp
  have KX : K.In s.heap := e0.mod.kin.keeps fun b o e => (e0.bs b o e).1
  have lim : s.heap.NoLimit := e0.mod.nolimit.keeps fun b o e => (e0.bs b o e).1
  have hkind : ∀ y ∈ ps.zip us, scope.names.lookup y.1 = some .local ∨ (scope.names.lookup y.1 = some .cell ∧ ((cellsFrom (s.heap.objs.size + 1) scope.names []).lookup y.1).isSome = true) := fun ⟨n, v⟩ hy => by
    rcases S.par n (List.of_mem_zip hy).1 with q | q
    · exact .inl q
    · exact .inr ⟨q, PySem.W.cellsFrom_some _ _ _ (.inl q)⟩
  refine codeAny_call_function hr.depth (KX _ _ lk) rfl S.co S.gen rfl (PySem.W.codeRec_of KX hcd) (hb _ _ _ _ ?_)
  refine wpAny_newFunctionEnv_cells S.kind hkind fun env he s1 x => ?_
  subst he
  refine ⟨lim.keeps x.toInCall.keep, codeAny_func ?_⟩
  obtain ⟨t, ht, hq⟩ := hbody A outer s H vs Q E (hr.deeper _) hsp
  have I : Inv (cxOf CX P w K mg base N qual scope f cdv A outer s H E) [] (start N vs) H s1 := inv_start S hr.hd e0 hl r x
  refine wpAny_mono (ht [] s1 (start N vs) H _ I hq) (fun fl s' hs => ?_) fun e s' hs => hs
  have fin : ∀ {σ' : St} {H' : Hp} {v : V} {u : Value}, Inv (cxOf CX P w K mg base N qual scope f cdv A outer s H E) [] σ' H' s' → RelV v u → Q v H' → CE outer P w H s Q u s' :=
    fun {σ' H' v u} J rv q => ⟨v, H', J.os, J.bare, J.base, J.hok, rv, q⟩
  cases fl with
  | ret u =>
    obtain ⟨v, σ', H', J, rv, q⟩ := hs
    exact fin J rv q
  | next =>
    obtain ⟨σ', H', J, q⟩ := hs
    exact fin (v := V.non) (u := Value.none) J rfl q
  | brk =>
    obtain ⟨_, _, _, q⟩ := hs
    exact False.elim q
  | cont =>
    obtain ⟨_, _, _, q⟩ := hs
    exact False.elim q
end L2
namespace L2
open PySem PySem.Spec PyProof.Rows
section
variable {X : Cx} {x : Str} {p pos : Pos} {e : Expr} {es : List Expr} {t : TA} {id T : String} {r : List V → Hp → VK → Prop}
def tCB (r : List V → Hp → VK → Prop) (t : TA) : TE := fun σ H Q => t σ H fun vs H1 => r vs H1 Q
/-- f(e, ..), f a built-in function -/
theorem pe_callB (hc : CallR X (.builtin id) r) (hg : Gl X x) (hm : X.mg x = none) (hv : bootBuiltins x = some (.builtin id)) (ha : PA X (e :: es) t) (hn : x ≠ "__name__" := by decide) (hdb : (x == ("__debug__" : Str)) = false := by decide)
    (he : starEach (e :: es) X.env = (false, eval e X.env) :: starEach es X.env := by rfl) (hpl : (backTo pos (starEach es X.env)).any (·.1) = false := by rfl) : PE X (.Call (.Name x p) (e :: es) [] pos) (tCB r t) := by
  intro pins s σ H Q I h
  refine wpAny_Call_Name_kw (ld_blt I hg hm hv ?_ hn hdb)
  exact PyProof.Rows.callWith_builtin1 (thn (ha pos pins s σ H _ I h) fun us s1 ⟨vs, H1, I1, r1, q1⟩ => hc pins s1 σ H1 vs us Q I1 r1 q1) he hpl
end
end L2
namespace HT
open PySem PyProof.Rows
section
open PySem.SeqAt
open PySem.AutoSeq1 (wpAny_loadPart')
open PySem.MeetsSeq PySem.MeetsSeq2 PySem.MeetsSeq3
end
section
variable {prog : Program} {w : World} {A : Around} {E : Value → Shared → Prop} {s : Shared}
/-- a slice's bound as a place among n (d where it is left out) -/
def sIx (n d : Nat) : Option Int → Nat
  | none => d
  | some v => if v < 0 then (v + (n : Int)).toNat else min v.toNat n
theorem sIx_none (n d : Nat) : sIx n d none = d := rfl
theorem sIx_nat (n d k : Nat) : sIx n d (some (k : Int)) = min k n := by
  show (if (k : Int) < 0 then ((k : Int) + (n : Int)).toNat else min (k : Int).toNat n) = min k n
  rw [if_neg (by omega), Int.toNat_natCast]
end
end HT
namespace L2
open PySem PySem.Spec PyProof.Rows
abbrev TO := St → Hp → (Option Int → Hp → Prop) → Prop
/-- a slice's part (left out, or an int) -/
def PO (X : Cx) (e : Option Expr) (t : TO) : Prop :=
  ∀ (pins : List (Addr × Obj)) (s : Shared) (σ : St) (H : Hp) (Q : Option Int → Hp → Prop), Inv X pins σ H s → t σ H Q →
    wpAny (model X.prog X.w) X.A (evalPart e X.env) (fun u s' => ∃ o H', Inv X pins σ H' s' ∧ IsPart u o ∧ Q o H') X.xe s
def tNoPart : TO := fun _ H Q => Q none H
def tPart (t : TE) : TO := fun σ H Q => t σ H fun x H1 => ∃ i, x = .int i ∧ Q (some i) H1
section
variable {X : Cx} {e : Expr} {te : TE} {lo hi : Option Expr} {tl th : TO} {pos p2 : Pos}
theorem po_none : PO X none tNoPart := by
  intro pins s σ H Q I h
  rw [evalPart_none]
  exact wpAny_pure ⟨none, H, I, .none, h⟩
theorem po_some (h : PE X e te) : PO X (some e) (tPart te) := by
  intro pins s σ H Q I hw
  rw [evalPart_some]
  refine thn (h pins s σ H _ I hw) fun u s1 ⟨x, H1, I1, r1, q1⟩ => ?_
  obtain ⟨i, rfl, q⟩ := q1
  obtain ⟨t, rfl⟩ := r1
  exact ⟨some i, H1, I1, .int i t, q⟩
/-- what a slice of a value is, by values: the slice object stands at sl -/
def SlR (X : Cx) (r : V → Option Int → Option Int → Hp → VK → Prop) : Prop :=
  ∀ (pins : List (Addr × Obj)) (s : Shared) (σ : St) (H : Hp) (x : V) (v vl vu : Value) (lo hi : Option Int) (sl : Addr) (Q : VK), Inv X pins σ H s → RelV x v → s.heap.IsSliceOf sl vl vu .none → IsPart vl lo → IsPart vu hi → r x lo hi H Q →
    ∃ T id, typeLookup (.type T) "__getitem__" = pure (some (.builtin id)) ∧ s.TypeIs v T ∧ wpAny (model X.prog X.w) X.A (getItem v (.ref sl)) (EP X pins σ Q) X.xe s
def tSl (r : V → Option Int → Option Int → Hp → VK → Prop) (te : TE) (tl th : TO) : TE := fun σ H Q => te σ H fun x H1 => tl σ H1 fun l H2 => th σ H2 fun u H3 => r x l u H3 Q
/-- a[lo:hi], any a -/
theorem pe_slice {r : V → Option Int → Option Int → Hp → VK → Prop} (hr : SlR X r) (he : PE X e te) (hl : PO X lo tl) (hu : PO X hi th) : PE X (.Subscript e (.Slice lo hi none p2) pos) (tSl r te tl th) := by
  intro pins s σ H Q I h
  refine Subscript_ (thn (he pins s σ H _ I h) fun v s1 ⟨x, H1, I1, r1, q1⟩ => ?_)
  refine wpAny_Slice (thn (hl pins s1 σ H1 _ I1 q1) fun vl s2 ⟨l, H2, I2, pl, q2⟩ => thn (hu pins s2 σ H2 _ I2 q2) fun vu s3 ⟨u, H3, I3, pu, q3⟩ => ?_)
  rw [evalPart_none]
  refine wpAny_pure ?_
  have I4 : Inv X pins σ H3 { s3 with heap := s3.heap.push { cls := .type "slice", data := .fields #[vl, vu, .none] } } := I3.kept (t' := s3.toks) fun b ob q => Heap.get?_push_of_some _ q
  obtain ⟨T, id, hT, ht, hg⟩ := hr pins { s3 with heap := s3.heap.push { cls := .type "slice", data := .fields #[vl, vu, .none] } } σ H3 x v vl vu l u s3.heap.objs.size Q I4 r1 (Heap.IsSliceOf.new ..) pl pu q3
  show wpAny (model X.prog X.w) X.A (subscriptTail e (.Slice lo hi none p2) v (.ref s3.heap.objs.size)) (EP X pins σ Q) X.xe { s3 with heap := s3.heap.push { cls := .type "slice", data := .fields #[vl, vu, .none] } }
  exact tail_any (ops := [.ref s3.heap.objs.size, v]) ht hT hg (by with_unfolding_all rfl)
/-- the items of xs[lo:hi] -/
def cutV (xs : List V) (lo hi : Option Int) : List V := (xs.drop (HT.sIx xs.length 0 lo)).take (HT.sIx xs.length xs.length hi - HT.sIx xs.length 0 lo)
theorem cutV_length (xs : List V) (lo hi : Option Int) : (cutV xs lo hi).length ≤ xs.length := by
  unfold cutV
  rw [List.length_take, List.length_drop]
  omega
end
end L2
namespace L2
open PySem PySem.Spec PyProof.Rows
/-- the place that an index of any sign means -/
def ixN (n : Nat) (i : Int) : Option Nat := if 0 ≤ i then (if i < n then some i.toNat else none) else if -(n : Int) ≤ i then some (i + n).toNat else none
def atI {α : Type} (xs : List α) (i : Int) : Option α := (ixN xs.length i).bind fun j => xs[j]?
theorem ixN_seq {n : Nat} {i : Int} {j : Nat} (h : ixN n i = some j) : seqIndex? i n = some j ∧ j < n ∧ -(n : Int) ≤ i ∧ i < n := by
  unfold ixN at h
  by_cases h0 : 0 ≤ i
  · rw [if_pos h0] at h
    by_cases h1 : i < n
    · rw [if_pos h1] at h
      have e : i.toNat = j := Option.some.inj h
      exact ⟨by rw [seqIndex_of h0 h1, e], by omega, by omega, h1⟩
    · rw [if_neg h1] at h; cases h
  · rw [if_neg h0] at h
    by_cases h1 : -(n : Int) ≤ i
    · rw [if_pos h1] at h
      have e : (i + n).toNat = j := Option.some.inj h
      exact ⟨by rw [seqIndex_neg (by omega) h1, e], by omega, h1, by omega⟩
    · rw [if_neg h1] at h; cases h
theorem atI_get {α : Type} {xs : List α} {i : Int} {v : α} (h : atI xs i = some v) : ∃ j, seqIndex? i xs.length = some j ∧ xs[j]? = some v ∧ j < xs.length ∧ -(xs.length : Int) ≤ i ∧ i < xs.length := by
  unfold atI at h
  cases e : ixN xs.length i with
  | none => rw [e] at h; cases h
  | some j =>
    rw [e] at h
    obtain ⟨h1, h2, h3, h4⟩ := ixN_seq e
    exact ⟨j, h1, h, h2, h3, h4⟩
theorem atI_nat {α : Type} {xs : List α} {j : Nat} {v : α} (h : xs[j]? = some v) : atI xs (j : Int) = some v := by
  have hj : j < xs.length := (List.getElem?_eq_some_iff.mp h).1
  have e : ixN xs.length (j : Int) = some j := by
    unfold ixN
    rw [if_pos (by omega), if_pos (by omega)]; simp
  unfold atI; rw [e]; exact h
/-- what stands as an index of a plain subscript -/
def PlainIx (b : Expr) : Prop := ∀ o i, subscripted b false o i = operate [o, i] (getItem o i)
/-- a subscript by values -/
def IxR (X : Cx) (r : R2) : Prop :=
  ∀ (value slice : Expr) (pins : List (Addr × Obj)) (s : Shared) (σ : St) (H : Hp) (x y : V) (v u : Value) (Q : VK), Inv X pins σ H s → RelV x v → RelV y u → r x y H Q →
    subscripted slice false v u = operate [v, u] (getItem v u) → wpAny (model X.prog X.w) X.A (subscriptTail value slice v u) (EP X pins σ Q) X.xe s
/-- a call of a builtin's method by values: the receiver, the arguments -/
def MtR (X : Cx) (id : String) (r : V → List V → Hp → VK → Prop) : Prop :=
  ∀ (pins : List (Addr × Obj)) (s : Shared) (σ : St) (H : Hp) (x : V) (xs : List V) (v : Value) (us : List Value) (Q : VK), Inv X pins σ H s → RelV x v → Vals xs us → r x xs H Q →
    wpAny (model X.prog X.w) X.A (call (.builtin id) (v :: us)) (EP X pins σ Q) X.xe s
section
variable {X : Cx} {a b : Expr} {ta tb : TE} {pos : Pos}
/-- a[b] -/
theorem pe_ix {r : R2} (hr : IxR X r) (ha : PE X a ta) (hb : PE X b tb) (hs : PlainIx b) : PE X (.Subscript a b pos) (tOp r ta tb) := by
  intro pins s σ H Q I h
  exact Subscript_ (binT ha hb I h fun v u s2 x y H2 I2 rx ry q => hr a b pins s2 σ H2 x y v u Q I2 rx ry q (hs _ _))
def rIxL (K : PySem.W.Frag) : R2 := fun x y H Q => ∃ p xs i v, x = .ref p ∧ y = .int i ∧ SqL K H p xs ∧ atI xs i = some v ∧ Q v H
def rIxT (K : PySem.W.Frag) : R2 := fun x y H Q => ∃ p xs i v, x = .ref p ∧ y = .int i ∧ SqT K H p xs ∧ atI xs i = some v ∧ Q v H
theorem ix_list : IxR X (rIxL X.K) := by
  intro value slice pins s σ H x y v u Q I rx ry h hs
  obtain ⟨p, xs, i, z, rfl, rfl, hq, he, q⟩ := h
  cases rx
  obtain ⟨t, rfl⟩ := ry
  obtain ⟨its, r, pl, hz⟩ := I.list hq
  obtain ⟨j, h1, h2, h3, h4, h5⟩ := atI_get he
  obtain ⟨w, ew, rw'⟩ := r.get h2
  have hl := r.length
  have hn := line63
  have fin : EP X pins σ Q w s := ⟨z, H, I, rw', q⟩
  by_cases h0 : 0 ≤ i
  · have hj : i.toNat = j := by
      rw [seqIndex_of h0 h5] at h1
      exact Option.some.inj h1
    exact item_listR pl.isList h0 (by omega) (by rw [hj]; simpa using ew) fin hs
  · have hj : (i + (its.toArray.size : Int)).toNat = j := by
      rw [seqIndex_neg (by omega) h4] at h1
      rw [List.size_toArray, ← hl]
      exact Option.some.inj h1
    exact subscriptTail_builtinR (x := w) pl.isList.typeIs slot_list_getitem.lookup
      (wpAny_getItem_list_neg (Q := fun r s' => r = w ∧ EP X pins σ Q r s') pl.isList (by omega) (by rw [List.size_toArray] <;> omega) (by omega) (by rw [hj]; simpa using ew) ⟨rfl, fin⟩) hs
theorem ix_tup : IxR X (rIxT X.K) := by
  intro value slice pins s σ H x y v u Q I rx ry h hs
  obtain ⟨p, xs, i, z, rfl, rfl, hq, he, q⟩ := h
  cases rx
  obtain ⟨t, rfl⟩ := ry
  obtain ⟨its, r, pl, hz⟩ := I.tuple hq
  obtain ⟨j, h1, h2, h3, h4, h5⟩ := atI_get he
  obtain ⟨w, ew, rw'⟩ := r.get h2
  have hl := r.length
  have hn := line63
  have fin : EP X pins σ Q w s := ⟨z, H, I, rw', q⟩
  exact subscriptTail_builtinR (x := w) pl.typeIs slot_tuple_getitem.lookup
    (getItem_tuple (j := j) (Q := fun r s' => r = w ∧ EP X pins σ Q r s') pl (by omega) (by omega) (by rw [List.size_toArray, ← hl]; exact h1) (by simpa using ew) ⟨rfl, fin⟩) hs
theorem slice_bounds (lo hi : Option Int) (n : Nat) : (sliceBounds lo hi none n).1 = ((HT.sIx n 0 lo : Nat) : Int) ∧ (sliceBounds lo hi none n).2.1 = ((HT.sIx n n hi : Nat) : Int) ∧ (sliceBounds lo hi none n).2.2 = 1 := by
  refine ⟨?_, ?_, rfl⟩
  · cases lo with
    | none => simp [sliceBounds, HT.sIx]
    | some i =>
      simp only [sliceBounds, HT.sIx, Option.getD_none, show (1 : Int) > 0 by decide, if_true]
      by_cases h : i < 0
      · simp only [h, if_true] <;> omega
      · simp only [h, if_false] <;> omega
  · cases hi with
    | none => simp [sliceBounds, HT.sIx]
    | some i =>
      simp only [sliceBounds, HT.sIx, Option.getD_none, show (1 : Int) > 0 by decide, if_true]
      by_cases h : i < 0
      · simp only [h, if_true] <;> omega
      · simp only [h, if_false] <;> omega
theorem slicePick_cut (its : List Value) (lo hi : Option Int) : slicePick its.toArray lo hi none = ((its.drop (HT.sIx its.length 0 lo)).take (HT.sIx its.length its.length hi - HT.sIx its.length 0 lo)).toArray := by
  obtain ⟨h1, h2, h3⟩ := slice_bounds lo hi its.toArray.size
  unfold slicePick
  rw [h1, h2, h3]
  simp only [sliceRange_one, pick_run, List.size_toArray] <;> rfl
/-- xs[lo:hi] of a list: a new list -/
def rSlL (K : PySem.W.Frag) : V → Option Int → Option Int → Hp → VK → Prop := fun x lo hi H Q => ∃ a xs, x = .ref a ∧ SqL K H a xs ∧ ∀ p, H p = none → Q (.ref p) (upd H p (.lst (cutV xs lo hi)))
theorem sl_list : SlR X (rSlL X.K) := by
  intro pins s σ H x v vl vu lo hi sl Q I rx hs pl pu h
  obtain ⟨a, xs, rfl, hx, q⟩ := h
  cases rx
  obtain ⟨its, r, ht, hz⟩ := I.list hx
  have hlen := r.length
  refine ⟨"list", _, slot_list_getitem.lookup, ht.isList.typeIs, ?_⟩
  refine wpAny_getItem_list_slice ht.isList hs pl pu .none (by simp) ?_ (by rw [List.size_toArray] <;> omega)
  rw [slicePick_cut, ← hlen]
  refine ⟨.ref s.heap.objs.size, _, I.laid (t' := s.toks) (o := .lst (cutV xs lo hi)) (fun b ob q => Heap.get?_push_of_some _ q) (Nat.le_refl _) ?_, rfl, q _ (I.hok.fresh (Nat.le_refl _))⟩
  exact ⟨Nat.le_trans (cutV_length xs lo hi) hz, _, 0, (r.drop (HT.sIx xs.length 0 lo)).take (HT.sIx xs.length xs.length hi - HT.sIx xs.length 0 lo), Heap.get?_push_size _ rfl⟩
theorem call_len_seq : CallR X (.builtin "len") (fun xs H Q => ∃ p ys, xs = [.ref p] ∧ (SqL X.K H p ys ∨ SqT X.K H p ys) ∧ Q (.int ys.length) H) := by
  intro pins s σ H xs us Q I r h
  obtain ⟨p, ys, rfl, hq, q⟩ := h
  obtain ⟨u, rfl, rx⟩ := vals1 r
  cases rx
  have hn := line63
  rcases hq with hq | hq
  · obtain ⟨its, r', pl, hz⟩ := I.list hq
    have hlen := r'.length
    exact Calls.call_len_list pl.isList (by simp only [List.size_toArray] <;> omega) ⟨.int ys.length, H, I.tok _, ⟨s.toks + 1, by rw [List.size_toArray, hlen]⟩, q⟩
  · obtain ⟨its, r', pl, hz⟩ := I.tuple hq
    have hlen := r'.length
    exact len_tuple pl (by simp only [List.size_toArray] <;> omega) ⟨.int ys.length, H, I.tok _, ⟨s.toks + 1, by rw [List.size_toArray, hlen]⟩, q⟩
/-- the value is of that builtin type -/
def tyV (K : PySem.W.Frag) (T : String) (x : V) (H : Hp) : Prop := match x with
  | .str _ => T = "str"
  | .int _ => T = "int"
  | .ref p => (T = "list" ∧ ∃ xs, SqL K H p xs) ∨ (T = "tuple" ∧ ∃ o, K.lookup p = some o ∧ o.cls = .type "tuple" ∧ o.dict = none) ∨
      (T = "dict" ∧ ((∃ kvs, H p = some (.dK kvs)) ∨ ∃ kvs, H p = some (.dT kvs))) ∨ (T = "set" ∧ ∃ S n, H p = some (.set S n))
  | _ => False
theorem tyV_is {pins : List (Addr × Obj)} {σ : St} {H : Hp} {s : Shared} {T : String} {x : V} {v : Value} (I : Inv X pins σ H s) (r : RelV x v) (ty : tyV X.K T x H) :
    s.TypeIs v T ∧ ∀ a, v = .ref a → ∃ ob, s.heap.get? a = some ob ∧ ob.dict = none := by
  cases x with
  | str z =>
    obtain ⟨t, rfl⟩ := r
    cases (show T = "str" from ty)
    exact ⟨typeIs_str s z t, fun _ e => nomatch e⟩
  | int i =>
    obtain ⟨t, rfl⟩ := r
    cases (show T = "int" from ty)
    exact ⟨typeIs_int s i t, fun _ e => nomatch e⟩
  | ref p =>
    cases r
    rcases ty with ⟨rfl, xs, hq⟩ | ⟨rfl, o, hk, hc, hd⟩ | ⟨rfl, hk⟩ | ⟨rfl, S, n, hk⟩
    · obtain ⟨its, _, pl, _⟩ := I.list hq
      refine ⟨pl.isList.typeIs, fun a e => ?_⟩
      cases e
      obtain ⟨o, n, e, c, hd, _⟩ := pl
      exact ⟨o, e, hd⟩
    · refine ⟨⟨o, I.kIn p o hk, hc⟩, fun a e => ?_⟩
      cases e
      exact ⟨o, I.kIn _ o hk, hd⟩
    · have z : ∃ o, s.heap.get? p = some o ∧ o.ExactDict := by
        rcases hk with ⟨kvs, hk⟩ | ⟨kvs, hk⟩
        · obtain ⟨_, _, _, _, o, _, _, e, ex, _⟩ := I.hok p _ hk
          exact ⟨o, e, ex⟩
        · obtain ⟨_, _, _, _, o, _, _, e, ex, _⟩ := I.hok p _ hk
          exact ⟨o, e, ex⟩
      obtain ⟨o, e, ex⟩ := z
      refine ⟨⟨o, e, ex.1⟩, fun a e2 => ?_⟩
      cases e2
      exact ⟨o, e, ex.2.1⟩
    · obtain ⟨o, _, _, _, e, ex, _⟩ := I.hok p _ hk
      refine ⟨⟨o, e, ex.1⟩, fun a e2 => ?_⟩
      cases e2
      exact ⟨o, e, ex.2.1⟩
  | _ => exact False.elim ty
def tBM (K : PySem.W.Frag) (T : String) (r : V → List V → Hp → VK → Prop) (to : TE) (t : TA) : TE := fun σ H Q => to σ H fun x H1 => tyV K T x H1 ∧ t σ H1 fun xs H2 => r x xs H2 Q
variable {o e : Expr} {es : List Expr} {to : TE} {t : TA} {name : Str} {apos cpos : Pos} {T id : String} {r : V → List V → Hp → VK → Prop}
theorem pe_bm (pa : PlainAttrs T) (slot : Slot T name id) (hty : typeOf (.builtin id) = pure (.type "method_descriptor")) (hm : MtR X id r) (ho : PE X o to) (ha : PA X (e :: es) t)
    (hbase : attributeBase o name X.env (eval o X.env) = eval o X.env := by rfl)
    (hfew : ((backTo cpos (starEach (e :: es) X.env)).all (fun x => !x.1) && (backToKw cpos (keywordEach [] X.env)).all (fun x => x.1.isSome)
      && decide ((e :: es).length + ([] : List Keyword).length + (if ([] : List Keyword).isEmpty then 0 else 1) < 30)) = true := by rfl)
    (hline : (apos.endLine == cpos.line) = true := by rfl) (hs : starEach (e :: es) X.env = (false, eval e X.env) :: starEach es X.env := by rfl) (hplain : (backTo cpos (starEach es X.env)).any (·.1) = false := by rfl) :
    PE X (.Call (.Attribute o name apos) (e :: es) [] cpos) (tBM X.K T r to t) := by
  intro pins s σ H Q I h
  refine wpAny_Call_method_late hbase hfew hline rfl (thn (ho pins s σ H _ I h) fun v s1 ⟨x, H1, I1, r1, ty, q1⟩ => ?_)
  obtain ⟨h1, h2⟩ := tyV_is I1 r1 ty
  refine ⟨T, id, pa, slot, hty, h1, h2, ?_⟩
  have hA := ha cpos pins s1 σ H1 _ I1 q1
  rw [hs] at hA ⊢
  refine Calls.callWith_builtin (by show (false || (backTo cpos (starEach es X.env)).any (·.1)) = false; rw [hplain] <;> rfl) (Calls.evalArgs_plain ?_)
  exact thn hA fun us s2 ⟨vs, H2, I2, r2, q2⟩ => hm pins s2 σ H2 x vs v us Q I2 r1 r2 q2
end
end L2
namespace L2
open PySem PySem.Spec PyProof.Rows
def MtM (X : Cx) (id : String) (r : V → List V → Hp → VK → Prop) : Prop :=
  ∀ (pins : List (Addr × Obj)) (s : Shared) (σ : St) (H : Hp) (x : V) (xs : List V) (v : Value) (us : List Value) (Q : VK), Inv X pins σ H s → RelV x v → Vals xs us → r x xs H Q →
    wpAny (model X.prog X.w) X.A (call (.builtin id) (v :: us)) (EP X pins σ Q) X.xe s
theorem Vals.one : ∀ {x : V} {us : List Value}, Vals [x] us → ∃ u, us = [u] ∧ RelV x u
  | _, _, .cons r .nil => ⟨_, rfl, r⟩
section
variable {X : Cx} {pins : List (Addr × Obj)} {σ : St} {H : Hp} {s : Shared} {l b : Addr} {xs ys zs : List V}
theorem Inv.lset {its its' : List Value} {n : Nat} {f : Array Value → Array Value} {t' : Nat} (I : Inv X pins σ H s) (hH : H l = some (.lst xs))
    (e : s.heap.get? l = some { cls := .type "list", data := .seq its.toArray n }) (hf : f its.toArray = its'.toArray) (hv : Vals ys its') (hz : ys.length ≤ sizeLine) :
    Inv X pins σ (upd H l (.lst ys)) { s with heap := s.heap.update l (Obj.mapSeq f), toks := t' } := by
  have q := PySem.IsL.update e f
  rw [hf] at q
  refine I.write (x := l) (e := l) (by rw [hH]; exact trivial) (.inl rfl) (fun b' u hb hu => (Heap.get?_update_other s.heap (Obj.mapSeq f) (Ne.symm hb)).trans hu) ⟨_, q⟩ ?_
  exact ⟨hz, its', _, hv, q⟩
theorem Inv.lnew {its : List Value} {t' : Nat} (I : Inv X pins σ H s) (hv : Vals ys its) (hz : ys.length ≤ sizeLine) :
    Inv X pins σ (upd H s.heap.objs.size (.lst ys)) { s with heap := s.heap.push { cls := .type "list", data := .seq its.toArray }, toks := t' } :=
  I.laid (fun _ _ q => Heap.get?_push_of_some _ q) (Nat.le_refl _) ⟨hz, its, 0, hv, Heap.get?_push_size _ rfl⟩
theorem Inv.fresh (I : Inv X pins σ H s) : H s.heap.objs.size = none := I.hok.fresh (Nat.le_refl _)
theorem Inv.lstM (I : Inv X pins σ H s) (hH : H l = some (.lst xs)) : xs.length ≤ sizeLine ∧ ∃ (its : List Value) (n : Nat), Vals xs its ∧ xs.length = its.length ∧ s.heap.get? l = some { cls := .type "list", data := .seq its.toArray n } := by
  obtain ⟨z, its, n, r, e⟩ := I.hok l _ hH
  exact ⟨z, its, n, r, r.length, e⟩
theorem notLongL {n : Nat} (h : n ≤ sizeLine) : Builtin.List.listTooLong n = false := by
  unfold Builtin.List.listTooLong
  exact decide_eq_false (by omega)
end
section
variable {X : Cx}
def rAppend : V → List V → Hp → VK → Prop := fun x vs H Q => ∃ l xs y, x = .ref l ∧ vs = [y] ∧ H l = some (.lst xs) ∧ xs.length < sizeLine ∧ Q .non (upd H l (.lst (xs ++ [y])))
theorem mt_append : MtM X "list.append" rAppend := by
  intro pins s σ H x vs v us Q I rx rv h
  obtain ⟨l, xs, y, rfl, rfl, hH, hz, q⟩ := h
  cases rx
  obtain ⟨u, rfl, ru⟩ := rv.one
  obtain ⟨z, its, n, r, hl, e⟩ := I.lstM hH
  refine call_meets F.slot_list_append ⟨_, e, rfl⟩ F.entry_list_append (F.args_list_append_2 _ _) (PySem.list_append l its.toArray n u (by rw [List.size_toArray]; omega)) ⟨e, ?_⟩
  refine ⟨.non, _, I.lset (its' := its ++ [u]) hH e (by simp) (r.append (.cons ru .nil)) ?_, rfl, q⟩
  rw [List.length_append, List.length_singleton]
  omega
def rExtend : V → List V → Hp → VK → Prop := fun x vs H Q => ∃ l b xs zs, x = .ref l ∧ vs = [.ref b] ∧ H l = some (.lst xs) ∧ H b = some (.lst zs) ∧ xs.length + zs.length ≤ sizeLine ∧ Q .non (upd H l (.lst (xs ++ zs)))
theorem mt_extend : MtM X "list.extend" rExtend := by
  intro pins s σ H x vs v us Q I rx rv h
  obtain ⟨l, b, xs, zs, rfl, rfl, hH, hB, hz, q⟩ := h
  cases rx
  obtain ⟨u, rfl, ru⟩ := rv.one
  cases ru
  obtain ⟨z, its, n, r, hl, e⟩ := I.lstM hH
  obtain ⟨z2, its2, n2, r2, hl2, e2⟩ := I.lstM hB
  have hsz : its.toArray.size + its2.toArray.size ≤ sizeLine := by rw [List.size_toArray, List.size_toArray]; omega
  have hlong : ¬ (!its.toArray.isEmpty && Builtin.List.listTooLong (its.toArray.size + its2.toArray.size)) = true := by
    rw [notLongL hsz, Bool.and_false]
    exact Bool.false_ne_true
  refine call_meets F.slot_list_extend ⟨_, e, rfl⟩ F.entry_list_extend (F.args_list_extend_2 _ _)
    (AutoSeq1.list_extend_list_list_0 l its.toArray n b its2.toArray n2 hlong (by rw [List.size_toArray]; omega) (by omega)) ⟨e, e2, ?_⟩
  refine ⟨.non, _, I.lset (its' := its ++ its2) hH e (by simp) (r.append r2) ?_, rfl, q⟩
  rw [List.length_append]
  omega
def rCat : R2 := fun x y H Q => ∃ l b xs zs, x = .ref l ∧ y = .ref b ∧ H l = some (.lst xs) ∧ H b = some (.lst zs) ∧ xs.length + zs.length ≤ sizeLine ∧ ∀ p, H p = none → Q (.ref p) (upd H p (.lst (xs ++ zs)))
theorem op_cat : OpR X (binaryOp .Add) rCat := by
  intro pins s σ H x y v u Q I rx ry h
  obtain ⟨l, b, xs, zs, rfl, rfl, hH, hB, hz, q⟩ := h
  cases rx
  cases ry
  obtain ⟨z, its, n, r, hl, e⟩ := I.lstM hH
  obtain ⟨z2, its2, n2, r2, hl2, e2⟩ := I.lstM hB
  refine PySem.P.add_list e e2 ?_ (by rw [List.size_toArray, List.size_toArray]; omega)
  have ea : its.toArray ++ its2.toArray = (its ++ its2).toArray := by simp
  rw [ea]
  exact ⟨.ref _, _, I.lnew (t' := s.toks) (r.append r2) (by rw [List.length_append]; omega), rfl, q _ I.fresh⟩
end
section
variable {prog : Program} {w : World} {A : Around} {E : Value → Shared → Prop} {s : Shared}
set_option maxRecDepth 100000 in
end
section
variable {X : Cx}
end
end L2
namespace L2
open PySem PySem.Spec PyProof.Rows
theorem Vals.ints : ∀ {ns : List Int} {us : List Value}, Vals (ns.map V.int) us → IntsAre us ns
  | [], us, h => by
    rw [List.map_nil] at h
    cases h
    exact IntsAre.nil
  | n :: ns, us, h => by
    rw [List.map_cons] at h
    cases h with
    | cons r t =>
      obtain ⟨k, rfl⟩ := r
      exact IntsAre.cons n k (Vals.ints t)
theorem Vals.ref1 {a : Addr} {us : List Value} (r : Vals [V.ref a] us) : us = [Value.ref a] := by
  cases r with
  | cons r t =>
    cases t
    cases r
    rfl
section
variable {prog : Program} {w : World} {A : Around} {E : Value → Shared → Prop} {s : Shared} {l : Addr} {its : List Value} {ns : List Int} {Q : Value → Shared → Prop}
theorem max_raw (hh : A.handled = none) (hl : s.heap.IsList l its.toArray) (hi : IntsAre its ns) (hne : 0 < ns.length)
    (h : ∀ h' tk M t', (∀ b o, s.heap.get? b = some o → h'.get? b = some o) → M ∈ ns → (∀ a, a ∈ ns → a ≤ M) → Q (.int M t') { s with heap := h', toks := tk }) : wpAny (model prog w) A (call (.builtin "max") [.ref l]) Q E s := by
  obtain ⟨xs, e⟩ := hi.allInts.items
  have hn : numsOf (intItems xs).toList = ns := by rw [← e]; exact hi.numsOf
  rw [nums_intItems] at hn
  subst hn
  rw [e] at hl
  have hsz : 0 < xs.size := by simpa using hne
  refine PySem.max_intList hh hl hsz fun v h' tk hv hk => ?_
  obtain ⟨t, rfl⟩ := intItems_at hv
  obtain ⟨h1, h2⟩ := argBest_gt (numAt xs) (xs.size - 1)
  refine h h' tk _ t hk ?_ fun a ha => ?_
  · rw [numAt_eq]; exact PySem.getD_mem (by rw [List.length_map, Array.length_toList]; omega)
  · obtain ⟨j, hj, rfl⟩ := mem_getD ha
    rw [List.length_map, Array.length_toList] at hj
    rw [← numAt_eq]; exact h2 j (by omega)
theorem min_raw (hh : A.handled = none) (hl : s.heap.IsList l its.toArray) (hi : IntsAre its ns) (hne : 0 < ns.length)
    (h : ∀ h' tk M t', (∀ b o, s.heap.get? b = some o → h'.get? b = some o) → M ∈ ns → (∀ a, a ∈ ns → M ≤ a) → Q (.int M t') { s with heap := h', toks := tk }) : wpAny (model prog w) A (call (.builtin "min") [.ref l]) Q E s := by
  obtain ⟨xs, e⟩ := hi.allInts.items
  have hn : numsOf (intItems xs).toList = ns := by rw [← e]; exact hi.numsOf
  rw [nums_intItems] at hn
  subst hn
  rw [e] at hl
  have hsz : 0 < xs.size := by simpa using hne
  refine PySem.min_intList hh hl hsz fun v h' tk hv hk => ?_
  obtain ⟨t, rfl⟩ := intItems_at hv
  obtain ⟨h1, h2⟩ := argBest_lt (numAt xs) (xs.size - 1)
  refine h h' tk _ t hk ?_ fun a ha => ?_
  · rw [numAt_eq]; exact PySem.getD_mem (by rw [List.length_map, Array.length_toList]; omega)
  · obtain ⟨j, hj, rfl⟩ := mem_getD ha
    rw [List.length_map, Array.length_toList] at hj
    rw [← numAt_eq]; exact h2 j (by omega)
end
section
variable {X : Cx}
/-- max(xs), min(xs) of a list of ints -/
def rMax (K : PySem.W.Frag) : List V → Hp → VK → Prop := fun vs H Q => ∃ (a : Addr) (ns : List Int), vs = [V.ref a] ∧ SqL K H a (ns.map V.int) ∧ 0 < ns.length ∧ ∀ m, m ∈ ns → (∀ y, y ∈ ns → y ≤ m) → Q (.int m) H
def rMin (K : PySem.W.Frag) : List V → Hp → VK → Prop := fun vs H Q => ∃ (a : Addr) (ns : List Int), vs = [V.ref a] ∧ SqL K H a (ns.map V.int) ∧ 0 < ns.length ∧ ∀ m, m ∈ ns → (∀ y, y ∈ ns → m ≤ y) → Q (.int m) H
theorem cr_max (hc : X.calm = true) : CallR X (.builtin "max") (rMax X.K) := by
  intro pins s σ H vs us Q I r h
  obtain ⟨a, ns, rfl, hs, hne, q⟩ := h
  obtain ⟨its, rv, hl, _⟩ := I.list hs
  rw [Vals.ref1 r]
  exact max_raw (I.ok.hd hc) hl.isList rv.ints hne fun h' tk m t' hk h1 h2 => ⟨.int _, H, I.kept hk, ⟨_, rfl⟩, q m h1 h2⟩
theorem cr_min (hc : X.calm = true) : CallR X (.builtin "min") (rMin X.K) := by
  intro pins s σ H vs us Q I r h
  obtain ⟨a, ns, rfl, hs, hne, q⟩ := h
  obtain ⟨its, rv, hl, _⟩ := I.list hs
  rw [Vals.ref1 r]
  exact min_raw (I.ok.hd hc) hl.isList rv.ints hne fun h' tk m t' hk h1 h2 => ⟨.int _, H, I.kept hk, ⟨_, rfl⟩, q m h1 h2⟩
end
section
variable {X : Cx}
end
section
variable {X : Cx}
end
section
variable {X : Cx}
end
section
variable {X : Cx} {pins : List (Addr × Obj)} {σ : St} {H : Hp} {s : Shared}
end
section
variable {X : Cx}
end
end L2
namespace L2
open PySem PySem.Spec PyProof.Rows
abbrev CellAt (h : Heap) (c : Addr) (v : Option Value) : Prop := h.IsCell c v
def relS (scope sc : Scope) : Scope :=
  { scope with names := scope.names.map fun (n, k) => if (k == .free && sc.kind == .function && sc.names.lookup n == some .cell) then (n, .cell) else (n, k) }
def cloFrom (cells : List (Str × Addr)) : List (Str × NameKind) → List (Str × Addr) → List (Str × Addr)
  | [], acc => acc
  | (n, k) :: r, acc => if k == .free then cloFrom cells r ((n, (cells.lookup n).getD 0) :: acc) else cloFrom cells r acc
theorem closure_loop (env : Env) (f : Str × NameKind → List (Str × Addr) → Sem (ForInStep (List (Str × Addr))))
    (hf : ∀ n k c, f (n, k) c = if k == .free then (do let a ← cellOf env n; pure (.yield ((n, a) :: c))) else pure (.yield c)) :
    ∀ (names : List (Str × NameKind)) (acc : List (Str × Addr)), (∀ y ∈ names, y.2 = .free → ∃ c, env.cells.lookup y.1 = some c) → forIn names acc f = pure (cloFrom env.cells names acc)
  | [], acc, _ => by rw [List.forIn_nil]; rfl
  | (n, k) :: r, acc, h => by
    rw [List.forIn_cons, hf]
    have ih := fun acc => closure_loop env f hf r acc fun y hy => h y (List.mem_cons_of_mem _ hy)
    unfold cloFrom
    by_cases hk : (k == NameKind.free) = true
    · rw [if_pos hk, if_pos hk]
      obtain ⟨c, hc⟩ := h (n, k) List.mem_cons_self (by simpa using hk)
      have e : cellOf env n = pure c := by unfold cellOf; rw [hc]
      rw [e]
      have e2 : (env.cells.lookup n).getD 0 = c := by rw [hc]; rfl
      rw [e2]
      exact ih _
    · rw [if_neg hk, if_neg hk]
      exact ih _
theorem closure_ok {scope : Scope} {env : Env} (h : ∀ y ∈ scope.names, y.2 = .free → ∃ c, env.cells.lookup y.1 = some c) : closureFor scope env = pure (cloFrom env.cells scope.names []) := by
  simp only [closureFor]
  rw [closure_loop env _ (fun n k c => rfl) scope.names [] h]
  rfl
theorem mem_lookup {α : Type} : ∀ {l : List (Str × α)} {n : Str} {c : α}, (n, c) ∈ l → ∃ c', l.lookup n = some c'
  | (k, v) :: r, n, c, h => by
    rw [List.lookup_cons]
    cases hb : n == k with
    | true => exact ⟨_, rfl⟩
    | false =>
      rcases List.mem_cons.mp h with e | h
      · cases e; simp at hb
      · exact mem_lookup h
theorem cloFrom_mem {cells : List (Str × Addr)} : ∀ {names : List (Str × NameKind)} {acc : List (Str × Addr)} {n : Str} {c : Addr}, (n, c) ∈ cloFrom cells names acc → (n, c) ∈ acc ∨ ((n, .free) ∈ names ∧ c = (cells.lookup n).getD 0)
  | [], _, _, _, h => .inl h
  | (m, k) :: r, acc, n, c, h => by
    unfold cloFrom at h
    split at h
    · rename_i hk
      have hk : k = .free := by simpa using hk
      rcases cloFrom_mem h with h | ⟨h1, h2⟩
      · rcases List.mem_cons.mp h with e | h
        · cases e; exact .inr ⟨hk ▸ List.mem_cons_self, rfl⟩
        · exact .inl h
      · exact .inr ⟨List.mem_cons_of_mem _ h1, h2⟩
    · rcases cloFrom_mem h with h | ⟨h1, h2⟩
      · exact .inl h
      · exact .inr ⟨List.mem_cons_of_mem _ h1, h2⟩
theorem cloFrom_acc {cells : List (Str × Addr)} : ∀ {names : List (Str × NameKind)} {acc : List (Str × Addr)} {p : Str × Addr}, p ∈ acc → p ∈ cloFrom cells names acc
  | [], _, _, h => h
  | (m, k) :: r, acc, p, h => by
    unfold cloFrom
    split
    · exact cloFrom_acc (List.mem_cons_of_mem _ h)
    · exact cloFrom_acc h
theorem cloFrom_has {cells : List (Str × Addr)} : ∀ {names : List (Str × NameKind)} {acc : List (Str × Addr)} {n : Str}, (n, .free) ∈ names → (n, (cells.lookup n).getD 0) ∈ cloFrom cells names acc
  | (m, k) :: r, acc, n, h => by
    unfold cloFrom
    rcases List.mem_cons.mp h with e | h
    · cases e
      exact cloFrom_acc List.mem_cons_self
    · split
      · exact cloFrom_has h
      · exact cloFrom_has h
theorem cells_mem : ∀ {names : List (Str × NameKind)} {h : Heap} {acc : List (Str × Addr)} {x : Str} {c : Addr}, (x, c) ∈ cellsFrom h.objs.size names acc →
    (x, c) ∈ acc ∨ ((x, .cell) ∈ names ∧ h.objs.size ≤ c ∧ CellAt (pushCells h names) c none)
  | [], _, _, _, _, h => .inl h
  | (n, k) :: r, h, acc, x, c, hm => by
    unfold cellsFrom at hm
    unfold pushCells
    split at hm
    · rename_i hk
      rw [if_pos hk]
      have hk : k = .cell := by simpa using hk
      rw [← Heap.size_push h { cls := .type "cell", data := .cell none }] at hm
      rcases cells_mem hm with hm | ⟨h1, h2, h3⟩
      · rcases List.mem_cons.mp hm with e | hm
        · cases e
          exact .inr ⟨hk ▸ List.mem_cons_self, Nat.le_refl _, _, pushCells_keeps r _ _ _ (Heap.get?_push_size _ rfl), rfl⟩
        · exact .inl hm
      · rw [Heap.size_push] at h2
        exact .inr ⟨List.mem_cons_of_mem _ h1, Nat.le_of_succ_le h2, h3⟩
    · rename_i hk
      rw [if_neg hk]
      rcases cells_mem hm with hm | ⟨h1, h2, h3⟩
      · exact .inl hm
      · exact .inr ⟨List.mem_cons_of_mem _ h1, h2, h3⟩
theorem cells_acc : ∀ {names : List (Str × NameKind)} {n : Nat} {acc : List (Str × Addr)} {p : Str × Addr}, p ∈ acc → p ∈ cellsFrom n names acc
  | [], _, _, _, h => h
  | (m, k) :: r, n, acc, p, h => by
    unfold cellsFrom
    split
    · exact cells_acc (List.mem_cons_of_mem _ h)
    · exact cells_acc h
theorem cells_has : ∀ {names : List (Str × NameKind)} {n : Nat} {acc : List (Str × Addr)} {x : Str}, (x, .cell) ∈ names → ∃ c, (x, c) ∈ cellsFrom n names acc
  | (m, k) :: r, n, acc, x, h => by
    unfold cellsFrom
    rcases List.mem_cons.mp h with e | h
    · cases e
      exact ⟨n, cells_acc List.mem_cons_self⟩
    · split
      · exact cells_has h
      · exact cells_has h
theorem cells_inj : ∀ {names : List (Str × NameKind)} {h : Heap} {acc : List (Str × Addr)} {x y : Str} {c : Addr}, (∀ p ∈ acc, p.2 < h.objs.size) → (∀ x y c, (x, c) ∈ acc → (y, c) ∈ acc → x = y) →
    (x, c) ∈ cellsFrom h.objs.size names acc → (y, c) ∈ cellsFrom h.objs.size names acc → x = y
  | [], _, _, _, _, _, _, hi, h1, h2 => hi _ _ _ h1 h2
  | (n, k) :: r, h, acc, x, y, c, hl, hi, h1, h2 => by
    unfold cellsFrom at h1 h2
    split at h1
    · rename_i hk
      rw [if_pos hk] at h2
      rw [← Heap.size_push h { cls := .type "cell", data := .cell none }] at h1 h2
      refine cells_inj (h := h.push _) (fun p hp => ?_) (fun x y c a b => ?_) h1 h2
      · rw [Heap.size_push]
        rcases List.mem_cons.mp hp with rfl | hp
        · exact Nat.lt_succ_self _
        · exact Nat.lt_succ_of_lt (hl p hp)
      · rcases List.mem_cons.mp a with e | a <;> rcases List.mem_cons.mp b with e' | b
        · cases e; cases e'; rfl
        · cases e; exact absurd (hl _ b) (Nat.lt_irrefl _)
        · cases e'; exact absurd (hl _ a) (Nat.lt_irrefl _)
        · exact hi _ _ _ a b
    · rename_i hk
      rw [if_neg hk] at h2
      exact cells_inj hl hi h1 h2
theorem newEnv_comp {M : Model} {A : Around} {E : Value → Shared → Prop} {s : Shared} {scope : Scope} {globals : Addr} {closure : List (Str × Addr)} {qual : Str} {func : Option Addr} {code : Value} {around : Env} {builtins : Addr} {Q : Env → Shared → Prop}
    (h : Q (newEnv scope s.heap.objs.size globals (cellsFrom (s.heap.objs.size + 1) scope.names closure) qual func code (some around) builtins)
      { s with heap := pushCells (s.heap.push { cls := .type "dict", data := .dict #[] }) scope.names }) :
    wpAny M A (newFunctionEnv scope globals closure [] qual func code (some around) builtins) Q E s := by
  simp only [newFunctionEnv, Option.isSome_some, if_true]
  refine wpAny_bind (wpAny_alloc ?_)
  refine wpAny_bind (wpAny_layCells _ (fun n k c => rfl) scope.names closure _ _ ?_)
  rw [show ({ s with heap := s.heap.push { cls := .type "dict", data := .dict #[] } } : Shared).heap.objs.size = s.heap.objs.size + 1 from Heap.size_push ..]
  rw [List.forIn_nil]
  exact wpAny_bind (wpAny_pure (wpAny_pure h))
/-- every name of the written scope, in the scope that runs -/
theorem lookup_relS {sc : Scope} : ∀ {names : List (Str × NameKind)} {x : Str} {k : NameKind},
    (names.map fun (n, k) => if (k == NameKind.free && sc.kind == .function && sc.names.lookup n == some .cell) then (n, NameKind.cell) else (n, k)).lookup x = some k →
    ∃ k', names.lookup x = some k' ∧ (k = k' ∨ (k' = .free ∧ k = .cell))
  | [], _, _, h => by simp at h
  | (n, k₀) :: r, x, k, h => by
    have ih := @lookup_relS sc r x k
    have h' : List.lookup x ((if (k₀ == NameKind.free && sc.kind == .function && sc.names.lookup n == some .cell) = true then (n, NameKind.cell) else (n, k₀)) :: (r.map _)) = some k := h
    cases hx : x == n with
    | true =>
      simp only [List.lookup_cons, hx]
      by_cases hc : (k₀ == NameKind.free && sc.kind == .function && sc.names.lookup n == some .cell) = true
      · rw [if_pos hc] at h'
        simp only [List.lookup_cons, hx] at h'
        cases h'
        simp only [Bool.and_eq_true, beq_iff_eq] at hc
        exact ⟨k₀, rfl, .inr ⟨hc.1.1, rfl⟩⟩
      · rw [if_neg hc] at h'
        simp only [List.lookup_cons, hx] at h'
        cases h'
        exact ⟨_, rfl, .inl rfl⟩
    | false =>
      simp only [List.lookup_cons, hx]
      by_cases hc : (k₀ == NameKind.free && sc.kind == .function && sc.names.lookup n == some .cell) = true
      · rw [if_pos hc] at h'
        simp only [List.lookup_cons, hx] at h'
        exact ih h'
      · rw [if_neg hc] at h'
        simp only [List.lookup_cons, hx] at h'
        exact ih h'
/-- the names of a comprehension's block: its own (with their places in N), or captured -/
structure BlkOk (N : List Str) (sc scope : Scope) (own : List (Str × Nat)) : Prop where
  kind : scope.kind = .function
  uniq : ∀ y ∈ scope.names, scope.names.lookup y.1 = some y.2
  ix : ∀ p ∈ own, N[p.2]? = some p.1
  free : ∀ y ∈ scope.names, y.2 = .free → sc.names.lookup y.1 = some .cell ∨ sc.names.lookup y.1 = some .free
  own : ∀ y ∈ scope.names, y.2 = .local ∨ y.2 = .cell → y.1 ∈ own.map (·.1) ∨ y.1 ∉ N
/-- the slots of the block's own names forgotten -/
def wipe (σ : St) : List Nat → St
  | [] => σ
  | v :: vs => (wipe σ vs).set v none
theorem wipe_length (σ : St) : ∀ vs : List Nat, (wipe σ vs).length = σ.length
  | [] => rfl
  | v :: vs => by unfold wipe; rw [List.length_set, wipe_length σ vs]
theorem wipe_some {σ : St} {i : Nat} {x : V} : ∀ {vs : List Nat}, (wipe σ vs)[i]? = some (some x) → σ[i]? = some (some x) ∧ i ∉ vs
  | [], h => ⟨h, by simp⟩
  | v :: vs, h => by
    unfold wipe at h
    by_cases hi : v = i
    · subst hi
      by_cases hv : v < (wipe σ vs).length
      · rw [List.getElem?_set_self hv] at h; cases h
      · rw [List.getElem?_eq_none (by simpa using hv)] at h; cases h
    · rw [List.getElem?_set_ne hi] at h
      obtain ⟨h1, h2⟩ := wipe_some h
      exact ⟨h1, by simp only [List.mem_cons, not_or]; exact ⟨fun e => hi e.symm, h2⟩⟩
/-- the context of a block that starts at s, its iterator's objects at fp -/
abbrev Cx.blk (X : Cx) (s : Shared) (H : Hp) (scope : Scope) (cenv : Env) (fp : List Addr) : Cx := { X with s_0 := s, H_0 := H, env := cenv, outer := X.stack, ex := fp, fn := fun x => scope.names.lookup x == some .cell, pn := [], xe := fun _ _ => False }
section
variable {X : Cx} {pins : List (Addr × Obj)} {σ : St} {H : Hp} {s : Shared}
theorem block_start {scope : Scope} {own : List (Str × Nat)} {fp : List Addr} (I : Inv X pins σ H s) (ok : BlkOk X.N X.env.scope scope own) (hN : X.N.Nodup) (hfp : ∀ b ∈ fp, FpOk X pins H b ∧ b < s.heap.objs.size) :
    Inv (X.blk s H scope (compEnvC scope (cellsFrom (s.heap.objs.size + 1) scope.names (cloFrom X.env.cells scope.names [])) s.heap.objs.size X.env) fp) [] (wipe σ (own.map (·.2))) H { s with heap := pushCells (s.heap.push { cls := .type "dict", data := .dict #[] }) scope.names } := by
  have hfree : ∀ y ∈ scope.names, y.2 = .free → ∃ c, X.env.cells.lookup y.1 = some c := fun y hy e => by
    rcases ok.free y hy e with k | k
    · exact I.ok.has _ (.inl k)
    · exact I.ok.has _ (.inr k)
  generalize hcenv : compEnvC scope (cellsFrom (s.heap.objs.size + 1) scope.names (cloFrom X.env.cells scope.names [])) s.heap.objs.size X.env = cenv
  have kp : ∀ b o, s.heap.get? b = some o → (pushCells (s.heap.push { cls := .type "dict", data := .dict #[] }) scope.names).get? b = some o := fun b o e => pushCells_keeps _ _ _ _ (Heap.get?_push_of_some _ e)
  have hL : cenv.locals = s.heap.objs.size := by rw [← hcenv]; rfl
  have hcl : cenv.cells = cellsFrom (s.heap.objs.size + 1) scope.names (cloFrom X.env.cells scope.names []) := by rw [← hcenv]; rfl
  have hsc : cenv.scope = relS scope X.env.scope := by rw [← hcenv]; rfl
  rw [← Heap.size_push s.heap { cls := .type "dict", data := .dict #[] }] at hcl
  have cm : ∀ {y c}, (y, c) ∈ cloFrom X.env.cells scope.names [] → X.env.cells.lookup y = some c ∧ c < s.heap.objs.size := fun {y c} hm => by
    rcases cloFrom_mem hm with hm | ⟨h1, rfl⟩
    · cases hm
    · obtain ⟨c, hc⟩ := hfree _ h1 rfl
      rw [hc]
      obtain ⟨w, z⟩ := I.cell _ _ hc
      exact ⟨rfl, z.lt⟩
  have mem : ∀ {y c}, cenv.cells.lookup y = some c → (X.env.cells.lookup y = some c ∧ c < s.heap.objs.size) ∨ (s.heap.objs.size + 1 ≤ c ∧ CellAt (pushCells (s.heap.push { cls := .type "dict", data := .dict #[] }) scope.names) c none) := fun {y c} e => by
    rw [hcl] at e
    rcases cells_mem (PySem.mem_of_lookup e) with hm | ⟨_, h2, h3⟩
    · exact .inl (cm hm)
    · rw [Heap.size_push] at h2; exact .inr ⟨h2, h3⟩
  have look : ∀ {y}, scope.names.lookup y = some .free → ∃ c, cenv.cells.lookup y = some c ∧ X.env.cells.lookup y = some c := fun {y} hl => by
    have hy : (y, NameKind.free) ∈ scope.names := PySem.mem_of_lookup hl
    obtain ⟨c', e'⟩ := mem_lookup (cells_acc (names := scope.names) (n := (s.heap.push { cls := .type "dict", data := .dict #[] }).objs.size) (cloFrom_has (cells := X.env.cells) (acc := []) hy))
    rw [← hcl] at e'
    refine ⟨c', e', ?_⟩
    rw [hcl] at e'
    rcases cells_mem (PySem.mem_of_lookup e') with hm | ⟨h1, _, _⟩
    · exact (cm hm).1
    · have := ok.uniq _ h1
      rw [hl] at this; cases this
  have okB : (X.blk s H scope cenv fp).Ok := by
    refine ⟨I.ok.mod, by show cenv.scope.kind = _; rw [hsc]; exact ok.kind, by show cenv.globals = _; rw [← hcenv]; exact I.ok.glob, by show cenv.builtins = _; rw [← hcenv]; exact I.ok.blt, by show s.heap.objs.size ≤ cenv.locals; rw [hL]; exact Nat.le_refl _,
      fun y z c e1 e2 => ?_, fun y hy => ?_, fun y c z e => ?_, I.ok.hd, I.ok.frames, .inl rfl, fun b hb => ⟨?_, fun y c e z => ?_⟩, I.bs, Nat.le_trans I.ok.bsz I.sz, fun b o e hb => ?_, fun b hb z => ?_, I.stack, I.stkFree⟩
    · have e1 : cenv.cells.lookup y = some c := e1
      have e2 : cenv.cells.lookup z = some c := e2
      rw [hcl] at e1 e2
      refine cells_inj (fun p hp => ?_) (fun y z c a b => I.ok.inj y z c (cm a).1 (cm b).1) (PySem.mem_of_lookup e1) (PySem.mem_of_lookup e2)
      rw [Heap.size_push]
      exact Nat.lt_succ_of_lt (cm (y := p.1) (c := p.2) hp).2
    · show ∃ c, cenv.cells.lookup y = some c
      have key : ∀ k, cenv.kindOf y = some k → (k = .cell ∨ k = .free) → ∃ c, cenv.cells.lookup y = some c := fun k hk hk' => by
        unfold Env.kindOf at hk
        rw [hsc] at hk
        obtain ⟨k', e, r⟩ := lookup_relS hk
        have : k' = .cell ∨ k' = .free := by
          rcases r with rfl | ⟨rfl, _⟩
          · exact hk'
          · exact .inr rfl
        rcases this with rfl | rfl
        · obtain ⟨c, hm⟩ := cells_has (n := (s.heap.push { cls := .type "dict", data := .dict #[] }).objs.size) (acc := cloFrom X.env.cells scope.names []) (PySem.mem_of_lookup e)
          obtain ⟨c', e'⟩ := mem_lookup hm
          exact ⟨c', by rw [hcl]; exact e'⟩
        · obtain ⟨c, h1, _⟩ := look e
          exact ⟨c, h1⟩
      rcases hy with hy | hy
      · exact key _ hy (.inl rfl)
      · exact key _ hy (.inr rfl)
    · have z : (scope.names.lookup y == some NameKind.cell) = true := z
      have z : scope.names.lookup y = some .cell := by simpa using z
      have e : cenv.cells.lookup y = some c := e
      rw [hcl] at e
      rcases cells_mem (PySem.mem_of_lookup e) with hm | ⟨_, h2, _⟩
      · rcases cloFrom_mem hm with hm | ⟨h1, _⟩
        · cases hm
        · have q := ok.uniq _ h1
          rw [z] at q; cases q
      · rw [Heap.size_push] at h2
        exact Nat.le_of_succ_le h2
    · show b ≠ cenv.locals
      rw [hL]; exact Nat.ne_of_lt (hfp b hb).2
    · have e : cenv.cells.lookup y = some c := e
      rcases mem e with ⟨h1, _⟩ | ⟨h1, _⟩
      · exact (hfp b hb).1.2.2.2.2.1 y c h1 z
      · have h2 : s.heap.objs.size + 1 ≤ b := by rw [← z]; exact h1
        exact absurd (Nat.lt_of_lt_of_le (hfp b hb).2 (Nat.le_of_succ_le h2)) (Nat.lt_irrefl _)
    · rcases (hfp b hb).1.2.2.2.1 with z | z
      · exact I.ok.noex b o e z
      · exact absurd (Nat.lt_of_lt_of_le (Heap.lt_size e) (Nat.le_trans I.ok.bsz z)) (Nat.lt_irrefl _)
    · rcases List.mem_cons.mp (I.stkSub b z) with z | z
      · exact (hfp b hb).1.2.1 z
      · exact (hfp b hb).1.2.2.1 z
  refine ⟨okB, rfl, I.bare, Un.kept kp, ⟨fun _ => none, ?_, fun i y av e1 e2 e3 => ?_⟩, fun y c e => ?_, ?_, fun y c e => ?_, fun p hp => ?_, I.hok.kept kp, by rw [wipe_length]; exact I.len⟩
  · show Heap.Ns _ cenv.locals _
    rw [hL]
    exact Heap.Ns.keeps (Heap.Ns.new ..) fun b o e => pushCells_keeps _ _ _ _ e
  · obtain ⟨e2, hne⟩ := wipe_some e2
    have hfr : scope.names.lookup y = some .free ∧ (cenv.kindOf y = some .cell ∨ cenv.kindOf y = some .free) := by
      have key : ∀ k, cenv.scope.names.lookup y = some k → k = .local ∨ k = .cell ∨ k = .free → scope.names.lookup y = some .free ∧ (cenv.kindOf y = some .cell ∨ cenv.kindOf y = some .free) := fun k hk hk' => by
        have hk0 := hk
        rw [hsc] at hk
        obtain ⟨k', e, r⟩ := lookup_relS hk
        have no : ¬ (k' = .local ∨ k' = .cell) := fun hh => by
          rcases ok.own _ (PySem.mem_of_lookup e) hh with e' | e'
          · obtain ⟨p, hp, hpy⟩ := List.mem_map.mp e'
            have e3 := ok.ix p hp
            have : p.1 = y := hpy
            rw [this] at e3
            exact hne (List.mem_map.mpr ⟨p, hp, nodup_ix hN e3 e1⟩)
          · exact e' (List.mem_of_getElem? e1)
        rcases r with rfl | ⟨rfl, rfl⟩
        · rcases hk' with rfl | rfl | rfl
          · exact absurd (.inl rfl) no
          · exact absurd (.inr rfl) no
          · exact ⟨e, .inr hk0⟩
        · exact ⟨e, .inl hk0⟩
      have e3 : Vis cenv.scope y := e3
      rcases e3 with e3 | e3 | e3
      · exact key _ e3 (.inl rfl)
      · exact key _ e3 (.inr (.inl rfl))
      · exact key _ e3 (.inr (.inr rfl))
    obtain ⟨m, hn, hl⟩ := I.loc
    have hvis : Vis X.env.scope y := (ok.free _ (PySem.mem_of_lookup hfr.1) rfl).elim (fun k => .inr (.inl k)) (fun k => .inr (.inr k))
    obtain ⟨w, r, q⟩ := hl i y av e1 e2 hvis
    refine ⟨w, r, .inr ⟨hfr.2, ?_⟩⟩
    obtain ⟨c, h1, h2⟩ := look hfr.1
    rcases q with ⟨k, _⟩ | ⟨_, c', e', z⟩
    · have k : X.env.scope.names.lookup y = some .local := k
      rcases ok.free _ (PySem.mem_of_lookup hfr.1) rfl with k' | k' <;> rw [show X.env.scope.names.lookup y = _ from k'] at k <;> cases k
    · rw [h2] at e'; cases e'
      exact ⟨c, h1, z.keeps kp⟩
  · have e : cenv.cells.lookup y = some c := e
    rcases mem e with ⟨h1, _⟩ | ⟨_, z⟩
    · obtain ⟨w, z⟩ := I.cell y c h1
      exact ⟨w, z.keeps kp⟩
    · exact ⟨_, z⟩
  · show H cenv.locals = none
    rw [hL]; exact I.hok.fresh (Nat.le_refl _)
  · have e : cenv.cells.lookup y = some c := e
    rcases mem e with ⟨h1, _⟩ | ⟨h1, _⟩
    · exact I.freeC y c h1
    · exact I.hok.fresh (Nat.le_of_succ_le h1)
  · exact absurd (show p ∈ ([] : List (Addr × Obj)) ++ [] from hp) (by simp)
/-- an item appended to a tracked list -/
theorem app_ok {E : Value → Shared → Prop} {D : Addr} {xs : List V} {y : V} {v : Value} {Q : Value → Shared → Prop} (I : Inv X pins σ H s) (hD : H D = some (.lst xs)) (hz : xs.length < sizeLine) (r : RelV y v)
    (h : ∀ s', Inv X pins σ (upd H D (.lst (xs ++ [y]))) s' → Q .none s') : wpAny (model X.prog X.w) X.A (call (.builtin "list.append") [.ref D, v]) Q E s := by
  obtain ⟨hz', its, n, ri, e⟩ := I.hok D _ hD
  have hl := ri.length
  refine append_at (hsz := by rw [List.size_toArray]; omega) e fun h' sb ho' => ?_
  refine h { s with heap := h' } (I.write (t' := s.toks) (by rw [hD]; trivial) (.inl rfl) (fun b u hb q => (sb.2 b hb).trans q) ⟨_, ho'⟩ ⟨by rw [List.length_append]; exact hz, its ++ [v], n + 1, ri.append (.cons r .nil), ?_⟩)
  rw [ho']
  simp
/-- a clause's tests -/
def PTs (X : Cx) (ifs : List Expr) (t : TT) : Prop :=
  ∀ (pins : List (Addr × Obj)) (s : Shared) (σ : St) (H : Hp) (Q : Bool → Hp → Prop), Inv X pins σ H s → t σ H Q →
    wpAny (model X.prog X.w) X.A (forIn ifs true fun c r => if r = true then do let ok ← isTrue c X.env (eval c X.env); pure (ForInStep.yield ok) else pure (ForInStep.yield r)) (TP X pins σ Q) X.xe s
def tYes : TT := fun _ H Q => Q true H
theorem pts_nil : PTs X [] tYes := fun _ _ _ H _ I h => wpAny_tests_nil ⟨H, I, h⟩
end
theorem thnF {α : Type} {t : Sem α} {Q Q' : α → Shared → Prop} {M : Model} {A : Around} {E : Value → Shared → Prop} {s : Shared} (h : wpAny M A t Q (fun _ _ => False) s) (hQ : ∀ a s, Q a s → Q' a s) : wpAny M A t Q' E s := wpAny_mono h hQ fun _ _ z => False.elim z
/-- the loop of a list comprehension's block, the target of any form (codeAny_compLoop_tests asks a target that no tuple goes to; statement and proof follow it, PyProof/CompMap.lean:41-61, with the step letOwnedTupleGo kept) -/
theorem compLoop_any {prog : Program} {w : World} {A : Around} {R : Result → Shared → Prop} {s : Shared} {elt target iter : Expr} {ifs : List Expr} {scope : Scope} {pos : Pos} {it acc : Value} {env : Env} (I : Nat → Shared → Prop)
    (turn : ∀ n s, I n s → wpAny (model prog w) A (pyNext it) (fun r s₁ => match r with
      | none => R (.ok .next) s₁
      | some v => wpAny (model prog w) A (letOwnedTupleGo target it v) (fun _ s₁' => wpAny (model prog w) A (assign target env v) (fun _ s₂ =>
          wpAny (model prog w) A (forIn ifs true fun c r => if r = true then do let ok ← isTrue c env (eval c env); pure (ForInStep.yield ok) else pure (ForInStep.yield r)) (fun ok s₃ =>
            if ok = true then wpAny (model prog w) A (eval elt env) (fun x s₄ =>
              wpAny (model prog w) A (call (.builtin "list.append") [acc, x]) (fun _ s₅ => ∃ m, m < n ∧ I m s₅) (notedBy (model prog w) A env fun e s' => R (.error e) s') s₄) (notedBy (model prog w) A env fun e s' => R (.error e) s') s₃
            else ∃ m, m < n ∧ I m s₃) (notedBy (model prog w) A env fun e s' => R (.error e) s') s₂) (notedBy (model prog w) A env fun e s' => R (.error e) s') s₁') (notedBy (model prog w) A env fun e s' => R (.error e) s') s₁) (notedBy (model prog w) A env fun e s' => R (.error e) s') s)
    (n : Nat) (h : I n s) :
    codeAny (model prog w) A (.compLoop (.ListComp elt [⟨target, iter, ifs, 0⟩] scope pos) 0 it acc env) R s := by
  refine codeAny_loop rfl I (fun n s hI => ?_) n h
  show wpAny _ A ((compTurn (.ListComp elt [⟨target, iter, ifs, 0⟩] scope pos) 0 it acc env).onRaise (fun x => do noteFrame x env; theTreesLotGoes x)) _ _ s
  refine wpAny_noted ?_
  rw [compTurn_list]
  refine wpAny_bind (wpAny_standAt (wpAny_bind (wpAny_mono (turn n s hI) (fun r s₁ h₁ => ?_) fun _ _ h' => h')))
  cases r with
  | none => exact wpAny_pure h₁
  | some v =>
    refine wpAny_bind (wpAny_mono h₁ (fun _ s₁' h₁' => ?_) fun _ _ h' => h')
    refine wpAny_bind (wpAny_mono h₁' (fun _ s₂ h₂ => wpAny_bind (wpAny_mono h₂ (fun ok s₃ h₃ => ?_) fun _ _ h' => h')) fun _ _ h' => h')
    cases ok with
    | false => exact wpAny_pure ⟨rfl, h₃⟩
    | true =>
      exact wpAny_bind (wpAny_bind (wpAny_mono h₃ (fun x s₄ h₄ => wpAny_bind (wpAny_mono h₄ (fun _ s₅ h₅ => wpAny_pure (wpAny_pure ⟨rfl, h₅⟩)) fun _ _ h' => h')) fun _ _ h' => h'))
section
variable {X : Cx}
/-- [elt for target in iter if ..]: D the new list; W by the turn and a measure, Nx what a turn is to reach -/
def tLc (wi : TI) (g : TG) (tt : TT) (te : TE) (vs : List Nat) : TE := fun σ H Q => wi σ H fun J H1 => ∀ D, H1 D = none → ∃ W : Nat → Nat → Hp → Prop, (∃ m, W 0 m (upd H1 D (.lst []))) ∧ ∀ i m H, W i m H →
  (J.stop i H ∧ Q (.ref D) H) ∨ (J.go i H ∧ ∃ Nx : Hp → Prop, (∀ H', Nx H' → ∃ m', m' < m ∧ W (i + 1) m' H') ∧ ∀ x H', J.yld i H x H' → g x (wipe σ vs) H' fun σ2 H2 => wipe σ2 vs = wipe σ vs ∧ tt σ2 H2 fun b H3 =>
    if b = true then te σ2 H3 fun y H4 => ∃ acc, H4 D = some (.lst acc) ∧ acc.length < sizeLine ∧ Nx (upd H4 D (.lst (acc ++ [y]))) else Nx H3)
theorem lc_core {pins : List (Addr × Obj)} {s : Shared} {σ : St} {H : Hp} {Q : VK} {elt tg iter : Expr} {ifs : List Expr} {scope : Scope} {own : List (Str × Nat)} {pos pos' : Pos} {wi : TI} {g : TG} {tt : TT} {te : TE} {use : Option (Value → Sem Unit)} {Qf : Value → Shared → Prop}
    (hc : X.calm = true) (hN : X.N.Nodup) (I : Inv X pins σ H s) (hi : PI X tg iter wi) (ok : BlkOk X.N X.env.scope scope own)
    (hg : ∀ (s : Shared) (H : Hp) (C : Addr) (cl : List (Str × Addr)) (fp : List Addr), PG (X.blk s H scope (compEnvC scope cl C X.env) fp) tg g) (ht : ∀ (s : Shared) (H : Hp) (C : Addr) (cl : List (Str × Addr)) (fp : List Addr), PTs (X.blk s H scope (compEnvC scope cl C X.env) fp) ifs tt)
    (he : ∀ (s : Shared) (H : Hp) (C : Addr) (cl : List (Str × Addr)) (fp : List Addr), PE (X.blk s H scope (compEnvC scope cl C X.env) fp) elt te) (hs : ∀ x, foldedSetIterable iter X.env x = pure x)
    (h : tLc wi g tt te (own.map (·.2)) σ H Q)
    (hRR : ∀ D C s' m H', Inv X pins σ H' s' → Q (.ref D) H' → s'.heap.Ns C m → FpOk X pins H' C → compPost (model X.prog X.w) X.A X.xe use Qf (.ref D) C (.ok .next) s') :
    wpAny (model X.prog X.w) X.A (comprehension (.ListComp elt [⟨tg, iter, ifs, 0⟩] scope pos) scope X.env pos' (newList []) false (eval iter X.env) use) Qf X.xe s := by
  have hfree : ∀ y ∈ scope.names, y.2 = .free → ∃ c, X.env.cells.lookup y.1 = some c := fun y hy e => by
    rcases ok.free y hy e with k | k
    · exact I.ok.has _ (.inl k)
    · exact I.ok.has _ (.inr k)
  refine wpAny_comprehension_free (use := use) rfl hs (closure_ok hfree) ok.kind (fun y hy e => by rw [ok.uniq y hy, e])
    (thn (hi pins s σ H _ I h) fun xv s1 hx => thn hx fun itv s2 h2 => ?_)
  obtain ⟨it, fp, tn, J, H2, e, I2, T, st2, f2, q⟩ := h2
  subst e
  refine wpAny_newObj_type (newEnv_comp ?_) (by show 0 ≤ sizeLine; decide)
  generalize hD : s2.heap.objs.size = D
  have hDn : H2 D = none := I2.hok.fresh (Nat.le_of_eq hD)
  obtain ⟨W, ⟨m0, w0⟩, turn⟩ := q D hDn
  -- the new list
  generalize hs3 : ({ s2 with heap := s2.heap.push { cls := .type "list", data := .seq ([] : List Value).toArray } } : Shared) = s3
  have I3 : Inv X pins σ (upd H2 D (.lst [])) s3 := by
    rw [← hs3]
    refine I2.laid (t' := s2.toks) (fun b o e => Heap.get?_push_of_some _ e) (Nat.le_of_eq hD) ⟨Nat.zero_le _, [], 0, .nil, ?_⟩
    rw [← hD]
    exact Heap.get?_push_size _ rfl
  have h3 : s3.heap = s2.heap.push { cls := .type "list", data := .seq ([] : List Value).toArray } := by rw [← hs3]
  have sz : ∀ b ∈ fp, b < s2.heap.objs.size := fun b hb => by
    obtain ⟨o, e, _⟩ := T.obj _ _ st2 b hb
    exact Heap.lt_size e
  have f3 : ∀ b ∈ fp, FpOk X pins (upd H2 D (.lst [])) b ∧ b < s3.heap.objs.size := fun b hb => by
    have hlt := sz b hb
    refine ⟨⟨?_, (f2 b hb).2⟩, by rw [h3, Heap.size_push]; exact Nat.lt_succ_of_lt hlt⟩
    rw [upd_ne (by rw [← hD]; exact Nat.ne_of_lt hlt)]
    exact (f2 b hb).1
  have st3 : tn 0 s3.heap := T.keep _ _ _ st2 fun b _ o e => by rw [h3]; exact Heap.get?_push_of_some _ e
  have I4 := block_start I3 ok hN f3
  have pg := hg s3 (upd H2 D (.lst [])) s3.heap.objs.size (cellsFrom (s3.heap.objs.size + 1) scope.names (cloFrom X.env.cells scope.names [])) fp
  have pt := ht s3 (upd H2 D (.lst [])) s3.heap.objs.size (cellsFrom (s3.heap.objs.size + 1) scope.names (cloFrom X.env.cells scope.names [])) fp
  have pe := he s3 (upd H2 D (.lst [])) s3.heap.objs.size (cellsFrom (s3.heap.objs.size + 1) scope.names (cloFrom X.env.cells scope.names [])) fp
  show codeAny _ _ (.compStart (.ListComp elt [⟨tg, iter, ifs, 0⟩] scope pos) 0 (.ref it) (.ref D) (compEnvC scope (cellsFrom (s3.heap.objs.size + 1) scope.names (cloFrom X.env.cells scope.names [])) s3.heap.objs.size X.env)) (compPost (model X.prog X.w) X.A X.xe use Qf (.ref D) s3.heap.objs.size) { s3 with heap := pushCells (s3.heap.push { cls := .type "dict", data := .dict #[] }) scope.names }
  have nfp : ∀ b ∈ fp, (upd H2 D (.lst [])) b = none := fun b hb => (f3 b hb).1.1
  generalize hce : compEnvC scope (cellsFrom (s3.heap.objs.size + 1) scope.names (cloFrom X.env.cells scope.names [])) s3.heap.objs.size X.env = ce at I4 pg pt pe ⊢
  have cL : ce.locals = s3.heap.objs.size := by subst hce; rfl
  generalize hH3 : upd H2 D (.lst []) = H3 at I3 I4 pg pt pe w0 nfp f3
  generalize hs4 : ({ s3 with heap := pushCells (s3.heap.push { cls := .type "dict", data := .dict #[] }) scope.names } : Shared) = s4 at I4 ⊢
  have st4 : tn 0 s4.heap := T.keep _ _ _ st3 fun b _ o e => by rw [← hs4]; exact pushCells_keeps _ _ _ _ (Heap.get?_push_of_some _ e)
  have stat : ∀ {σ' : St} {H' : Hp} {s' : Shared}, Inv (X.blk s3 H3 scope ce fp) [] σ' H' s' → (∀ b ∈ fp, H' b = none) → ∀ b ∈ fp, FpOk (X.blk s3 H3 scope ce fp) [] H' b := fun {σ' H' s'} I' hn b hb =>
    ⟨hn b hb, (I'.ok.exf b hb).1, I'.ok.exfs b hb, .inl hb, fun x c e => (I'.ok.exf b hb).2 x c e, fun p hp => absurd (show p ∈ ([] : List (Addr × Obj)) ++ [] from hp) (by simp)⟩
  have loop : codeAny (model X.prog X.w) X.A (.compLoop (.ListComp elt [⟨tg, iter, ifs, 0⟩] scope pos) 0 (.ref it) (.ref D) ce) (compPost (model X.prog X.w) X.A X.xe use Qf (.ref D) s3.heap.objs.size) s4 := by
    refine compLoop_any (fun n s' => ∃ i H', Inv (X.blk s3 H3 scope ce fp) [] (wipe σ (own.map (·.2))) H' s' ∧ tn i s'.heap ∧ (∀ b ∈ fp, H' b = none) ∧ W i n H') ?_ m0 ⟨0, H3, I4, st4, nfp, w0⟩
    rintro n s5 ⟨i, H5, I5, st5, n5, w5⟩
    rcases turn i n H5 w5 with ⟨stop, qq⟩ | ⟨go, Nx, hNx, step⟩
    · have td := T.done (X.blk s3 H3 scope ce fp) rfl rfl rfl hc i [] s5 _ H5 (fun _ _ => False) I5 (stat I5 n5) st5 stop
      refine thnF td fun r s6 ⟨hr, I6⟩ => ?_
      subst hr
      -- back in the def's context
      have I7 : Inv X pins σ H5 s6 := I3.call' (ch := fp) I6.os I6.base I6.hok I6.bare fun b hb => ⟨(f3 b hb).1.2.2.2.1, (f3 b hb).1.2.1, (f3 b hb).1.2.2.2.2.1, (f3 b hb).1.2.2.2.2.2⟩
      have nC : H5 s3.heap.objs.size = none := by
        have z : H5 ce.locals = none := I6.free
        rw [cL] at z
        exact z
      obtain ⟨m, hn, _⟩ := I6.loc
      have hn : s6.heap.Ns ce.locals m := hn
      rw [cL] at hn
      exact hRR D s3.heap.objs.size s6 m H5 I7 qq hn (I3.fpOk (Nat.le_refl _) nC)
    · have ti := T.item (X.blk s3 H3 scope ce fp) rfl rfl rfl hc i [] s5 _ H5 (fun _ _ => False) I5 (stat I5 n5) st5 go
      refine thnF ti fun r s6 ⟨u, hr, h6⟩ => ?_
      subst hr
      refine thnF h6 fun _ s7 ⟨x, H7, I7, r7, y7, st7, n7⟩ => ?_
      have I7' := I7.pinned (stat I7 n7) (T.obj _ _ st7)
      refine thnF (pg _ s7 _ H7 x u _ I7' r7 (step x H7 y7)) fun _ s8 ⟨σ8, H8, I8, hw8, q8⟩ => ?_
      refine thnF (pt _ s8 σ8 H8 _ I8 q8) fun b s9 ⟨H9, I9, q9⟩ => ?_
      -- the turn's end
      have fin : ∀ {s' : Shared} {H' : Hp}, Inv (X.blk s3 H3 scope ce fp) ([] ++ pinsAt fp s7.heap) σ8 H' s' → Nx H' → ∃ m, m < n ∧ ∃ i H', Inv (X.blk s3 H3 scope ce fp) [] (wipe σ (own.map (·.2))) H' s' ∧ tn i s'.heap ∧ (∀ b ∈ fp, H' b = none) ∧ W i m H' := fun {s' H'} I' nx => by
        obtain ⟨m', hm, w'⟩ := hNx H' nx
        have pin' : ∀ b ∈ fp, ∀ o, s7.heap.get? b = some o → s'.heap.get? b = some o ∧ H' b = none := fun b hb o e =>
          let z := I'.pin (b, o) (List.mem_append_right _ (List.mem_append_right _ (mem_pinsAt hb e)))
          ⟨z.1, z.2.1⟩
        have hl : (wipe σ (own.map (·.2))).length = σ8.length := by rw [← hw8, wipe_length]
        refine ⟨m', hm, i + 1, H', (I'.unpinned (pins := [])).weak hl (fun j v e => ?_), T.keep _ _ _ st7 fun b hb o e => (pin' b hb o e).1, fun b hb => ?_, w'⟩
        · rw [← hw8] at e
          exact (wipe_some e).1
        · obtain ⟨o, e, _⟩ := T.obj _ _ st7 b hb
          exact (pin' b hb o e).2
      cases b with
      | false =>
        simp only [Bool.false_eq_true, if_false] at q9 ⊢
        exact fin I9 q9
      | true =>
        simp only [if_true] at q9 ⊢
        refine thnF (pe _ s9 σ8 H9 _ I9 q9) fun z s10 ⟨yv, H10, I10, r10, acc, hD10, hz10, nx⟩ => ?_
        exact app_ok (X := X.blk s3 H3 scope ce fp) I10 hD10 hz10 r10 fun s11 I11 => fin I11 nx
  exact codeAny_compStart_list loop (T.self X.A 0 _ _ _ st4 loop)
/-- as a value -/
theorem pe_lc {elt tg iter : Expr} {ifs : List Expr} {scope : Scope} {own : List (Str × Nat)} {pos : Pos} {wi : TI} {g : TG} {tt : TT} {te : TE} (hc : X.calm = true) (hN : X.N.Nodup) (hi : PI X tg iter wi) (ok : BlkOk X.N X.env.scope scope own)
    (hg : ∀ (s : Shared) (H : Hp) (C : Addr) (cl : List (Str × Addr)) (fp : List Addr), PG (X.blk s H scope (compEnvC scope cl C X.env) fp) tg g) (ht : ∀ (s : Shared) (H : Hp) (C : Addr) (cl : List (Str × Addr)) (fp : List Addr), PTs (X.blk s H scope (compEnvC scope cl C X.env) fp) ifs tt)
    (he : ∀ (s : Shared) (H : Hp) (C : Addr) (cl : List (Str × Addr)) (fp : List Addr), PE (X.blk s H scope (compEnvC scope cl C X.env) fp) elt te) (hs : ∀ x, foldedSetIterable iter X.env x = pure x := by intro _; rfl) :
    PE X (.ListComp elt [⟨tg, iter, ifs, 0⟩] scope pos) (tLc wi g tt te (own.map (·.2))) := by
  intro pins s σ H Q I h
  rw [eval_ListComp]
  refine lc_core hc hN I hi ok hg ht he hs h fun D C s' m H' I' q hn f => ⟨m, hn, fun h'' sb => ?_⟩
  obtain ⟨f0, f1, f2, f3, f4, f5⟩ := f
  exact ⟨.ref D, H', I'.turned (t' := s'.toks) (fun b o hb e => (sb.2 b hb).trans e) f0 f1 f3 f4 f5, rfl, q⟩
end
/-- over a list that the block leaves as it is -/
theorem lc_list {K : PySem.W.Frag} {a : Addr} {xs : List V} {g : TG} {tt : TT} {te : TE} {vs : List Nat} {σ : St} {H1 : Hp} {D : Addr} {Qd : Hp → Prop} (Pv : Nat → Hp → Prop) (h0 : Pv 0 (upd H1 D (.lst []))) (hl : ∀ i H, i ≤ xs.length → Pv i H → SqL K H a xs)
    (hs : ∀ i x H, xs[i]? = some x → Pv i H → g x (wipe σ vs) H fun σ2 H2 => wipe σ2 vs = wipe σ vs ∧ tt σ2 H2 fun b H3 =>
      if b = true then te σ2 H3 fun y H4 => ∃ acc, H4 D = some (.lst acc) ∧ acc.length < sizeLine ∧ Pv (i + 1) (upd H4 D (.lst (acc ++ [y]))) else Pv (i + 1) H3) (hd : ∀ H, Pv xs.length H → Qd H) :
    ∃ W : Nat → Nat → Hp → Prop, (∃ m, W 0 m (upd H1 D (.lst []))) ∧ ∀ i m H, W i m H →
      ((Itl K a).stop i H ∧ Qd H) ∨ ((Itl K a).go i H ∧ ∃ Nx : Hp → Prop, (∀ H', Nx H' → ∃ m', m' < m ∧ W (i + 1) m' H') ∧ ∀ x H', (Itl K a).yld i H x H' → g x (wipe σ vs) H' fun σ2 H2 => wipe σ2 vs = wipe σ vs ∧ tt σ2 H2 fun b H3 =>
        if b = true then te σ2 H3 fun y H4 => ∃ acc, H4 D = some (.lst acc) ∧ acc.length < sizeLine ∧ Nx (upd H4 D (.lst (acc ++ [y]))) else Nx H3) := by
  refine ⟨fun i m H => m = xs.length - i ∧ i ≤ xs.length ∧ Pv i H, ⟨xs.length, by simp, Nat.zero_le _, h0⟩, ?_⟩
  rintro i m H ⟨rfl, hi, p⟩
  have q := hl i H hi p
  by_cases hlt : i < xs.length
  · refine .inr ⟨⟨xs, xs[i], q, by simp [hlt]⟩, Pv (i + 1), fun H' p' => ⟨xs.length - (i + 1), by omega, rfl, hlt, p'⟩, fun x H' y => ?_⟩
    obtain ⟨e, y⟩ := y
    subst e
    exact hs i x _ (y xs q) p
  · have e : i = xs.length := by omega
    subst e
    exact .inl ⟨⟨xs, q, Nat.le_refl _⟩, hd H p⟩
def blkC (N : List Str) (sc scope : Scope) (own : List (Str × Nat)) : Bool :=
  (match scope.kind with | .function => true | _ => false) && (scope.names.all fun y => decide (scope.names.lookup y.1 = some y.2)) && (own.all fun p => decide (N[p.2]? = some p.1)) &&
    (scope.names.all fun y => match y.2 with
      | .free => (match sc.names.lookup y.1 with | some .cell => true | some .free => true | _ => false)
      | .local => decide (y.1 ∈ own.map (·.1)) || decide (y.1 ∉ N)
      | .cell => decide (y.1 ∈ own.map (·.1)) || decide (y.1 ∉ N)
      | _ => true)
theorem blkOk_by {N : List Str} {sc scope : Scope} {own : List (Str × Nat)} (h : blkC N sc scope own = true) : BlkOk N sc scope own := by
  unfold blkC at h
  simp only [Bool.and_eq_true, List.all_eq_true, decide_eq_true_eq] at h
  obtain ⟨⟨⟨h1, h2⟩, h3⟩, h4⟩ := h
  refine ⟨?_, h2, h3, fun y hy e => ?_, fun y hy e => ?_⟩
  · split at h1
    · assumption
    · cases h1
  · have q := h4 y hy
    simp only [e] at q
    split at q <;> first | exact .inl (by assumption) | exact .inr (by assumption) | cases q
  · have q := h4 y hy
    rcases e with e | e <;> (simp only [e, Bool.or_eq_true, decide_eq_true_eq] at q; exact q)
end L2
namespace L2
open PySem PySem.Spec PyProof.Rows
section
variable {prog : Program} {w : World} {A : Around} {R : Result → Shared → Prop} {s : Shared} {elt t0 i0 t1 i1 : Expr} {ifs0 ifs1 : List Expr} {scope : Scope} {pos : Pos} {it acc : Value} {env : Env}
end
section
variable {X : Cx}
end
end L2
namespace L2
open PySem PySem.Spec PyProof.Rows
section
variable {κ : Type} [DecidableEq κ]
end
section
variable {P : Program} {w : World} {H : Hp} {h : Heap} {a : Addr}
end
section
variable {X : Cx} {pins : List (Addr × Obj)} {σ : St} {H : Hp} {s : Shared} {a : Addr} {y v : V} {u r : Value} {o : Option V} {A : Around} {E : Value → Shared → Prop}
end
section
variable {X : Cx} {pins : List (Addr × Obj)} {σ : St} {H : Hp} {s : Shared} {a : Addr} {kvs : List (Key × V)} {k : Key} {u : Value} {A : Around} {E : Value → Shared → Prop}
end
/-- the element of a subscription, not a slice -/
def NoSl (i : Expr) : Prop := ∀ ov iv, subscripted i false ov iv = operate [ov, iv] (getItem ov iv)
theorem subD_of {prog : Program} {w : World} {A : Around} {E : Value → Shared → Prop} {s : Shared} {env : Env} {value slice : Expr} {pos : Pos} {T id : String} {Q : Value → Shared → Prop}
    (hl : typeLookup (.type T) "__getitem__" = pure (some (.builtin id))) (hs : NoSl slice)
    (h : wpAny (model prog w) A (eval value env) (fun o s₁ => wpAny (model prog w) A (eval slice env) (fun i s₂ => s₂.TypeIs o T ∧ wpAny (model prog w) A (getItem o i) Q E s₂) E s₁) E s) :
    wpAny (model prog w) A (eval (.Subscript value slice pos) env) Q E s := by
  refine Subscript_ (wpAny_mono h (fun o s₁ h₁ => wpAny_mono h₁ (fun i s₂ h₂ => ?_) fun _ _ x => x) fun _ _ x => x)
  obtain ⟨hT, h₂⟩ := h₂
  unfold subscriptTail
  refine wpAny_bind ?_
  rw [getitemInPython_of_ne hT.not_modules]
  refine wpAny_bind (wpAny_specialOf hT hl ?_)
  have fin : wpAny (model prog w) A (subscripted slice false o i) (fun r s₃ => wpAny (model prog w) A (letTemporaryGo value o r >>= fun _ => pure r) Q E s₃) E s₂ := by
    rw [hs o i]
    exact wpAny_operating (wpAny_mono h₂ (fun r s₃ h₃ => wpAny_bind (wpAny_letTemporaryGo (wpAny_pure h₃))) fun _ _ x => x)
  first
    | exact wpAny_pure (wpAny_bind fin)
    | exact wpAny_bind (wpAny_pure (wpAny_bind fin))
    | exact wpAny_bind fin
section
variable {X : Cx} {o i e value : Expr} {pos pos' tpos : Pos} {td ty tv : TE}
end
section
variable {X : Cx} {pos : Pos}
end
section
variable {X : Cx} {pins : List (Addr × Obj)} {σ : St} {H : Hp} {s : Shared} {a : Addr} {y d : V} {u r : Value} {o : Option V} {A : Around} {E : Value → Shared → Prop}
end
section
variable {X : Cx} {o e f : Expr} {apos cpos : Pos} {td ty tx : TE}
end
section
variable {X : Cx} {pins : List (Addr × Obj)} {σ : St} {H : Hp} {s : Shared} {a : Addr} {kvs : List (Key × V)} {A : Around} {E : Value → Shared → Prop}
end
section
variable {X : Cx} {pins : List (Addr × Obj)} {σ : St} {H : Hp} {s : Shared} {a : Addr} {y : V} {u : Value} {A : Around} {E : Value → Shared → Prop}
end
end L2
namespace L2
open PySem PySem.Spec PyProof.Rows
section
variable {prog : Program} {w : World} {A : Around} {E : Value → Shared → Prop}
end
section
variable {X : Cx}
end
end L2
namespace L2
open PySem PySem.Spec PyProof.Rows
section
variable {X : Cx} {pins : List (Addr × Obj)} {σ : St} {H : Hp} {s : Shared} {h' : Heap}
end
section
variable {X : Cx}
end
section
variable {X : Cx} {tg : Expr}
end
section
variable {X : Cx} {tg : Expr}
end
section
variable {prog : Program} {w : World} {A : Around} {E : Value → Shared → Prop} {s : Shared}
end
section
variable {X : Cx} {pins : List (Addr × Obj)} {σ : St} {H : Hp} {s : Shared} {d : Addr} {o : Obj}
end
section
variable {P : Program} {w : World} {K : PySem.W.Frag} {tg : Expr} {d : Addr} {o : Obj} {es : Array DictEntry} {ep : Nat}
end
section
variable {X : Cx} {tg e : Expr} {td : TE} {apos cpos : Pos}
end
end L2
section 
namespace Bits
open PySem PyProof.Rows
end Bits
end 
section 
namespace TL
open PySem PySem.Builtin PySem.Builtin.Str PySem.StrLaws
end TL
end 
namespace L2
open PySem PySem.Spec PyProof.Rows
section
variable {X : Cx} {pins : List (Addr × Obj)} {σ : St} {H : Hp} {s : Shared} {Q : VK}
end
section
variable {X : Cx}
end
section
variable {X : Cx} {o e : Expr} {to te : TE}
end
end L2
namespace L2
open PySem PySem.Spec PyProof.Rows
section
variable {X : Cx}
end
end L2
namespace Att
open PySem PySem.W PySem.Calls PyProof.Rows
section
variable {prog : Program} {w : World} {A : Around} {E : Value → Shared → Prop} {s : Shared} {K : Frag}
end
end Att
namespace L2
open PySem PySem.Spec PyProof.Rows
end L2
namespace L2
open PySem PySem.Spec PyProof.Rows
end L2
namespace L2
open PySem PySem.Spec PyProof.Rows
/-- the j-th statement of a class's body -/
def inClass (s : Stmt) (j : Nat) : Stmt := match s with
  | .ClassDef _ _ _ body _ _ _ _ _ _ _ => body.getD j (.Pass ⟨0, 0, 0, 0⟩)
  | _ => .Pass ⟨0, 0, 0, 0⟩
def defArgs (s : Stmt) : Arguments := match s with
  | .FunctionDef _ a _ _ _ _ _ _ _ _ => a
  | _ => { posonlyargs := [], args := [], vararg := none, kwonlyargs := [], kw_defaults := [], kwarg := none, defaults := [] }
def defBody (s : Stmt) : List Stmt := match s with
  | .FunctionDef _ _ b _ _ _ _ _ _ _ => b
  | _ => []
def defScope (s : Stmt) : Scope := match s with
  | .FunctionDef _ _ _ _ _ _ sc _ _ _ => sc
  | _ => { kind := .function, names := [], isGenerator := false, isCoroutine := false }
abbrev CX0 : CXT := fun _ _ _ _ _ _ => False
abbrev E0 : XK := fun _ _ _ => False
theorem pass0 {X : Cx} : Passes CX0 X E0 := fun _ _ _ _ _ _ _ h => h.elim
structure Fun (K : PySem.W.Frag) (x qual : Str) (st : Stmt) (f : Addr) (fd : FuncData) : Prop where
  ex : ∃ (oc : Value) (od : Option Addr) (kV doc pm : Value) (an : Option Addr) (cdv ct : Value) (osl : Array (Option Value)),
    fd = PySem.W.fnOf x qual (defArgs st) (defBody st) (defScope st) .none kV doc pm an cdv ct ∧ K.lookup f = some ⟨oc, od, .func fd, osl⟩ ∧ PySem.W.codeIn K cdv qual = true
  kp : PySem.W.keepIn K (.ref f) = true
section
variable {P : Program} {w : World} {K : PySem.W.Frag} {mg : Str → Option Value} {base : Heap}
/-- THE RULE for a def: its body as a term of rules, and the reading of that term -/
theorem Fun.ok {x qual : Str} {st : Stmt} {f : Addr} {fd : FuncData} {N ps : List Str} {k : Nat} {sp : Sp} (F : Fun K x qual st f fd) (S : FnScope N ps (defScope st)) (len : ∀ vs H Q E, sp vs H Q E → vs.length = ps.length)
    (hbody : ∀ (cdv : Value) (A : Around) (outer : List Env) (s : Shared) (H : Hp) (vs : List V) (Q : VK) (E : XK), Room k (A.deeper (envOfC qual (defScope st) s.heap.objs.size f cdv)) → sp vs H Q E →
      ∃ t, PSs (cxOf CX0 P w K mg base N qual (defScope st) f cdv A outer s H E).nox (defBody st) t ∧ t { nx := fun _ H' => Q .non H', rt := Q } (start N vs) H) : FnOk P w K mg base CX0 (k + 1) f fd ps sp := by
  obtain ⟨oc, od, kV, doc, pm, an, cdv, ct, osl, rfl, lk, hcd⟩ := F.ex
  refine fn_of lk hcd S len fun A outer s H vs Q E hr hsp => ?_
  obtain ⟨t, h, q⟩ := hbody cdv A outer s H vs Q E hr hsp
  exact ⟨t, h.nox, q⟩
/-- how its arguments bind (no defaults): h is «fun _ _ _ _ _ _ us hl => match us, hl with | [_, _], _ => rfl», one _ a parameter -/
theorem Fun.binds {x qual : Str} {st : Stmt} {f : Addr} {fd : FuncData} {ps : List Str} (F : Fun K x qual st f fd)
    (h : ∀ (kV doc pm : Value) (an : Option Addr) (cdv ct : Value) (us : List Value), us.length = ps.length → bindArgs (PySem.W.fnOf x qual (defArgs st) (defBody st) (defScope st) .none kV doc pm an cdv ct) ⟨us, []⟩ = pure (ps.zip us)) : Binds K fd ps [] := by
  obtain ⟨oc, od, kV, doc, pm, an, cdv, ct, osl, rfl, lk, hcd⟩ := F.ex
  exact .all (h kV doc pm an cdv ct)
theorem fun_mk {x qual : Str} {st : Stmt} {f : Addr} {oc : Value} {od an : Option Addr} {osl : Array (Option Value)} {kV doc pm cdv ct : Value} (l : K.lookup f = some ⟨oc, od, .func (PySem.W.fnOf x qual (defArgs st) (defBody st) (defScope st) .none kV doc pm an cdv ct), osl⟩)
    (c : PySem.W.codeIn K cdv qual = true) (k : PySem.W.keepIn K (.ref f) = true) : Fun K x qual st f (PySem.W.fnOf x qual (defArgs st) (defBody st) (defScope st) .none kV doc pm an cdv ct) := ⟨⟨oc, od, kV, doc, pm, an, cdv, ct, osl, rfl, l, c⟩, k⟩
end
section
variable {X : Cx}
theorem pv (i : Nat) {x : Str} {pos : Pos} (hN : X.N[i]? = some x := by rfl) (hv : Vis X.env.scope x := by first | exact Or.inl rfl | exact Or.inr (Or.inl rfl) | exact Or.inr (Or.inr rfl)) (hd : (x == ("__debug__" : Str)) = false := by decide)
    (hcd : (x == ("__classdict__" : Str)) = false := by decide) : PE X (.Name x pos) (tVar i) := pe_var hN hv hd hcd
end
theorem iteF {A B : Prop} (h : B) : if false = true then A else B := by
  rw [if_neg Bool.false_ne_true]
  exact h
theorem iteT {A B : Prop} (h : A) : if true = true then A else B := by
  rw [if_pos rfl]
  exact h
/-- all that was tracked is as it was -/
def Same (H H' : Hp) : Prop := ∀ b o, H b = some o → H' b = some o
theorem Same.refl (H : Hp) : Same H H := fun _ _ h => h
theorem Same.trans {H H1 H2 : Hp} (a : Same H H1) (b : Same H1 H2) : Same H H2 := fun c o h => b c o (a c o h)
section
variable {κ : Type} [DecidableEq κ]
end
theorem at_of {xs : List V} {z : Int} {j : Nat} {v : V} (e : z = (j : Int)) (h : xs[j]? = some v) : atI xs z = some v := by
  rw [e]
  exact atI_nat h
/-- a new instance and its __init__ leave all that was tracked as it was -/
theorem Same.made {H H1 : Hp} {x dx C : Addr} (nx : H x = Option.none) (nd : H dx = Option.none) (k : ∀ b o, (upd (upd H dx (.own x)) x (.ins C dx [])) b = some o → b ≠ x → H1 b = some o) : Same H H1 := fun b o e =>
  k b o (by rw [upd_ne (ne_of_none e nx), upd_ne (ne_of_none e nd)]; exact e) (ne_of_none e nx)
end L2
section
set_option Elab.async false
set_option linter.all false
set_option maxRecDepth 100000
set_option maxHeartbeats 2000000
namespace L2
open PySem PySem.Spec PyProof.Rows
open PySem.W (WData Codec OpenSpec Well WellAll ReadsW ReadsAllW)
mutual
/-- x stands for the datum d, lists and tuples all the way -/
inductive Dw (K : PySem.W.Frag) (H : Hp) : V → WData → Prop
  | non : Dw K H .non .none
  | bl (b : Bool) : Dw K H (.bl b) (.bool b)
  | int (i : Int) : Dw K H (.int i) (.int i)
  | str (x : Str) : Dw K H (.str x) (.str x)
  | byt (b : Array UInt8) : Dw K H (.byt b) (.bytes b.toList)
  | lst {a : Addr} {xs : List V} {ds : List WData} : SqL K H a xs → DwAll K H xs ds → Dw K H (.ref a) (.list ds)
  | tup {a : Addr} {xs : List V} {ds : List WData} : SqT K H a xs → DwAll K H xs ds → Dw K H (.ref a) (.tuple ds)
inductive DwAll (K : PySem.W.Frag) (H : Hp) : List V → List WData → Prop
  | nil : DwAll K H [] []
  | cons {v : V} {vs : List V} {d : WData} {ds : List WData} : Dw K H v d → DwAll K H vs ds → DwAll K H (v :: vs) (d :: ds)
end
theorem dw_ints {K : PySem.W.Frag} {H : Hp} : ∀ ns : List Int, DwAll K H (ns.map V.int) (ns.map WData.int)
  | [] => .nil
  | n :: r => .cons (.int n) (dw_ints r)
theorem ints_dw {K : PySem.W.Frag} {H : Hp} : ∀ (ns : List Int) (xs : List V), DwAll K H xs (ns.map WData.int) → xs = ns.map V.int
  | [], xs, h => by
    cases h
    rfl
  | n :: r, xs, h => by
    cases h with
    | cons h1 h2 =>
      cases h1
      rw [ints_dw r _ h2] <;> rfl
section
variable {P : Program} {w : World} {K : PySem.W.Frag} {H : Hp} {h : Heap} {R : PySem.W.WRecords} {cl : Str → Option Addr}
theorem sqL_at {a : Addr} {xs : List V} (hok : HOk P w H h) (KX : K.In h) (q : SqL K H a xs) : ∃ (its : List Value) (o : Obj) (n : Nat), Vals xs its ∧ h.get? a = some o ∧ o.cls = .type "list" ∧ o.data = .seq its.toArray n := by
  rcases q with q | ⟨o, its, n, e, hc, _, hd, _, hv⟩
  · obtain ⟨_, its, n, hv, e⟩ := (show ObjOk P w H h a (.lst xs) from q.ok hok)
    exact ⟨its, _, n, hv, e, rfl, rfl⟩
  · exact ⟨its.toList, o, n, hv, KX _ _ e, hc, by simp [hd]⟩
theorem sqT_at {a : Addr} {xs : List V} (hok : HOk P w H h) (KX : K.In h) (q : SqT K H a xs) : ∃ (its : List Value) (o : Obj) (n : Nat), Vals xs its ∧ h.get? a = some o ∧ o.cls = .type "tuple" ∧ o.data = .seq its.toArray n := by
  rcases q with q | ⟨o, its, n, e, hc, hd, _, hv⟩
  · obtain ⟨_, its, hv, o, e, hc, n, hd⟩ := (show ObjOk P w H h a (.tup xs) from q.ok hok)
    exact ⟨its, o, n, hv, e, hc, hd⟩
  · exact ⟨its.toList, o, n, hv, KX _ _ e, hc, by simp [hd]⟩
mutual
theorem Dw.reads (hok : HOk P w H h) (KX : K.In h) : ∀ (d : WData) (v : V) (u : Value), Dw K H v d → RelV v u → ∃ as, ReadsW R cl h u d as
  | .none, _, _, x, r => by
    cases x
    cases r
    exact ⟨_, ReadsW.none⟩
  | .bool b, _, _, x, r => by
    cases x
    cases r
    exact ⟨_, ReadsW.bool b⟩
  | .int i, _, _, x, r => by
    cases x
    obtain ⟨t, rfl⟩ := r
    exact ⟨_, ReadsW.int i t⟩
  | .str s, _, _, x, r => by
    cases x
    obtain ⟨t, rfl⟩ := r
    exact ⟨_, ReadsW.str s t⟩
  | .bytes b, _, _, x, r => by
    cases x
    obtain ⟨t, rfl⟩ := r
    exact ⟨_, ReadsW.bytes _ t⟩
  | .list ds, _, _, x, r => by
    cases x with
    | lst hs ha =>
      cases r
      obtain ⟨its, o, n, rv, ho, hc, hd⟩ := sqL_at hok KX hs
      obtain ⟨as, hr⟩ := Dw.readsAll hok KX ds _ its ha rv
      exact ⟨_, ReadsW.list ho hc hd hr⟩
  | .tuple ds, _, _, x, r => by
    cases x with
    | tup hs ha =>
      cases r
      obtain ⟨its, o, n, rv, ho, hc, hd⟩ := sqT_at hok KX hs
      obtain ⟨as, hr⟩ := Dw.readsAll hok KX ds _ its ha rv
      exact ⟨_, ReadsW.tuple ho hc hd hr⟩
  | .float _, _, _, x, _ => by cases x
  | .dict _, _, _, x, _ => by cases x
  | .bytearray _, _, _, x, _ => by cases x
  | .set _, _, _, x, _ => by cases x
  | .frozenset _, _, _, x, _ => by cases x
  | .obj _ _, _, _, x, _ => by cases x
theorem Dw.readsAll (hok : HOk P w H h) (KX : K.In h) : ∀ (ds : List WData) (vs : List V) (us : List Value), DwAll K H vs ds → Vals vs us → ∃ as, ReadsAllW R cl h us ds as
  | [], _, _, x, r => by
    cases x
    cases r
    exact ⟨_, ReadsAllW.nil⟩
  | d :: ds, _, _, x, r => by
    cases x with
    | cons h1 h2 =>
      cases r with
      | cons r1 r2 =>
        obtain ⟨as, q1⟩ := Dw.reads hok KX d _ _ h1 r1
        obtain ⟨bs, q2⟩ := Dw.readsAll hok KX ds _ _ h2 r2
        exact ⟨_, ReadsAllW.cons q1 q2⟩
end
end
mutual
/-- data that a codec tells -/
def plW : WData → Bool
  | .none => true
  | .bool _ => true
  | .int _ => true
  | .str _ => true
  | .bytes _ => true
  | .list xs => plWs xs
  | .tuple xs => plWs xs
  | _ => false
def plWs : List WData → Bool
  | [] => true
  | x :: r => plW x && plWs r
end
theorem plWs_map {α : Type} {f : α → WData} (h : ∀ a, plW (f a) = true) : ∀ l : List α, plWs (l.map f) = true
  | [] => rfl
  | x :: r => by
    show (plW (f x) && plWs (r.map f)) = true
    rw [h x, plWs_map h r] <;> rfl
theorem pl_enc : ∀ (c : Codec) (a : c.denote), plW (c.enc a) = true
  | .unit, _ => rfl
  | .bool, _ => rfl
  | .int _ _, _ => rfl
  | .nat _ _, _ => rfl
  | .u8, _ => rfl
  | .bytes _ _, _ => rfl
  | .text _ _ _ _, _ => rfl
  | .list _ _ c, a => plWs_map (fun x => pl_enc c x) a
  | .pair c d, a => by
    show (plW (c.enc a.1) && (plW (d.enc a.2) && true)) = true
    rw [pl_enc c a.1, pl_enc d a.2] <;> rfl
  | .triple c d e, a => by
    show (plW (c.enc a.1) && (plW (d.enc a.2.1) && (plW (e.enc a.2.2) && true))) = true
    rw [pl_enc c a.1, pl_enc d a.2.1, pl_enc e a.2.2] <;> rfl
  | .option c, none => rfl
  | .option c, some x => pl_enc c x
theorem pl_encAll : ∀ (cs : List Codec) (a : Codec.denoteAll cs), plWs (Codec.encAll cs a) = true
  | [], _ => rfl
  | c :: cs, a => by
    show (plW (c.enc a.1) && plWs (Codec.encAll cs a.2)) = true
    rw [pl_enc c a.1, pl_encAll cs a.2] <;> rfl
theorem weight_mem : ∀ {xs : List WData} {d : WData}, d ∈ xs → d.weight ≤ WData.weightAll xs
  | [], d, h => absurd h (by simp)
  | x :: r, d, h => by
    show d.weight ≤ x.weight + 1 + WData.weightAll r
    rcases List.mem_cons.mp h with e | m
    · rw [e]
      omega
    · have z := weight_mem m
      omega
def toV : Value → V
  | .none => .non
  | .bool b => .bl b
  | .int i _ => .int i
  | .str x _ => .str x
  | .bytes b _ => .byt b
  | .ref a => .ref a
  | _ => .non
/-- a value of the arguments, its objects among A -/
def OkU (A : List Addr) : Value → Prop
  | .none => True
  | .bool _ => True
  | .int _ _ => True
  | .str _ _ => True
  | .bytes _ _ => True
  | .ref a => a ∈ A
  | _ => False
theorem OkU.mono {A B : List Addr} (h : ∀ a ∈ A, a ∈ B) : ∀ {u : Value}, OkU A u → OkU B u := fun {u} x => by
  cases u with
  | ref a => exact h a x
  | none => trivial
  | bool b => trivial
  | int i t => trivial
  | str s t => trivial
  | bytes b t => trivial
  | _ => exact False.elim x
theorem relV_toV {A : List Addr} {u : Value} (x : OkU A u) : RelV (toV u) u := by
  cases u with
  | ref a => rfl
  | none => rfl
  | bool b => rfl
  | int i t => exact ⟨t, rfl⟩
  | str s t => exact ⟨t, rfl⟩
  | bytes b t => exact ⟨t, rfl⟩
  | _ => exact False.elim x
theorem vals_toV {A : List Addr} : ∀ {vs : List Value}, (∀ u ∈ vs, OkU A u) → Vals (vs.map toV) vs
  | [], _ => .nil
  | u :: r, h => .cons (relV_toV (h u (List.mem_cons_self ..))) (vals_toV fun x hx => h x (List.mem_cons_of_mem _ hx))
/-- an object of the arguments -/
def ArgOb (h : Heap) (A : List Addr) (a : Addr) : Prop := ∃ vs : List Value, vs.length ≤ sizeLine ∧ (∀ u ∈ vs, OkU A u) ∧
  (h.get? a = some { cls := .type "list", data := .seq vs.toArray } ∨ h.get? a = some { cls := .type "tuple", data := .seq vs.toArray })
theorem ArgOb.mono {h : Heap} {A B : List Addr} {a : Addr} (k : ∀ a ∈ A, a ∈ B) (x : ArgOb h A a) : ArgOb h B a := by
  obtain ⟨vs, h1, h2, h3⟩ := x
  exact ⟨vs, h1, fun u hu => (h2 u hu).mono k, h3⟩
theorem wellAll_len {P : Params} {h : Heap} : ∀ {vs : List Value} {ds : List WData}, WellAll P h vs ds → vs.length = ds.length
  | _, _, .nil => rfl
  | _, _, .cons _ b => by
    show _ + 1 = _ + 1
    rw [wellAll_len b]
theorem well_list {P : Params} {h : Heap} {v : Value} {ds : List WData} (x : Well P h v (.list ds)) : ∃ (a : Addr) (vs : List Value), v = .ref a ∧ h.get? a = some { cls := .type "list", data := .seq vs.toArray } ∧ WellAll P h vs ds := by
  cases x with
  | list ho hall => exact ⟨_, _, rfl, ho, hall⟩
theorem well_tuple {P : Params} {h : Heap} {v : Value} {ds : List WData} (x : Well P h v (.tuple ds)) : ∃ (a : Addr) (vs : List Value), v = .ref a ∧ h.get? a = some { cls := .type "tuple", data := .seq vs.toArray } ∧ WellAll P h vs ds := by
  cases x with
  | tuple ho hall => exact ⟨_, _, rfl, ho, hall⟩
theorem well_cons {P : Params} {h : Heap} {us : List Value} {d : WData} {ds : List WData} (x : WellAll P h us (d :: ds)) : ∃ (v : Value) (vs : List Value), us = v :: vs ∧ Well P h v d ∧ WellAll P h vs ds := by
  cases x with
  | cons a b => exact ⟨_, _, rfl, a, b⟩
theorem line_of {n : Nat} (h : n ≤ 1048576) : n ≤ sizeLine := Nat.le_trans h (by decide)
section
variable {P : Params} {h : Heap}
mutual
theorem area_one : ∀ (d : WData) (v : Value), Well P h v d → plW d = true → d.weight ≤ 1048576 → ∃ A : List Addr, OkU A v ∧ ∀ a ∈ A, ArgOb h A a
  | .none, _, x, _, _ => by
    cases x
    exact ⟨[], trivial, fun a m => absurd m (by simp)⟩
  | .bool b, _, x, _, _ => by
    cases x
    exact ⟨[], trivial, fun a m => absurd m (by simp)⟩
  | .int i, _, x, _, _ => by
    cases x
    exact ⟨[], trivial, fun a m => absurd m (by simp)⟩
  | .str s, _, x, _, _ => by
    cases x
    exact ⟨[], trivial, fun a m => absurd m (by simp)⟩
  | .bytes b, _, x, _, _ => by
    cases x
    exact ⟨[], trivial, fun a m => absurd m (by simp)⟩
  | .list ds, _, x, p, z => by
    obtain ⟨a, vs, rfl, ho, hall⟩ := well_list x
    have z2 : WData.weightAll ds ≤ 1048576 := z
    obtain ⟨A, h1, h2⟩ := area_all ds _ hall p fun d hd => Nat.le_trans (weight_mem hd) z2
    have k : ∀ b ∈ A, b ∈ a :: A := fun b hb => List.mem_cons_of_mem _ hb
    refine ⟨a :: A, List.mem_cons_self .., fun b hb => ?_⟩
    rcases List.mem_cons.mp hb with e | m
    · rw [e]
      exact ⟨vs, line_of (by rw [wellAll_len hall]; exact Nat.le_trans (PySem.W.length_le_weightAllW ds) z2), fun u hu => (h1 u hu).mono k, .inl ho⟩
    · exact (h2 b m).mono k
  | .tuple ds, _, x, p, z => by
    obtain ⟨a, vs, rfl, ho, hall⟩ := well_tuple x
    have z2 : WData.weightAll ds ≤ 1048576 := z
    obtain ⟨A, h1, h2⟩ := area_all ds _ hall p fun d hd => Nat.le_trans (weight_mem hd) z2
    have k : ∀ b ∈ A, b ∈ a :: A := fun b hb => List.mem_cons_of_mem _ hb
    refine ⟨a :: A, List.mem_cons_self .., fun b hb => ?_⟩
    rcases List.mem_cons.mp hb with e | m
    · rw [e]
      exact ⟨vs, line_of (by rw [wellAll_len hall]; exact Nat.le_trans (PySem.W.length_le_weightAllW ds) z2), fun u hu => (h1 u hu).mono k, .inr ho⟩
    · exact (h2 b m).mono k
  | .float _, _, _, p, _ => Bool.noConfusion (show false = true from p)
  | .dict _, _, _, p, _ => Bool.noConfusion (show false = true from p)
  | .bytearray _, _, _, p, _ => Bool.noConfusion (show false = true from p)
  | .set _, _, _, p, _ => Bool.noConfusion (show false = true from p)
  | .frozenset _, _, _, p, _ => Bool.noConfusion (show false = true from p)
  | .obj _ _, _, _, p, _ => Bool.noConfusion (show false = true from p)
theorem area_all : ∀ (ds : List WData) (vs : List Value), WellAll P h vs ds → plWs ds = true → (∀ d ∈ ds, d.weight ≤ 1048576) → ∃ A : List Addr, (∀ u ∈ vs, OkU A u) ∧ ∀ a ∈ A, ArgOb h A a
  | [], _, x, _, _ => by
    cases x
    exact ⟨[], fun u m => absurd m (by simp), fun a m => absurd m (by simp)⟩
  | d :: ds, _, x, p, z => by
    obtain ⟨v, vs, rfl, x1, x2⟩ := well_cons x
    have q : plW d = true ∧ plWs ds = true := Bool.and_eq_true_iff.mp p
    obtain ⟨A, a1, a2⟩ := area_one d v x1 q.1 (z d (List.mem_cons_self ..))
    obtain ⟨B, b1, b2⟩ := area_all ds vs x2 q.2 fun e he => z e (List.mem_cons_of_mem _ he)
    have kA : ∀ b ∈ A, b ∈ A ++ B := fun b hb => List.mem_append.mpr (.inl hb)
    have kB : ∀ b ∈ B, b ∈ A ++ B := fun b hb => List.mem_append.mpr (.inr hb)
    refine ⟨A ++ B, fun u hu => ?_, fun b hb => ?_⟩
    · rcases List.mem_cons.mp hu with e | m
      · rw [e]
        exact a1.mono kA
      · exact (b1 u m).mono kB
    · rcases List.mem_append.mp hb with m | m
      · exact (a2 b m).mono kA
      · exact (b2 b m).mono kB
end
end
/-- what is tracked of an argument's object -/
def hoOf (o : Obj) : Option HO := match o.data with
  | .seq vs _ => if (o.cls == Value.type "list") = true then some (.frz o (.lst (vs.toList.map toV))) else some (.frz o (.tup (vs.toList.map toV)))
  | _ => none
def argH (K : PySem.W.Frag) (h : Heap) (A : List Addr) : Hp := fun b => if b ∈ A then (if (K.lookup b).isNone = true then (h.get? b).bind hoOf else none) else none
/-- nothing is tracked but what is known to the object -/
def OnlyF (H : Hp) : Prop := ∀ b, H b = none ∨ ∃ o u, H b = some (.frz o u)
theorem hoOf_lst (vs : List Value) : hoOf { cls := .type "list", data := .seq vs.toArray } = some (.frz { cls := .type "list", data := .seq vs.toArray } (.lst (vs.map toV))) := by
  show (if (Value.type "list" == Value.type "list") = true then some (HO.frz { cls := .type "list", data := .seq vs.toArray } (.lst (vs.toArray.toList.map toV))) else some (HO.frz { cls := .type "list", data := .seq vs.toArray } (.tup (vs.toArray.toList.map toV)))) = _
  rw [if_pos (beq_self_eq_true _)]
theorem hoOf_tup (vs : List Value) : hoOf { cls := .type "tuple", data := .seq vs.toArray } = some (.frz { cls := .type "tuple", data := .seq vs.toArray } (.tup (vs.map toV))) := by
  show (if (Value.type "tuple" == Value.type "list") = true then some (HO.frz { cls := .type "tuple", data := .seq vs.toArray } (.lst (vs.toArray.toList.map toV))) else some (HO.frz { cls := .type "tuple", data := .seq vs.toArray } (.tup (vs.toArray.toList.map toV)))) = _
  rw [if_neg (by decide)]
section
variable {P : Program} {w : World} {K : PySem.W.Frag} {h : Heap} {A : List Addr}
theorem argH_at {b : Addr} {o : Obj} (hb : b ∈ A) (hk : K.lookup b = none) (e : h.get? b = some o) : argH K h A b = hoOf o := by
  unfold argH
  rw [if_pos hb, hk, if_pos (show (none : Option Obj).isNone = true from rfl), e] <;> rfl
theorem of_argH {b : Addr} {u : HO} (q : argH K h A b = some u) : b ∈ A ∧ K.lookup b = none := by
  unfold argH at q
  by_cases hb : b ∈ A
  · rw [if_pos hb] at q
    cases hk : K.lookup b with
    | none => exact ⟨hb, rfl⟩
    | some o =>
      rw [hk, if_neg (by simp)] at q
      cases q
  · rw [if_neg hb] at q
    cases q
/-- what stands tracked -/
theorem argH_is (ar : ∀ a ∈ A, ArgOb h A a) {b : Addr} {u : HO} (q : argH K h A b = some u) : K.lookup b = none ∧ ∃ vs : List Value, vs.length ≤ sizeLine ∧ (∀ u ∈ vs, OkU A u) ∧
    ((h.get? b = some { cls := .type "list", data := .seq vs.toArray } ∧ u = .frz { cls := .type "list", data := .seq vs.toArray } (.lst (vs.map toV))) ∨
     (h.get? b = some { cls := .type "tuple", data := .seq vs.toArray } ∧ u = .frz { cls := .type "tuple", data := .seq vs.toArray } (.tup (vs.map toV)))) := by
  obtain ⟨hb, hk⟩ := of_argH q
  obtain ⟨vs, h1, h2, h3⟩ := ar b hb
  refine ⟨hk, vs, h1, h2, ?_⟩
  rcases h3 with e | e
  · rw [argH_at hb hk e, hoOf_lst] at q
    exact .inl ⟨e, (Option.some.inj q).symm⟩
  · rw [argH_at hb hk e, hoOf_tup] at q
    exact .inr ⟨e, (Option.some.inj q).symm⟩
theorem argH_only (ar : ∀ a ∈ A, ArgOb h A a) : OnlyF (argH K h A) := fun b => by
  cases q : argH K h A b with
  | none => exact .inl rfl
  | some u =>
    obtain ⟨_, vs, _, _, ⟨_, e⟩ | ⟨_, e⟩⟩ := argH_is ar q
    · exact .inr ⟨_, _, by rw [e]⟩
    · exact .inr ⟨_, _, by rw [e]⟩
theorem argH_ok (ar : ∀ a ∈ A, ArgOb h A a) : HOk P w (argH K h A) h := fun b u q => by
  obtain ⟨_, vs, h1, h2, ⟨e, rfl⟩ | ⟨e, rfl⟩⟩ := argH_is ar q
  · exact ⟨e, by rw [List.length_map]; exact h1, vs, _, vals_toV h2, e⟩
  · exact ⟨e, by rw [List.length_map]; exact h1, vs, vals_toV h2, _, e, rfl, _, rfl⟩
theorem seq_inj {c c' : Value} {vs us : List Value} (e : (some { cls := c, data := .seq vs.toArray } : Option Obj) = some { cls := c', data := .seq us.toArray }) : c = c' ∧ vs = us := by
  have e1 := Option.some.inj e
  have e2 : c = c' := congrArg Obj.cls e1
  have e3 : Data.seq vs.toArray = Data.seq us.toArray := congrArg Obj.data e1
  injection e3 with e4
  refine ⟨e2, ?_⟩
  have e5 := congrArg Array.toList e4
  simpa using e5
/-- a list argument -/
theorem argL (KX : K.In h) (ar : ∀ a ∈ A, ArgOb h A a) {a : Addr} {vs : List Value} (ha : a ∈ A) (e : h.get? a = some { cls := .type "list", data := .seq vs.toArray }) : (∀ u ∈ vs, OkU A u) ∧ SqL K (argH K h A) a (vs.map toV) := by
  obtain ⟨us, h1, h2, h3⟩ := ar a ha
  have hu : us = vs := by
    rcases h3 with q | q
    · rw [e] at q
      exact (seq_inj q).2.symm
    · rw [e] at q
      exact absurd (Value.type.inj (seq_inj q).1) (by decide)
  subst hu
  refine ⟨h2, ?_⟩
  cases hk : K.lookup a with
  | none => exact .inl (.inr ⟨_, by rw [argH_at ha hk e, hoOf_lst]⟩)
  | some o =>
    have e2 := KX a o hk
    rw [e] at e2
    obtain rfl := Option.some.inj e2
    exact .inr ⟨_, us.toArray, _, hk, rfl, rfl, rfl, by rw [List.size_toArray]; exact h1, by simpa using vals_toV h2⟩
theorem argT (KX : K.In h) (ar : ∀ a ∈ A, ArgOb h A a) {a : Addr} {vs : List Value} (ha : a ∈ A) (e : h.get? a = some { cls := .type "tuple", data := .seq vs.toArray }) : (∀ u ∈ vs, OkU A u) ∧ SqT K (argH K h A) a (vs.map toV) := by
  obtain ⟨us, h1, h2, h3⟩ := ar a ha
  have hu : us = vs := by
    rcases h3 with q | q
    · rw [e] at q
      exact absurd (Value.type.inj (seq_inj q).1) (by decide)
    · rw [e] at q
      exact (seq_inj q).2.symm
  subst hu
  refine ⟨h2, ?_⟩
  cases hk : K.lookup a with
  | none => exact .inl (.inr ⟨_, by rw [argH_at ha hk e, hoOf_tup]⟩)
  | some o =>
    have e2 := KX a o hk
    rw [e] at e2
    obtain rfl := Option.some.inj e2
    exact .inr ⟨_, us.toArray, _, hk, rfl, rfl, by rw [List.size_toArray]; exact h1, by simpa using vals_toV h2⟩
mutual
theorem dw_one {Pm : Params} (KX : K.In h) (ar : ∀ a ∈ A, ArgOb h A a) : ∀ (d : WData) (v : Value), Well Pm h v d → plW d = true → OkU A v → Dw K (argH K h A) (toV v) d
  | .none, _, x, _, _ => by
    cases x
    exact .non
  | .bool b, _, x, _, _ => by
    cases x
    exact .bl b
  | .int i, _, x, _, _ => by
    cases x
    exact .int i
  | .str s, _, x, _, _ => by
    cases x
    exact .str s
  | .bytes b, _, x, _, _ => by
    cases x
    have z := Dw.byt (K := K) (H := argH K h A) b.toArray
    exact z
  | .list ds, _, x, p, hu => by
    obtain ⟨a, vs, rfl, ho, hall⟩ := well_list x
    obtain ⟨h2, hs⟩ := argL KX ar hu ho
    exact .lst hs (dw_all KX ar ds _ hall p h2)
  | .tuple ds, _, x, p, hu => by
    obtain ⟨a, vs, rfl, ho, hall⟩ := well_tuple x
    obtain ⟨h2, hs⟩ := argT KX ar hu ho
    exact .tup hs (dw_all KX ar ds _ hall p h2)
  | .float _, _, _, p, _ => Bool.noConfusion (show false = true from p)
  | .dict _, _, _, p, _ => Bool.noConfusion (show false = true from p)
  | .bytearray _, _, _, p, _ => Bool.noConfusion (show false = true from p)
  | .set _, _, _, p, _ => Bool.noConfusion (show false = true from p)
  | .frozenset _, _, _, p, _ => Bool.noConfusion (show false = true from p)
  | .obj _ _, _, _, p, _ => Bool.noConfusion (show false = true from p)
theorem dw_all {Pm : Params} (KX : K.In h) (ar : ∀ a ∈ A, ArgOb h A a) : ∀ (ds : List WData) (vs : List Value), WellAll Pm h vs ds → plWs ds = true → (∀ u ∈ vs, OkU A u) → DwAll K (argH K h A) (vs.map toV) ds
  | [], _, x, _, _ => by
    cases x
    exact .nil
  | d :: ds, _, x, p, hu => by
    obtain ⟨v, vs, rfl, x1, x2⟩ := well_cons x
    have q : plW d = true ∧ plWs ds = true := Bool.and_eq_true_iff.mp p
    exact .cons (dw_one KX ar d v x1 q.1 (hu _ (List.mem_cons_self ..))) (dw_all KX ar ds vs x2 q.2 fun u m => hu u (List.mem_cons_of_mem _ m))
end
end
theorem spec_call {P : Program} {w : World} {K : PySem.W.Frag} {mg mb : Str → Option Value} {CX : CXT} {k : Nat} {fa : Addr} {fd : FuncData} {ps : List Str} {sp : Sp} {s₁ : Shared} {vals : List Value} {ds : List WData} {R : PySem.W.WRecords} {cl : Str → Option Addr} {d0 : WData}
    (KX : K.In s₁.heap) (hns : s₁.heap.Ns mainGlobals mg) (hb : s₁.heap.Ns builtinsNs mb) (hbb : ∀ x : Str, x ≠ "__name__" → mb x = bootBuiltins x) (hlim : s₁.heap.NoLimit) (hg : s₁.gens = #[])
    (hwl : WellAll w.params s₁.heap vals ds) (hpl : plWs ds = true) (hwt : ∀ d ∈ ds, d.weight ≤ 1048576) (hr : Room k callerA)
    (F : ∀ base : Heap, K.In base → base.Ns mainGlobals mg → FnOk P w K mg base CX k fa fd ps sp) (hbind : ∀ (s : Shared) (us : List Value), us.length = ps.length → BindsTo s fd ⟨us, []⟩ (ps.zip us)) (hlen : ds.length = ps.length)
    (hsp : ∀ (H : Hp) (xs : List V), OnlyF H → DwAll K H xs ds → sp xs H (fun v H' => Dw K H' v d0) fun _ _ _ => False)
    (hCX : ∀ H e s', CX [] H s₁ (fun _ _ _ => False) e s' → False) :
    codeAny (model P w) callerA (.call (.ref fa) ⟨vals, []⟩) (fun r s' => ∃ u as, r = .ok (.ret u) ∧ ReadsW R cl s'.heap u d0 as ∧ OldK s₁.heap s'.heap ∧ s'.os = s₁.os ∧ AllBare s'.gens) s₁ := by
  obtain ⟨A, ho, ar⟩ := area_all ds vals hwl hpl hwt
  have hO : OnlyF (argH K s₁.heap A) := argH_only ar
  have hok : HOk P w (argH K s₁.heap A) s₁.heap := argH_ok ar
  have hS := dw_all KX ar ds vals hwl hpl ho
  have hV := vals_toV ho
  have hK : ∀ b u, argH K s₁.heap A b = some u → K.lookup b = none := fun b u q => (argH_is ar q).1
  have noA : ∀ {b : Addr} {o : Obj} {es : Array DictEntry} {ep : Nat}, s₁.heap.get? b = some o → o.data = .dict es ep → argH K s₁.heap A b = none := fun {b o es ep} e d => by
    cases q : argH K s₁.heap A b with
    | none => rfl
    | some u =>
      obtain ⟨_, vs, _, _, ⟨e2, _⟩ | ⟨e2, _⟩⟩ := argH_is ar q
      · rw [e2] at e
        cases e
        have d' : Data.seq vs.toArray _ = Data.dict es ep := d
        cases d'
      · rw [e2] at e
        cases e
        have d' : Data.seq vs.toArray _ = Data.dict es ep := d
        cases d'
  generalize argH K s₁.heap A = H at hO hok hS hK noA
  have base_of : ∀ {b : Addr} {o : Obj}, s₁.heap.get? b = some o → H b = none → (hidT s₁.heap H).get? b = some o := fun e n => hidT_get e n
  have nsK : ∀ {b : Addr} {m : Str → Option Value}, s₁.heap.Ns b m → (hidT s₁.heap H).Ns b m := fun {b m} ⟨o, es, ep, e, d, r⟩ => ⟨o, es, ep, base_of e (noA e d), d, r⟩
  have nK : ∀ b o, K.lookup b = some o → H b = none := fun b o e => by
    cases q : H b with
    | none => rfl
    | some u =>
      rw [hK b u q] at e
      cases e
  have hKb : K.In (hidT s₁.heap H) := fun b o e => base_of (KX b o e) (nK b o e)
  have hM : Mod K mg (hidT s₁.heap H) := ⟨hKb, nsK hns, ⟨mb, nsK hb, hbb⟩, let ⟨mc, h1, h2⟩ := hlim; ⟨mc, nsK h1, h2⟩⟩
  have e0 : Env0 P w K mg (hidT s₁.heap H) callerA [] s₁ H := ⟨rfl, hM, fun b o e => of_hidT e, Nat.le_of_eq (hidT_size _ _), trivial, fun b hb => absurd (show b ∈ ([] : List Addr) from hb) (by simp), hok, .of_eq hg⟩
  have hl : vals.length = ps.length := by rw [wellAll_len hwl]; exact hlen
  refine codeAny_mono ((F _ hKb (nsK hns)).run callerA [] s₁ H ⟨vals, []⟩ vals (vals.map toV) _ _ hr e0 (hbind s₁ vals hl) hV (hsp H _ hO hS)) fun r s' x => ?_
  cases r with
  | error e => exact (hCX H e s' x).elim
  | ok fl =>
    cases fl with
    | next => exact False.elim x
    | brk => exact False.elim x
    | cont => exact False.elim x
    | ret u =>
      obtain ⟨v, H', os, bare, un, hok', r', q⟩ := x
      have kept : ∀ b o, s₁.heap.get? b = some o → s'.heap.get? b = some o := fun b o e => by
        cases q2 : H b with
        | none => exact un.keep b o e q2 (by intro z; exact absurd (show b ∈ ([] : List Addr) from z) (by simp)) (by simp)
        | some u2 =>
          rcases hO b with z | ⟨ob, u3, z⟩
          · rw [q2] at z
            cases z
          · have z2 := un.frzs b ob _ z
            obtain ⟨e1, _⟩ := hok b _ z
            obtain ⟨e2, _⟩ := hok' b _ z2
            rw [e] at e1
            cases e1
            exact e2
      have KX' : K.In s'.heap := fun b o e => kept b o (KX b o e)
      obtain ⟨as, hrd⟩ := Dw.reads (R := R) (cl := cl) hok' KX' d0 v u q r'
      exact ⟨u, as, rfl, hrd, OldK.of_keep kept, os, bare⟩
theorem layable_weight {ds : List WData} (h : WData.layableAll ds = true) : ∀ d ∈ ds, d.weight ≤ 1048576 := fun d hd =>
  (PySem.W.layableW_iff.mp (List.all_eq_true.mp h d hd)).2.2
theorem encAll_len : ∀ (cs : List Codec) (a : Codec.denoteAll cs), (Codec.encAll cs a).length = cs.length
  | [], _ => rfl
  | c :: cs, a => by
    show (Codec.encAll cs a.2).length + 1 = cs.length + 1
    rw [encAll_len cs a.2]
/-- the goal that k_headS leaves (case hc), from the promise of the row's def: whatever the arguments that the codecs let and the row asks for, the def gives what stands for enc (f ..) -/
theorem walk_spec {r : OpenSpec} {k : Nat} {q : Program} {loose : List Str} {XP : (Str → Option Value) → Heap → Prop} {YP : World → Heap → Prop} {d : DefRec} {K : Params → PySem.W.Frag} {CX : World → CXT} {ps : List Str} {sp : World → Sp}
    (hwell : r.wellSaid = true) (hdf : d.params.defaults = []) (hlen : r.args.length = ps.length) (hr : Room k callerA)
    (hY : ∀ (w : World) (h : Heap), YP w h → (K w.params).In h)
    (F : ∀ (w : World) (mg : Str → Option Value) (fa : Addr) (h : Heap), YP w h → (K w.params).In h → h.Ns mainGlobals mg → mg d.name = some (.ref fa) →
      ∃ fd : FuncData, (∀ (s : Shared) (us : List Value), us.length = ps.length → BindsTo s fd ⟨us, []⟩ (ps.zip us)) ∧
        ∀ base : Heap, (K w.params).In base → base.Ns mainGlobals mg → FnOk r.prog w (K w.params) mg base (CX w) k fa fd ps (sp w))
    (hsp : ∀ (w : World) (H : Hp) (xs : List V) (a : Codec.denoteAll r.args), OnlyF H → Codec.withinAll r.args a = true → Codec.app r.args r.asked a = true → DwAll (K w.params) H xs (Codec.encAll r.args a) →
      sp w xs H (fun v H' => Dw (K w.params) H' v (r.ret.enc (Codec.app r.args r.f a))) fun _ _ _ => False)
    (hCX : ∀ (w : World) (H : Hp) (s : Shared) (e : Value) (s' : Shared), CX w [] H s (fun _ _ _ => False) e s' → False) :
    PySem.W.WalkOS q loose XP YP r d [] (fun f vs => PySem.call f vs) := by
  intro w s_0 s₁ mg mb G Y fa o pm cd doc dV kV ho hd hcd hD hmg hg args vals as hpre hlay hrd hwl hlo
  obtain ⟨a, e1, e2⟩ := PySem.W.os_pre_some hpre
  obtain ⟨e3, hwi⟩ := Codec.encAll_of_decAll r.args args a e1
  subst e3
  have KX := hY w _ Y
  obtain ⟨fd, hb, hF⟩ := F w mg fa _ Y KX G.T.g hmg
  refine PySem.W.enter_call (codeAny_mono (spec_call (R := []) (cl := classAt s_0.heap) (d0 := r.ret.enc (Codec.app r.args r.f a)) KX G.T.g G.T.b G.T.builtins G.T.nolimit hg hwl (pl_encAll _ _) (layable_weight hlay) hr hF hb (by rw [encAll_len]; exact hlen)
    (fun H xs hO hS => hsp w H xs a hO hwi e2 hS) fun H e s' => hCX w H s₁ e s') fun r' s' hq => ?_)
  obtain ⟨u, as', rfl, h1, h2, h3, h4⟩ := hq
  exact ⟨.inl ⟨u, _, as', rfl, fun _ => rfl, h1, (OpenSpec.post_iff hwell hwi _ _).mpr rfl, fun z => Bool.noConfusion (show false = true from z)⟩, h2, h3, h4⟩
/-- the same where the promise hangs on the written part alone -/
theorem walk_specK {r : OpenSpec} {k : Nat} {q : Program} {loose : List Str} {XP : (Str → Option Value) → Heap → Prop} {YP : World → Heap → Prop} {d : DefRec} {K : Params → PySem.W.Frag} {CX : CXT} {ps : List Str} {sp : PySem.W.Frag → Sp}
    (hwell : r.wellSaid = true) (hdf : d.params.defaults = []) (hlen : r.args.length = ps.length) (hr : Room k callerA)
    (hY : ∀ (w : World) (h : Heap), YP w h → (K w.params).In h)
    (F : ∀ (w : World) (mg : Str → Option Value) (fa : Addr) (h : Heap), YP w h → (K w.params).In h → h.Ns mainGlobals mg → mg d.name = some (.ref fa) →
      ∃ fd : FuncData, (∀ (s : Shared) (us : List Value), us.length = ps.length → BindsTo s fd ⟨us, []⟩ (ps.zip us)) ∧
        ∀ base : Heap, (K w.params).In base → base.Ns mainGlobals mg → FnOk r.prog w (K w.params) mg base CX k fa fd ps (sp (K w.params)))
    (hsp : ∀ (K : PySem.W.Frag) (H : Hp) (xs : List V) (a : Codec.denoteAll r.args), OnlyF H → Codec.withinAll r.args a = true → Codec.app r.args r.asked a = true → DwAll K H xs (Codec.encAll r.args a) →
      sp K xs H (fun v H' => Dw K H' v (r.ret.enc (Codec.app r.args r.f a))) fun _ _ _ => False)
    (hCX : ∀ (H : Hp) (s : Shared) (e : Value) (s' : Shared), CX [] H s (fun _ _ _ => False) e s' → False) :
    PySem.W.WalkOS q loose XP YP r d [] (fun f vs => PySem.call f vs) :=
  walk_spec (K := K) (CX := fun _ => CX) (sp := fun w => sp (K w.params)) hwell hdf hlen hr hY F (fun w H xs a h1 h2 h3 h4 => hsp (K w.params) H xs a h1 h2 h3 h4) fun _ H s e s' => hCX H s e s'
end L2
end

section
set_option Elab.async false
set_option linter.all false
namespace Sm
open Ra56

/-! ### numbers -/
theorem up_int (n d : Nat) (hd : 0 < d) : ((up n d : Nat) : Int) = -((-(n : Int)) / (d : Int)) := by
  unfold up
  have hdz : (0 : Int) < (d : Int) := by omega
  -- write n = d q + r
  have e1 : n = d * (n / d) + n % d := (Nat.div_add_mod n d).symm
  have h2 : n % d < d := Nat.mod_lt n hd
  generalize hq : n / d = q at e1
  generalize hr : n % d = r at e1 h2
  subst e1
  by_cases h0 : r = 0
  · subst h0
    have a1 : (d * q + 0 + (d - 1)) / d = q := by
      rw [Nat.add_zero, Nat.mul_add_div hd, Nat.div_eq_of_lt (by omega)]; omega
    have a2 : (-((d * q + 0 : Nat) : Int)) / (d : Int) = -(q : Int) := by
      rw [Nat.add_zero, Int.natCast_mul, ← Int.mul_neg]
      exact Int.mul_ediv_cancel_left _ (by omega)
    rw [a1, a2]; omega
  · have a1 : (d * q + r + (d - 1)) / d = q + 1 := by
      have : d * q + r + (d - 1) = d * (q + 1) + (r - 1) := by rw [Nat.mul_add]; omega
      rw [this, Nat.mul_add_div hd, Nat.div_eq_of_lt (by omega)]
    have a2 : (-((d * q + r : Nat) : Int)) / (d : Int) = -(q : Int) - 1 := by
      have : (-((d * q + r : Nat) : Int)) = ((d : Int) - r) + (d : Int) * (-(q : Int) - 1) := by
        rw [Int.natCast_add, Int.natCast_mul, Int.mul_sub, Int.mul_neg]; omega
      rw [this, Int.add_mul_ediv_left _ _ (by omega), Int.ediv_eq_zero_of_lt (by omega) (by omega)]; omega
    rw [a1, a2]; omega

/-- a tick as begin takes it -/
structure TOk (k : Tick) : Prop where
  n0 : 1 ≤ k.num
  n1 : k.num ≤ 1000000000
  d0 : 1 ≤ k.den
  d1 : k.den ≤ 1000000000
  p1 : k.ppm ≤ 10000

theorem million : MILLION = 1000000 := rfl
theorem billion : BILLION = 1000000000 := rfl

/-! ### one reference -/
theorem low_eq {k : Tick} (hk : TOk k) {r : Ref} {c : Nat} (h : r.at_ ≤ c) :
    r.low k c = r.time - r.off + ((c : Int) - r.at_) * k.num * (1000000 - k.ppm) / ((k.den : Int) * 1000000) := by
  unfold Ref.low down
  rw [million, Int.natCast_ediv]
  have hp := hk.p1
  have e : (((c - r.at_) * k.num * (1000000 - k.ppm) : Nat) : Int) = ((c : Int) - r.at_) * k.num * (1000000 - k.ppm) := by
    rw [Int.natCast_mul, Int.natCast_mul, Int.natCast_sub h, Int.natCast_sub (by omega)]; rfl
  rw [e, Int.natCast_mul]; rfl
theorem high_eq {k : Tick} (hk : TOk k) {r : Ref} {c : Nat} (h : r.at_ ≤ c) :
    r.high k c = r.time + r.off + -((-(((c : Int) - r.at_) * k.num * (1000000 + k.ppm))) / ((k.den : Int) * 1000000)) := by
  unfold Ref.high
  rw [million, up_int _ _ (by have := hk.d0; omega)]
  have e : (((c - r.at_) * k.num * (1000000 + k.ppm) : Nat) : Int) = ((c : Int) - r.at_) * k.num * (1000000 + k.ppm) := by
    rw [Int.natCast_mul, Int.natCast_mul, Int.natCast_sub h, Int.natCast_add]; rfl
  rw [e, Int.natCast_mul]; rfl

/-! ### the greatest and the least of some -/
theorem foldl_max (f : Ref → Int) : ∀ (l : List Ref) (m : Int), (l.foldl (fun m x => max m (f x)) m = m ∨ ∃ x ∈ l, l.foldl (fun m x => max m (f x)) m = f x) ∧ m ≤ l.foldl (fun m x => max m (f x)) m ∧ ∀ x ∈ l, f x ≤ l.foldl (fun m x => max m (f x)) m
  | [], m => ⟨.inl rfl, Int.le_refl _, fun x h => by simp at h⟩
  | a :: l, m => by
    obtain ⟨h1, h2, h3⟩ := foldl_max f l (max m (f a))
    rw [List.foldl_cons]
    refine ⟨?_, by omega, fun x hx => ?_⟩
    · rcases h1 with h1 | ⟨x, hx, e⟩
      · by_cases h : m ≤ f a
        · exact .inr ⟨a, List.mem_cons_self, by rw [h1]; omega⟩
        · exact .inl (by rw [h1]; omega)
      · exact .inr ⟨x, List.mem_cons_of_mem _ hx, e⟩
    · rcases List.mem_cons.mp hx with e | hx
      · subst e; omega
      · exact h3 x hx
theorem foldl_min (f : Ref → Int) : ∀ (l : List Ref) (m : Int), (l.foldl (fun m x => min m (f x)) m = m ∨ ∃ x ∈ l, l.foldl (fun m x => min m (f x)) m = f x) ∧ l.foldl (fun m x => min m (f x)) m ≤ m ∧ ∀ x ∈ l, l.foldl (fun m x => min m (f x)) m ≤ f x
  | [], m => ⟨.inl rfl, Int.le_refl _, fun x h => by simp at h⟩
  | a :: l, m => by
    obtain ⟨h1, h2, h3⟩ := foldl_min f l (min m (f a))
    rw [List.foldl_cons]
    refine ⟨?_, by omega, fun x hx => ?_⟩
    · rcases h1 with h1 | ⟨x, hx, e⟩
      · by_cases h : f a ≤ m
        · exact .inr ⟨a, List.mem_cons_self, by rw [h1]; omega⟩
        · exact .inl (by rw [h1]; omega)
      · exact .inr ⟨x, List.mem_cons_of_mem _ hx, e⟩
    · rcases List.mem_cons.mp hx with e | hx
      · subst e; omega
      · exact h3 x hx
theorem lowest_is {k : Tick} {c : Nat} {r : Ref} {l : List Ref} {m : Int} (h1 : m ∈ (r :: l).map (·.low k c)) (h2 : ∀ y ∈ (r :: l).map (·.low k c), y ≤ m) : m = lowest k c r l := by
  unfold lowest
  obtain ⟨g1, g2, g3⟩ := foldl_max (fun x => x.low k c) l (r.low k c)
  generalize List.foldl (fun m x => max m (Ref.low k x c)) (Ref.low k r c) l = z at g1 g2 g3
  have hm : m ≤ z := by
    rw [List.map_cons] at h1
    rcases List.mem_cons.mp h1 with e | h1
    · rw [e]; exact g2
    · obtain ⟨x, hx, e⟩ := List.mem_map.mp h1
      rw [← e]; exact g3 x hx
  have hz : z ≤ m := by
    apply h2
    rcases g1 with e | ⟨x, hx, e⟩
    · rw [e, List.map_cons]; exact List.mem_cons_self
    · rw [e]; exact List.mem_map.mpr ⟨x, List.mem_cons_of_mem _ hx, rfl⟩
  omega
theorem highest_is {k : Tick} {c : Nat} {r : Ref} {l : List Ref} {m : Int} (h1 : m ∈ (r :: l).map (·.high k c)) (h2 : ∀ y ∈ (r :: l).map (·.high k c), m ≤ y) : m = highest k c r l := by
  unfold highest
  obtain ⟨g1, g2, g3⟩ := foldl_min (fun x => x.high k c) l (r.high k c)
  generalize List.foldl (fun m x => min m (Ref.high k x c)) (Ref.high k r c) l = z at g1 g2 g3
  have hm : z ≤ m := by
    rw [List.map_cons] at h1
    rcases List.mem_cons.mp h1 with e | h1
    · rw [e]; exact g2
    · obtain ⟨x, hx, e⟩ := List.mem_map.mp h1
      rw [← e]; exact g3 x hx
  have hz : m ≤ z := by
    apply h2
    rcases g1 with e | ⟨x, hx, e⟩
    · rw [e, List.map_cons]; exact List.mem_cons_self
    · rw [e]; exact List.mem_map.mpr ⟨x, List.mem_cons_of_mem _ hx, rfl⟩
  omega

/-- the least and the greatest time by some, one at least -/
def lowL (k : Tick) (l : List Ref) (c : Nat) : Int := match l with
  | [] => 0
  | r :: l => lowest k c r l
def highL (k : Tick) (l : List Ref) (c : Nat) : Int := match l with
  | [] => 0
  | r :: l => highest k c r l
theorem bounds_ne {k : Tick} {l : List Ref} {c : Nat} (h : l ≠ []) : bounds k l c = some (lowL k l c, highL k l c) := by
  cases l with
  | nil => exact absurd rfl h
  | cons r l => rfl
theorem lowL_is {k : Tick} {c : Nat} {l : List Ref} {m : Int} (h1 : m ∈ l.map (·.low k c)) (h2 : ∀ y ∈ l.map (·.low k c), y ≤ m) : m = lowL k l c := by
  cases l with
  | nil => simp at h1
  | cons r l => exact lowest_is h1 h2
theorem highL_is {k : Tick} {c : Nat} {l : List Ref} {m : Int} (h1 : m ∈ l.map (·.high k c)) (h2 : ∀ y ∈ l.map (·.high k c), m ≤ y) : m = highL k l c := by
  cases l with
  | nil => simp at h1
  | cons r l => exact highest_is h1 h2
theorem agrees_nil {k : Tick} {r : Ref} : agrees k [] r = true := rfl
theorem agrees_ne {k : Tick} {l : List Ref} {r : Ref} (h : l ≠ []) :
    agrees k l r = decide (max (lowL k l r.at_) (r.time - r.off) ≤ min (highL k l r.at_) (r.time + r.off)) := by
  unfold agrees
  rw [bounds_ne h]

/-! ### rates -/
theorem rates_eq {k : Tick} {l : List Ref} {a b : Ref} (ha : l.head? = some a) (hb : l.getLast? = some b) (hab : a.at_ ≤ b.at_) :
    rates k l = if (a.at_ : Int) = b.at_ then (-(1000 * (k.ppm : Int)), 1000 * (k.ppm : Int)) else
      (max (-(1000 * (k.ppm : Int))) (min (((b.time - b.off) - (a.time + a.off)) * k.den * 1000000000 / (((b.at_ : Int) - a.at_) * k.num) - 1000000000) (1000 * (k.ppm : Int))),
       max (-(1000 * (k.ppm : Int))) (min (-((-(((b.time + b.off) - (a.time - a.off)) * k.den * 1000000000)) / (((b.at_ : Int) - a.at_) * k.num)) - 1000000000) (1000 * (k.ppm : Int)))) := by
  unfold rates
  rw [ha, hb]
  have e0 : ((k.ppm * 1000 : Nat) : Int) = 1000 * (k.ppm : Int) := by rw [Int.natCast_mul, Int.mul_comm]; rfl
  simp only [e0]
  by_cases h : b.at_ ≤ a.at_
  · have : a.at_ = b.at_ := by omega
    rw [if_pos h, if_pos (by omega)]
  · rw [if_neg h, if_neg (by omega)]
    have e1 : (((b.at_ - a.at_) * k.num : Nat) : Int) = ((b.at_ : Int) - a.at_) * k.num := by
      rw [Int.natCast_mul, Int.natCast_sub (by omega)]
    have e2 : ((k.den * BILLION : Nat) : Int) = (k.den : Int) * 1000000000 := by rw [Int.natCast_mul]; rfl
    have e3 : ((BILLION : Nat) : Int) = 1000000000 := rfl
    simp only [e1, e2, e3, Int.mul_assoc]
    refine Prod.ext ?_ ?_
    · show max _ (min _ _) = max _ (min _ _); omega
    · show min _ (max _ _) = max _ (min _ _); omega
theorem rate_eq (k : Tick) (l : List Ref) : rate k l = ((rates k l).1 + (rates k l).2) / 2 := rfl
theorem rates_bd (k : Tick) (l : List Ref) : -(1000 * (k.ppm : Int)) ≤ (rates k l).1 ∧ (rates k l).1 ≤ 1000 * (k.ppm : Int) ∧ -(1000 * (k.ppm : Int)) ≤ (rates k l).2 ∧ (rates k l).2 ≤ 1000 * (k.ppm : Int) := by
  have e0 : ((k.ppm * 1000 : Nat) : Int) = 1000 * (k.ppm : Int) := by rw [Int.natCast_mul, Int.mul_comm]; rfl
  have hp : (0 : Int) ≤ (k.ppm : Int) := by omega
  unfold rates
  simp only [e0]
  split
  · split
    · refine ⟨?_, ?_, ?_, ?_⟩ <;> (dsimp only; omega)
    · refine ⟨?_, ?_, ?_, ?_⟩ <;> (dsimp only; omega)
  · refine ⟨?_, ?_, ?_, ?_⟩ <;> (dsimp only; omega)
theorem rate_bd (k : Tick) (hk : TOk k) (l : List Ref) : -10000000 ≤ rate k l ∧ rate k l ≤ 10000000 := by
  have h := rates_bd k l
  have hp := hk.p1
  rw [rate_eq]
  omega

/-! ### the told time -/
structure LOk (x : Told) : Prop where
  ft : x.from_ ≤ x.till
  b0 : -10000000 ≤ x.base
  b1 : x.base ≤ 10000000
  m0 : -500000 ≤ x.more
  m1 : x.more ≤ 500000
theorem at_eq {k : Tick} {x : Told} (hx : LOk x) {c : Nat} (h : x.from_ ≤ c) :
    x.at_ k c = x.number + (k.num : Int) * ((min (c : Int) x.till - x.from_) * (1000000000 + x.base + x.more) + max ((c : Int) - x.till) 0 * (1000000000 + x.base)) := by
  have hf := hx.ft
  unfold Told.at_
  have e1 : ((min c x.till - x.from_ : Nat) : Int) = min (c : Int) x.till - x.from_ := by omega
  have e2 : ((c - max x.from_ x.till : Nat) : Int) = max ((c : Int) - x.till) 0 := by omega
  have e3 : ((BILLION : Nat) : Int) = 1000000000 := rfl
  simp only [e1, e2, e3]
  generalize min (c : Int) x.till - x.from_ = A
  generalize max ((c : Int) - x.till) 0 = B
  generalize (1000000000 : Int) + x.base + x.more = U
  generalize (1000000000 : Int) + x.base = W
  rw [Int.mul_add, Int.mul_left_comm A, Int.mul_left_comm B, ← Int.add_assoc]
theorem unit_eq (k : Tick) : unit k = (k.den : Int) * 1000000000 := by
  unfold unit; rw [Int.natCast_mul]; rfl
theorem time_eq (k : Tick) (x : Told) (c : Nat) : x.time k c = x.at_ k c / ((k.den : Int) * 1000000000) := by
  unfold Told.time; rw [unit_eq]
theorem ticks_eq {k : Tick} (hk : TOk k) : ((ticks k : Nat) : Int) = -((-(64000000 * (k.den : Int))) / (k.num : Int)) := by
  unfold ticks
  rw [up_int _ _ (by have := hk.n0; omega), Int.natCast_mul]; rfl
theorem toward_ok {k : Tick} (hk : TOk k) (x : Told) (c : Nat) (t base : Int) (hb : -10000000 ≤ base ∧ base ≤ 10000000) : LOk (x.toward k c t base) := by
  unfold Told.toward
  have e : SLEW = 500000 := rfl
  refine ⟨?_, hb.1, hb.2, ?_, ?_⟩
  · dsimp only; omega
  · dsimp only; rw [e]; omega
  · dsimp only; rw [e]; omega
end Sm

end
section
set_option Elab.async false
set_option linter.all false
namespace Sm
open Ra56

/-! ### the clock's own word -/
abbrev Srt (l : List Ref) : Prop := l.Pairwise fun a b => a.at_ ≤ b.at_
structure COk (s : Clock) : Prop where
  tk : TOk s.tick
  rl : s.refs.length ≤ 16
  ra : ∀ r ∈ s.refs, r.at_ ≤ s.seen
  rs : Srt s.refs
  dl : s.doubts.length ≤ 2
  da : ∀ r ∈ s.doubts, r.at_ ≤ s.seen
  ds : Srt s.doubts
  te : s.refs ≠ [] → ∃ x, s.told = some x
  tl : ∀ x, s.told = some x → LOk x ∧ x.from_ ≤ s.seen
  sb : s.seen ≤ 4611686018427387904
theorem Srt.ends : ∀ {l : List Ref}, Srt l → l ≠ [] → ∃ a b, l.head? = some a ∧ l.getLast? = some b ∧ a.at_ ≤ b.at_ ∧ a ∈ l ∧ b ∈ l
  | [], _, h => absurd rfl h
  | a :: l, s, _ => by
    have hm : (a :: l).getLast (by simp) ∈ a :: l := List.getLast_mem _
    refine ⟨a, (a :: l).getLast (by simp), rfl, List.getLast?_eq_some_getLast (by simp), ?_, List.mem_cons_self, hm⟩
    rcases List.mem_cons.mp hm with e | h
    · rw [e]; exact Nat.le_refl _
    · exact (List.pairwise_cons.mp s).1 _ h
theorem Srt.snoc {l : List Ref} {r : Ref} (h : Srt l) (hr : ∀ x ∈ l, x.at_ ≤ r.at_) : Srt (l ++ [r]) :=
  List.pairwise_append.mpr ⟨h, List.pairwise_singleton _ _, fun a ha b hb => by rw [List.mem_singleton.mp hb]; exact hr a ha⟩
theorem newest_len (l : List Ref) : (newest 16 l).length ≤ 16 := by
  unfold newest; rw [List.length_drop]; omega
theorem newest_ne {l : List Ref} (h : l ≠ []) : newest 16 l ≠ [] := by
  intro e
  have := congrArg List.length e
  unfold newest at this
  rw [List.length_drop, List.length_nil] at this
  have h2 : l.length ≠ 0 := fun z => h (List.length_eq_zero_iff.mp z)
  omega
theorem newest_mem {l : List Ref} {r : Ref} (h : r ∈ newest 16 l) : r ∈ l := List.mem_of_mem_drop h
theorem newest_srt {l : List Ref} (h : Srt l) : Srt (newest 16 l) := h.sublist (List.drop_sublist _ _)

theorem take_told (s : Clock) (l : List Ref) (c : Nat) (h : l ≠ []) : (s.take l c).told = some (match s.told with
    | some x => x.toward s.tick c ((lowL s.tick (newest 16 l) c + highL s.tick (newest 16 l) c) / 2) (rate s.tick (newest 16 l))
    | none => ⟨c, (lowL s.tick (newest 16 l) c + highL s.tick (newest 16 l) c) / 2 * unit s.tick, rate s.tick (newest 16 l), 0, c⟩) := by
  unfold Clock.take
  have e : bounds s.tick (newest KEPT l) c = some (lowL s.tick (newest 16 l) c, highL s.tick (newest 16 l) c) := bounds_ne (newest_ne h)
  simp only [e]
  rfl
theorem take_ok {s : Clock} (hs : COk s) {l : List Ref} {c : Nat} (h : l ≠ []) (hl : Srt l) (hc : ∀ r ∈ l, r.at_ ≤ c) (hb : c ≤ 4611686018427387904) : COk (s.take l c) := by
  refine ⟨hs.tk, newest_len l, fun r hr => hc r (newest_mem hr), newest_srt hl, Nat.zero_le _, fun r hr => absurd (show r ∈ ([] : List Ref) from hr) (by simp), List.Pairwise.nil, fun _ => ⟨_, take_told s l c h⟩, fun x hx => ?_, hb⟩
  rw [take_told s l c h] at hx
  have e := Option.some.inj hx
  subst e
  have hb := rate_bd s.tick hs.tk (newest 16 l)
  cases s.told with
  | none => exact ⟨⟨Nat.le_refl _, hb.1, hb.2, (show (-500000 : Int) ≤ 0 by decide), (show (0 : Int) ≤ 500000 by decide)⟩, Nat.le_refl _⟩
  | some x => exact ⟨toward_ok hs.tk x c _ _ hb, Nat.le_refl _⟩
theorem COk.see {s : Clock} (hs : COk s) {c : Nat} (h : s.seen ≤ c) (hb : c ≤ 4611686018427387904) : COk { s with seen := c } :=
  ⟨hs.tk, hs.rl, fun r hr => Nat.le_trans (hs.ra r hr) h, hs.rs, hs.dl, fun r hr => Nat.le_trans (hs.da r hr) h, hs.ds, hs.te, fun x hx => ⟨(hs.tl x hx).1, Nat.le_trans (hs.tl x hx).2 h⟩, hb⟩
theorem COk.counts {s : Clock} (hs : COk s) (a b c : Nat) : COk { s with taken := a, doubted := b, anew := c } :=
  ⟨hs.tk, hs.rl, hs.ra, hs.rs, hs.dl, hs.da, hs.ds, hs.te, hs.tl, hs.sb⟩
theorem begin_ok {n d p : Nat} (h : ¬ (n = 0 ∨ BILLION < n ∨ d = 0 ∨ BILLION < d ∨ 10000 < p)) : COk ⟨⟨n, d, p⟩, 0, [], [], none, 0, 0, 0⟩ := by
  have hb : BILLION = 1000000000 := rfl
  rw [hb] at h
  refine ⟨⟨?_, ?_, ?_, ?_, ?_⟩, Nat.zero_le _, fun r hr => absurd (show r ∈ ([] : List Ref) from hr) (by simp), List.Pairwise.nil, Nat.zero_le _, fun r hr => absurd (show r ∈ ([] : List Ref) from hr) (by simp), List.Pairwise.nil, fun h => absurd rfl h, fun x hx => ?_, Nat.zero_le _⟩
  · show 1 ≤ n; omega
  · show n ≤ _; omega
  · show 1 ≤ d; omega
  · show d ≤ _; omega
  · show p ≤ _; omega
  · have hx : (none : Option Told) = some x := hx
    cases hx

/-! ### the list of calls -/
/-- how many numbers stand behind a call's number -/
def nums (p : Int) : Nat := if p = 0 then 3 else if p = 1 then 3 else if p = 2 then 1 else if p = 3 then 1 else if p = 5 then 1 else 0
theorem shape_is {p : Int} {nk : Nat × Nat} (h : PyRa56.shape p = some nk) : nk = (nums p, 0) ∧ 0 ≤ p ∧ p ≤ 7 := by
  unfold PyRa56.shape at h
  unfold nums
  by_cases h0 : p = 0
  · subst h0; simp at h; exact ⟨by simp [← h], by omega, by omega⟩
  by_cases h1 : p = 1
  · subst h1; simp at h; exact ⟨by simp [← h], by omega, by omega⟩
  by_cases h2 : p = 2
  · subst h2; simp at h; exact ⟨by simp [← h], by omega, by omega⟩
  by_cases h3 : p = 3
  · subst h3; simp at h; exact ⟨by simp [← h], by omega, by omega⟩
  by_cases h4 : p = 4
  · subst h4; simp at h; exact ⟨by simp [← h], by omega, by omega⟩
  by_cases h5 : p = 5
  · subst h5; simp at h; exact ⟨by simp [← h], by omega, by omega⟩
  by_cases h6 : p = 6
  · subst h6; simp at h; exact ⟨by simp [← h], by omega, by omega⟩
  by_cases h7 : p = 7
  · subst h7; simp at h; exact ⟨by simp [← h], by omega, by omega⟩
  simp [h0, h1, h2, h3, h4, h5, h6, h7] at h
theorem whole_id : ∀ c : List (List Int), PyRa56.whole c = c
  | [] => rfl
  | [] :: [] => rfl
  | [] :: _ :: _ => rfl
  | (p :: ns) :: rs => by
    rcases p with (_ | _ | _ | _ | _ | _ | _ | _ | n) | n <;> rcases ns with _ | ⟨a, _ | ⟨b, _ | ⟨c, _ | ⟨d, ns⟩⟩⟩⟩ <;> rcases rs with _ | ⟨x, rs⟩ <;> rfl
theorem map_whole (cs : List (List (List Int))) : cs.map PyRa56.whole = cs := by
  induction cs with
  | nil => rfl
  | cons c r ih => rw [List.map_cons, whole_id, ih]
/-- the rest of the list reads as these calls -/
def Reads (l : List Int) (cs : List (List (List Int))) : Prop := ∃ f, PyFlat.calls PyRa56.shape f l = some cs
theorem Reads.nil {cs : List (List (List Int))} (h : Reads [] cs) : cs = [] := by
  obtain ⟨f, h⟩ := h
  cases f <;> (unfold PyFlat.calls at h; exact (Option.some.inj h).symm)
theorem Reads.cons {p : Int} {r : List Int} {cs : List (List (List Int))} (h : Reads (p :: r) cs) :
    ∃ cs', cs = [p :: r.take (nums p)] :: cs' ∧ nums p ≤ r.length ∧ Reads (r.drop (nums p)) cs' ∧ 0 ≤ p ∧ p ≤ 7 := by
  obtain ⟨f, h⟩ := h
  cases f with
  | zero => unfold PyFlat.calls at h; cases h
  | succ f =>
    unfold PyFlat.calls PyFlat.call at h
    cases e : PyRa56.shape p with
    | none => simp [e] at h
    | some nk =>
      obtain ⟨rfl, h0, h7⟩ := shape_is e
      simp only [e, PyFlat.rows] at h
      by_cases hl : r.length < nums p
      · simp [hl] at h
      · simp only [hl, if_false] at h
        cases e2 : PyFlat.calls PyRa56.shape f (r.drop (nums p)) with
        | none => simp [e2] at h
        | some cs' =>
          simp only [e2] at h
          exact ⟨cs', (Option.some.inj h).symm, by omega, ⟨f, e2⟩, h0, h7⟩
theorem answers_of {l : List Int} (h : PyRa56.answers_asked l = true) :
    ∃ cs, Reads l cs ∧ cs.length ≤ 2000 ∧ (∀ c ∈ cs, Ra56Neutral.asked1 c = true) ∧ PyRa56.answers l = PyFlat.told (PyFlat.played Ra56Neutral.step none cs) := by
  unfold PyRa56.answers_asked at h
  unfold PyRa56.answers
  unfold PyRa56.calls at h ⊢
  cases e : PyFlat.calls PyRa56.shape l.length l with
  | none => simp [e] at h
  | some cs =>
    simp only [e, map_whole] at h ⊢
    rw [Bool.and_eq_true] at h
    refine ⟨cs, ⟨_, e⟩, of_decide_eq_true h.1, ?_, rfl⟩
    have h2 := h.2
    unfold Ra56Neutral.asked at h2
    rw [Bool.and_eq_true] at h2
    exact List.all_eq_true.mp h2.1
theorem played_cons (s : Ra56Neutral.S) (c : List (List Int)) (cs : List (List (List Int))) :
    PyFlat.told (PyFlat.played Ra56Neutral.step s (c :: cs)) = (((Ra56Neutral.step s c).2.length : Int) :: (Ra56Neutral.step s c).2) ++ PyFlat.told (PyFlat.played Ra56Neutral.step (Ra56Neutral.step s c).1 cs) := by
  unfold PyFlat.told
  show List.flatMap _ ((Ra56Neutral.step s c).2 :: PyFlat.played Ra56Neutral.step (Ra56Neutral.step s c).1 cs) = _
  rw [List.flatMap_cons]
end Sm

end
section
set_option Elab.async false
set_option linter.all false
namespace Sm
open Ra56

/-! ### the least counter -/
theorem up_le (n d : Nat) (hd : 0 < d) : n ≤ up n d * d := by
  unfold up
  have h1 := Nat.div_add_mod (n + (d - 1)) d
  have h2 := Nat.mod_lt (n + (d - 1)) hd
  generalize (n + (d - 1)) / d = q at h1
  generalize (n + (d - 1)) % d = r at h1 h2
  have : d * q = q * d := Nat.mul_comm _ _
  omega
theorem lt_up (n d j : Nat) (hd : 0 < d) (h : j < up n d) : j * d < n := by
  unfold up at h
  have h1 : (j + 1) * d ≤ n + (d - 1) := by
    have := (Nat.le_div_iff_mul_le hd).mp (show j + 1 ≤ (n + (d - 1)) / d from h)
    exact this
  rw [Nat.add_mul, Nat.one_mul] at h1
  omega
def per1 (k : Tick) (x : Told) : Int := (k.num : Int) * (1000000000 + x.base + x.more)
def per2 (k : Tick) (x : Told) : Int := (k.num : Int) * (1000000000 + x.base)
theorem per1_pos {k : Tick} (hk : TOk k) {x : Told} (hx : LOk x) : 0 < per1 k x := by
  unfold per1
  have := hk.n0; have := hx.b0; have := hx.m0
  exact Int.mul_pos (by omega) (by omega)
theorem per2_pos {k : Tick} (hk : TOk k) {x : Told} (hx : LOk x) : 0 < per2 k x := by
  unfold per2
  have := hk.n0; have := hx.b0
  exact Int.mul_pos (by omega) (by omega)
theorem at_1 {k : Tick} {x : Told} {a j : Nat} (hf : x.from_ ≤ a) (ht : a + j ≤ x.till) : x.at_ k (a + j) = x.at_ k a + (j : Int) * per1 k x := by
  unfold Told.at_ per1
  have e1 : ((min (a + j) x.till - x.from_ : Nat) : Int) = ((min a x.till - x.from_ : Nat) : Int) + j := by omega
  have e2 : (a + j - max x.from_ x.till : Nat) = 0 := by omega
  have e3 : (a - max x.from_ x.till : Nat) = 0 := by omega
  have e4 : ((BILLION : Nat) : Int) = 1000000000 := rfl
  simp only [e1, e2, e3, e4]
  generalize ((min a x.till - x.from_ : Nat) : Int) = A
  generalize (k.num : Int) * (1000000000 + x.base + x.more) = U
  generalize (k.num : Int) * (1000000000 + x.base) = W
  rw [Int.add_mul]
  omega
theorem at_2 {k : Tick} {x : Told} {a j : Nat} (hf : x.from_ ≤ a) (ht : x.till ≤ a) : x.at_ k (a + j) = x.at_ k a + (j : Int) * per2 k x := by
  unfold Told.at_ per2
  have e1 : ((min (a + j) x.till - x.from_ : Nat) : Int) = ((min a x.till - x.from_ : Nat) : Int) := by omega
  have e2 : ((a + j - max x.from_ x.till : Nat) : Int) = ((a - max x.from_ x.till : Nat) : Int) + j := by omega
  have e4 : ((BILLION : Nat) : Int) = 1000000000 := rfl
  simp only [e1, e2, e4]
  generalize ((min a x.till - x.from_ : Nat) : Int) = A
  generalize ((a - max x.from_ x.till : Nat) : Int) = B
  generalize (k.num : Int) * (1000000000 + x.base + x.more) = U
  generalize (k.num : Int) * (1000000000 + x.base) = W
  rw [Int.add_mul]
  omega
/-- one more counter, a greater value -/
theorem at_lt {k : Tick} (hk : TOk k) {x : Told} (hx : LOk x) {a : Nat} (hf : x.from_ ≤ a) : x.at_ k a < x.at_ k (a + 1) := by
  by_cases h : a + 1 ≤ x.till
  · rw [at_1 hf h]; have := per1_pos hk hx; omega
  · rw [at_2 hf (by omega)]; have := per2_pos hk hx; omega
theorem at_mono {k : Tick} (hk : TOk k) {x : Told} (hx : LOk x) {a : Nat} (hf : x.from_ ≤ a) : ∀ j : Nat, x.at_ k a ≤ x.at_ k (a + j)
  | 0 => Int.le_refl _
  | j + 1 => by
    have h1 := at_mono hk hx hf j
    have h2 := at_lt hk hx (a := a + j) (by omega)
    have e : a + (j + 1) = a + j + 1 := by omega
    rw [e]; omega
theorem at_mono' {k : Tick} (hk : TOk k) {x : Told} (hx : LOk x) {a b : Nat} (hf : x.from_ ≤ a) (h : a ≤ b) : x.at_ k a ≤ x.at_ k b := by
  have := at_mono hk hx hf (b - a)
  rwa [show a + (b - a) = b by omega] at this
/-- the least counter from c on at which the value has come to want -/
structure Least (k : Tick) (x : Told) (c : Nat) (want : Int) (n : Nat) : Prop where
  from_ : c ≤ n
  there : want ≤ x.at_ k n
  least : ∀ m, c ≤ m → m < n → x.at_ k m < want
theorem Least.uniq {k : Tick} {x : Told} {c n m : Nat} {want : Int} (a : Least k x c want n) (b : Least k x c want m) : n = m := by
  rcases Nat.lt_trichotomy n m with h | h | h
  · have := b.least n a.from_ h; have := a.there; omega
  · exact h
  · have := a.least m b.from_ h; have := b.there; omega
/-- a step by a rate, where the value goes by that rate as far as it matters -/
theorem least_by {k : Tick} {x : Told} {a : Nat} {want per : Int} (hp : 0 < per) (lim : Nat → Prop) (hl : ∀ j, (if want - x.at_ k a ≤ 0 then a else a + up (want - x.at_ k a).toNat per.toNat) = a + j → lim j) (down : ∀ i j, i ≤ j → lim j → lim i) (h : ∀ j, lim j → x.at_ k (a + j) = x.at_ k a + (j : Int) * per) :
    Least k x a want (if want - x.at_ k a ≤ 0 then a else a + up (want - x.at_ k a).toNat per.toNat) := by
  by_cases hn : want - x.at_ k a ≤ 0
  · rw [if_pos hn]
    exact ⟨Nat.le_refl _, by omega, fun m h1 h2 => by omega⟩
  · rw [if_neg hn] at hl ⊢
    have hL := hl _ rfl
    have e1 : ((want - x.at_ k a).toNat : Int) = want - x.at_ k a := by omega
    have e2 : (per.toNat : Int) = per := by omega
    have h1 := up_le (want - x.at_ k a).toNat per.toNat (by omega)
    have h2 := lt_up (want - x.at_ k a).toNat per.toNat
    generalize up (want - x.at_ k a).toNat per.toNat = u at h1 h2 hL
    refine ⟨by omega, ?_, fun m g1 g2 => ?_⟩
    · rw [h u hL]
      have : (((want - x.at_ k a).toNat : Nat) : Int) ≤ ((u * per.toNat : Nat) : Int) := by omega
      rw [Int.natCast_mul, e1, e2] at this
      omega
    · have hm : m = a + (m - a) := by omega
      rw [hm, h (m - a) (down _ u (by omega) hL)]
      have h3 := h2 (m - a) (by omega) (by omega)
      have : (((m - a) * per.toNat : Nat) : Int) < ((want - x.at_ k a).toNat : Nat) := by omega
      rw [Int.natCast_mul, e1, e2] at this
      omega
theorem counter_least {k : Tick} (hk : TOk k) {x : Told} (hx : LOk x) {c : Nat} (hf : x.from_ ≤ c) (t : Int) : Least k x c (t * unit k) (x.counter k c t) := by
  unfold Told.counter
  have e4 : ((BILLION : Nat) : Int) = 1000000000 := rfl
  simp only [e4]
  have p1 := per1_pos hk hx
  have p2 := per2_pos hk hx
  change Least k x c (t * unit k) (if x.till ≤ c then (if t * unit k - x.at_ k c ≤ 0 then c else c + up (t * unit k - x.at_ k c).toNat (per2 k x).toNat)
    else if (if t * unit k - x.at_ k c ≤ 0 then c else c + up (t * unit k - x.at_ k c).toNat (per1 k x).toNat) ≤ x.till
      then (if t * unit k - x.at_ k c ≤ 0 then c else c + up (t * unit k - x.at_ k c).toNat (per1 k x).toNat)
      else (if t * unit k - x.at_ k x.till ≤ 0 then x.till else x.till + up (t * unit k - x.at_ k x.till).toNat (per2 k x).toNat))
  generalize t * unit k = want
  by_cases h1 : x.till ≤ c
  · rw [if_pos h1]
    exact least_by p2 (fun _ => True) (fun _ _ => trivial) (fun _ _ _ _ => trivial) fun j _ => at_2 hf h1
  · rw [if_neg h1]
    by_cases h2 : (if want - x.at_ k c ≤ 0 then c else c + up (want - x.at_ k c).toNat (per1 k x).toNat) ≤ x.till
    · rw [if_pos h2]
      exact least_by p1 (fun j => c + j ≤ x.till) (fun j e => by rw [e] at h2; exact h2) (fun i j h g => by omega) fun j g => at_1 hf g
    · rw [if_neg h2]
      have L := least_by (k := k) (x := x) (a := x.till) (want := want) p2 (fun _ => True) (fun _ _ => trivial) (fun _ _ _ _ => trivial) fun j _ => at_2 (by omega) (Nat.le_refl _)
      -- ahead of till it has not come
      have hc : ∀ m, c ≤ m → m ≤ x.till → x.at_ k m < want := by
        intro m g1 g2
        by_cases hn : want - x.at_ k c ≤ 0
        · rw [if_pos hn] at h2; omega
        · rw [if_neg hn] at h2
          have hm : m = c + (m - c) := by omega
          rw [hm, at_1 hf (by omega)]
          have h3 := lt_up (want - x.at_ k c).toNat (per1 k x).toNat (m - c) (by omega) (by omega)
          have : (((m - c) * (per1 k x).toNat : Nat) : Int) < ((want - x.at_ k c).toNat : Nat) := by omega
          rw [Int.natCast_mul, show (((per1 k x).toNat : Nat) : Int) = per1 k x by omega, show (((want - x.at_ k c).toNat : Nat) : Int) = want - x.at_ k c by omega] at this
          omega
      refine ⟨by have := L.from_; omega, L.there, fun m g1 g2 => ?_⟩
      by_cases g3 : m ≤ x.till
      · exact hc m g1 g3
      · exact L.least m (by omega) g2
/-- t is told, or more: the value has come to t units -/
theorem told_ge {k : Tick} (hk : TOk k) {x : Told} {n : Nat} {t : Int} : t ≤ x.time k n ↔ t * unit k ≤ x.at_ k n := by
  unfold Told.time
  have : 0 < unit k := by rw [unit_eq]; have := hk.d0; omega
  exact Int.le_ediv_iff_mul_le this
end Sm

end
section
set_option Elab.async false
set_option linter.all false
namespace Sm
open Ra56
theorem step_begin (o : Option Clock) (n d p : Nat) : step o (.begin_ n d p) = if n = 0 ∨ 1000000000 < n ∨ d = 0 ∨ 1000000000 < d ∨ 10000 < p then (o, says (-1)) else (some ⟨⟨n, d, p⟩, 0, [], [], none, 0, 0, 0⟩, says 0) := by
  cases o <;> rfl
theorem step_refer (s : Clock) (c : Nat) (t : Int) (u : Nat) : step (some s) (.refer c t u) =
    if 4611686018427387904 < c ∨ ¬ (0 ≤ t ∧ t ≤ 4611686018427387904) ∨ 1099511627776 < u then (some s, says (-1))
    else if c < s.seen then (some s, says (-4))
    else if agrees s.tick s.refs ⟨c, t, u⟩ = true then (some { s.take (s.refs ++ [⟨c, t, u⟩]) c with taken := s.taken + 1 }, says 0)
    else if 3 ≤ (if agrees s.tick s.doubts ⟨c, t, u⟩ = true then s.doubts ++ [⟨c, t, u⟩] else [⟨c, t, u⟩]).length
      then (some { s.take (if agrees s.tick s.doubts ⟨c, t, u⟩ = true then s.doubts ++ [⟨c, t, u⟩] else [⟨c, t, u⟩]) c with anew := s.anew + 1 }, says 2)
      else (some { s with seen := c, doubts := (if agrees s.tick s.doubts ⟨c, t, u⟩ = true then s.doubts ++ [⟨c, t, u⟩] else [⟨c, t, u⟩]), doubted := s.doubted + 1 }, says 1) := by
  have e : (MOST < c ∨ timeOk t = false ∨ 2 ^ 40 < u) = (4611686018427387904 < c ∨ ¬ (0 ≤ t ∧ t ≤ 4611686018427387904) ∨ 1099511627776 < u) := by
    have e1 : (timeOk t = false) = ¬ (0 ≤ t ∧ t ≤ 4611686018427387904) := by
      unfold timeOk
      rw [← Bool.decide_and, decide_eq_false_iff_not]
      rfl
    rw [e1]
    rfl
  show (if MOST < c ∨ timeOk t = false ∨ 2 ^ 40 < u then _ else _) = _
  simp only [e]
  rfl
theorem step_now (s : Clock) (c : Nat) : step (some s) (.now c) = if 4611686018427387904 < c then (some s, says (-1)) else if c < s.seen then (some s, says (-4)) else match s.told with
    | none => (some s, says (-2))
    | some x => (some { s with seen := c }, ⟨0, [x.time s.tick c]⟩) := rfl
theorem step_look (s : Clock) (hs : COk s) (c : Nat) : step (some s) (.look c) = if 4611686018427387904 < c then (some s, says (-1)) else if c < s.seen then (some s, says (-4)) else
    if s.refs = [] then (some s, says (-2)) else match s.told with
    | none => (some s, says (-2))
    | some x => (some s, ⟨0, [lowL s.tick s.refs c, highL s.tick s.refs c, x.time s.tick c]⟩) := by
  show (if 4611686018427387904 < c then _ else if c < s.seen then _ else match bounds s.tick s.refs c, s.told with
      | some b, some x => (some s, (⟨0, [b.1, b.2, x.time s.tick c]⟩ : Ans))
      | _, _ => (some s, says (-2))) = _
  by_cases h : s.refs = []
  · rw [if_pos h, h]
    rfl
  · rw [if_neg h, bounds_ne h]
    cases s.told <;> rfl
theorem step_rate (s : Clock) : step (some s) .rate = if s.refs = [] then (some s, says (-2)) else (some s, ⟨0, [(rates s.tick s.refs).1, (rates s.tick s.refs).2, rate s.tick s.refs]⟩) := rfl
theorem step_when (s : Clock) (t : Int) : step (some s) (.when_ t) = if ¬ (0 ≤ t ∧ t ≤ 4611686018427387904) then (some s, says (-1)) else match s.told with
    | none => (some s, says (-2))
    | some x => (some s, ⟨0, [((x.counter s.tick s.seen t : Nat) : Int)]⟩) := by
  have e1 : (timeOk t = false) = ¬ (0 ≤ t ∧ t ≤ 4611686018427387904) := by
    unfold timeOk
    rw [← Bool.decide_and, decide_eq_false_iff_not]
    rfl
  show (if timeOk t = false then _ else _) = _
  by_cases h : 0 ≤ t ∧ t ≤ 4611686018427387904
  · rw [if_neg (by rw [e1]; exact fun z => z h), if_neg (fun z => z h)]
    cases s.told <;> rfl
  · rw [if_pos (by rw [e1]; exact h), if_pos h]
theorem step_refs (s : Clock) : step (some s) .refs = (some s, ⟨(s.refs.length : Nat), s.refs.flatMap fun r => [(r.at_ : Int), r.time, (r.off : Int)]⟩) := rfl
theorem step_count (s : Clock) : step (some s) .count = (some s, ⟨0, [(s.taken : Int), (s.doubted : Int), (s.anew : Int), (s.doubts.length : Int), (s.seen : Int)]⟩) := rfl
/-! ### the neutral step, call by call -/
theorem nstep (o : Option Clock) (c : List (List Int)) (x : Ra56.Call) (h : Ra56Neutral.callOf c = some x) : Ra56Neutral.step o c = ((step o x).1, (step o x).2.v :: (step o x).2.l) := by
  unfold Ra56Neutral.step
  rw [h]
theorem nat_of {b : Int} (h : Ra56Neutral.natural b 64 = true) : ∃ a : Nat, b = (a : Int) := by
  unfold Ra56Neutral.natural at h
  rw [Bool.and_eq_true] at h
  have := of_decide_eq_true h.1
  exact ⟨b.toNat, by omega⟩
open Ra56Neutral in
theorem asked_raw {p : Int} {ns : List Int} (h : Ra56Neutral.asked1 [p :: ns] = true) :
    (∃ a b c : Int, p = 0 ∧ ns = [a, b, c] ∧ (natural a 64 && (natural b 64 && (natural c 64))) = true) ∨ (∃ a t u : Int, p = 1 ∧ ns = [a, t, u] ∧ (natural a 64 && ((decide (-(2 ^ 63) ≤ t) && decide (t < 2 ^ 63)) && (natural u 64))) = true) ∨ (∃ a, p = 2 ∧ ns = [a] ∧ natural a 64 = true) ∨ (∃ a, p = 3 ∧ ns = [a] ∧ natural a 64 = true) ∨
    (p = 4 ∧ ns = []) ∨ (∃ t : Int, p = 5 ∧ ns = [t]) ∨ (p = 6 ∧ ns = []) ∨ (p = 7 ∧ ns = []) := by
  rcases p with (_ | _ | _ | _ | _ | _ | _ | _ | n) | n <;> rcases ns with _ | ⟨a, _ | ⟨b, _ | ⟨c, _ | ⟨d, ns⟩⟩⟩⟩ <;> first
    | exact absurd (show false = true from h) (by decide)
    | exact .inl ⟨_, _, _, rfl, rfl, h⟩
    | exact .inr (.inl ⟨_, _, _, rfl, rfl, h⟩)
    | exact .inr (.inr (.inl ⟨_, rfl, rfl, h⟩))
    | exact .inr (.inr (.inr (.inl ⟨_, rfl, rfl, h⟩)))
    | exact .inr (.inr (.inr (.inr (.inl ⟨rfl, rfl⟩))))
    | exact .inr (.inr (.inr (.inr (.inr (.inl ⟨_, rfl, rfl⟩)))))
    | exact .inr (.inr (.inr (.inr (.inr (.inr (.inl ⟨rfl, rfl⟩))))))
    | exact .inr (.inr (.inr (.inr (.inr (.inr (.inr ⟨rfl, rfl⟩))))))
/-- the calls that are asked -/
theorem asked_cases {p : Int} {ns : List Int} (h : Ra56Neutral.asked1 [p :: ns] = true) :
    (∃ a b c : Nat, p = 0 ∧ ns = [(a : Int), (b : Int), (c : Int)]) ∨ (∃ (a : Nat) (t : Int) (u : Nat), p = 1 ∧ ns = [(a : Int), t, (u : Int)]) ∨ (∃ a : Nat, p = 2 ∧ ns = [(a : Int)]) ∨ (∃ a : Nat, p = 3 ∧ ns = [(a : Int)]) ∨
    (p = 4 ∧ ns = []) ∨ (∃ t : Int, p = 5 ∧ ns = [t]) ∨ (p = 6 ∧ ns = []) ∨ (p = 7 ∧ ns = []) := by
  rcases asked_raw h with ⟨b, c, d, e1, e2, h⟩ | ⟨b, c, d, e1, e2, h⟩ | ⟨b, e1, e2, h⟩ | ⟨b, e1, e2, h⟩ | h | ⟨t, h⟩ | h | h
  · rw [Bool.and_eq_true, Bool.and_eq_true] at h
    obtain ⟨x, rfl⟩ := nat_of h.1
    obtain ⟨y, rfl⟩ := nat_of h.2.1
    obtain ⟨z, rfl⟩ := nat_of h.2.2
    exact .inl ⟨x, y, z, e1, e2⟩
  · rw [Bool.and_eq_true, Bool.and_eq_true] at h
    obtain ⟨x, rfl⟩ := nat_of h.1
    obtain ⟨z, rfl⟩ := nat_of h.2.2
    exact .inr (.inl ⟨x, c, z, e1, e2⟩)
  · obtain ⟨x, rfl⟩ := nat_of h
    exact .inr (.inr (.inl ⟨x, e1, e2⟩))
  · obtain ⟨x, rfl⟩ := nat_of h
    exact .inr (.inr (.inr (.inl ⟨x, e1, e2⟩)))
  · exact .inr (.inr (.inr (.inr (.inl h))))
  · exact .inr (.inr (.inr (.inr (.inr (.inl ⟨t, h⟩)))))
  · exact .inr (.inr (.inr (.inr (.inr (.inr (.inl h))))))
  · exact .inr (.inr (.inr (.inr (.inr (.inr (.inr h))))))
theorem n_begin (o : Option Clock) (a b c : Nat) : Ra56Neutral.step o [[0, (a : Int), (b : Int), (c : Int)]] = ((step o (.begin_ a b c)).1, (step o (.begin_ a b c)).2.v :: (step o (.begin_ a b c)).2.l) := nstep o _ _ rfl
theorem n_refer (o : Option Clock) (a : Nat) (t : Int) (u : Nat) : Ra56Neutral.step o [[1, (a : Int), t, (u : Int)]] = ((step o (.refer a t u)).1, (step o (.refer a t u)).2.v :: (step o (.refer a t u)).2.l) := nstep o _ _ rfl
theorem n_now (o : Option Clock) (a : Nat) : Ra56Neutral.step o [[2, (a : Int)]] = ((step o (.now a)).1, (step o (.now a)).2.v :: (step o (.now a)).2.l) := nstep o _ _ rfl
theorem n_look (o : Option Clock) (a : Nat) : Ra56Neutral.step o [[3, (a : Int)]] = ((step o (.look a)).1, (step o (.look a)).2.v :: (step o (.look a)).2.l) := nstep o _ _ rfl
theorem n_rate (o : Option Clock) : Ra56Neutral.step o [[4]] = ((step o .rate).1, (step o .rate).2.v :: (step o .rate).2.l) := nstep o _ _ rfl
theorem n_when (o : Option Clock) (t : Int) : Ra56Neutral.step o [[5, t]] = ((step o (.when_ t)).1, (step o (.when_ t)).2.v :: (step o (.when_ t)).2.l) := nstep o _ _ rfl
theorem n_refs (o : Option Clock) : Ra56Neutral.step o [[6]] = ((step o .refs).1, (step o .refs).2.v :: (step o .refs).2.l) := nstep o _ _ rfl
theorem n_count (o : Option Clock) : Ra56Neutral.step o [[7]] = ((step o .count).1, (step o .count).2.v :: (step o .count).2.l) := nstep o _ _ rfl
/-- the word of the clock holds behind every call -/
theorem step_ok {o o' : Option Clock} {x : Ra56.Call} (h : ∀ s, o = some s → COk s) (e : (step o x).1 = o') : ∀ s, o' = some s → COk s := by
  intro s' es
  subst es
  cases x with
  | begin_ n d p =>
    rw [step_begin] at e
    split at e
    · exact h s' e
    · rename_i hn
      have e' := Option.some.inj e
      subst e'
      exact begin_ok hn
  | refer c t u =>
    cases o with
    | none => cases e
    | some s =>
      have hs := h s rfl
      rw [step_refer] at e
      split at e
      · exact h s' e
      split at e
      · exact h s' e
      rename_i h1 h2
      have hr : ∀ x ∈ s.refs, x.at_ ≤ (⟨c, t, u⟩ : Ref).at_ := fun x hx => Nat.le_trans (hs.ra x hx) (by show s.seen ≤ c; omega)
      have hd : ∀ x ∈ s.doubts, x.at_ ≤ (⟨c, t, u⟩ : Ref).at_ := fun x hx => Nat.le_trans (hs.da x hx) (by show s.seen ≤ c; omega)
      split at e
      · have e' := Option.some.inj e
        subst e'
        have k := take_ok hs (l := s.refs ++ [⟨c, t, u⟩]) (c := c) (by simp) (hs.rs.snoc hr) (fun r hm => by
          rcases List.mem_append.mp hm with q | q
          · exact hr r q
          · rw [List.mem_singleton.mp q]; exact Nat.le_refl _) (by omega)
        exact ⟨k.tk, k.rl, k.ra, k.rs, k.dl, k.da, k.ds, k.te, k.tl, k.sb⟩
      · have hds : Srt (if agrees s.tick s.doubts ⟨c, t, u⟩ = true then s.doubts ++ [⟨c, t, u⟩] else [⟨c, t, u⟩]) ∧ (∀ r ∈ (if agrees s.tick s.doubts ⟨c, t, u⟩ = true then s.doubts ++ [⟨c, t, u⟩] else [⟨c, t, u⟩]), r.at_ ≤ c) ∧ (if agrees s.tick s.doubts ⟨c, t, u⟩ = true then s.doubts ++ [⟨c, t, u⟩] else [⟨c, t, u⟩]) ≠ [] := by
          split
          · refine ⟨hs.ds.snoc hd, fun r hm => ?_, by simp⟩
            rcases List.mem_append.mp hm with q | q
            · exact hd r q
            · rw [List.mem_singleton.mp q]; exact Nat.le_refl _
          · refine ⟨List.pairwise_singleton _ _, fun r hm => ?_, by simp⟩
            rw [List.mem_singleton.mp hm]; exact Nat.le_refl _
        generalize (if agrees s.tick s.doubts ⟨c, t, u⟩ = true then s.doubts ++ [⟨c, t, u⟩] else [⟨c, t, u⟩]) = ds at e hds
        split at e
        · have e' := Option.some.inj e
          subst e'
          have k := take_ok hs (l := ds) (c := c) hds.2.2 hds.1 hds.2.1 (by omega)
          exact ⟨k.tk, k.rl, k.ra, k.rs, k.dl, k.da, k.ds, k.te, k.tl, k.sb⟩
        · rename_i hl
          have e' := Option.some.inj e
          subst e'
          have hc : s.seen ≤ c := by omega
          exact ⟨hs.tk, hs.rl, fun r hr => Nat.le_trans (hs.ra r hr) hc, hs.rs, (by show ds.length ≤ 2; omega), hds.2.1, hds.1, hs.te, fun x hx => ⟨(hs.tl x hx).1, Nat.le_trans (hs.tl x hx).2 hc⟩, (by show c ≤ _; omega)⟩
  | now c =>
    cases o with
    | none => cases e
    | some s =>
      have hs := h s rfl
      rw [step_now] at e
      split at e
      · exact h s' e
      split at e
      · exact h s' e
      split at e
      · exact h s' e
      · have e' := Option.some.inj e
        subst e'
        exact hs.see (by omega) (by omega)
  | look c =>
    cases o with
    | none => cases e
    | some s =>
      have hs := h s rfl
      rw [step_look s hs] at e
      split at e
      · exact h s' e
      split at e
      · exact h s' e
      split at e
      · exact h s' e
      split at e
      · exact h s' e
      · exact h s' e
  | rate =>
    cases o with
    | none => cases e
    | some s =>
      rw [step_rate] at e
      split at e
      · exact h s' e
      · exact h s' e
  | when_ t =>
    cases o with
    | none => cases e
    | some s =>
      rw [step_when] at e
      split at e
      · exact h s' e
      split at e
      · exact h s' e
      · exact h s' e
  | refs =>
    cases o with
    | none => cases e
    | some s => exact h s' e
  | count =>
    cases o with
    | none => cases e
    | some s => exact h s' e
theorem flat_len (rs : List Ref) : (rs.flatMap fun r => [(r.at_ : Int), r.time, (r.off : Int)]).length = 3 * rs.length := by
  induction rs with
  | nil => rfl
  | cons r rs ih =>
    rw [List.flatMap_cons, List.length_append, ih, List.length_cons]
    show 3 + 3 * rs.length = 3 * (rs.length + 1)
    omega
/-- no answer is long -/
theorem step_len {o : Option Clock} {x : Ra56.Call} (h : ∀ s, o = some s → COk s) : (step o x).2.l.length ≤ 48 := by
  have z : ∀ v : Int, (says v).l.length ≤ 48 := fun v => Nat.zero_le _
  cases x with
  | begin_ n d p =>
    rw [step_begin]
    split <;> exact z _
  | refer c t u =>
    cases o with
    | none => exact z _
    | some s =>
      rw [step_refer]
      split
      · exact z _
      split
      · exact z _
      split
      · exact z _
      generalize (if agrees s.tick s.doubts ⟨c, t, u⟩ = true then s.doubts ++ [⟨c, t, u⟩] else [⟨c, t, u⟩]) = ds
      split <;> exact z _
  | now c =>
    cases o with
    | none => exact z _
    | some s =>
      rw [step_now]
      split
      · exact z _
      split
      · exact z _
      split
      · exact z _
      · show 1 ≤ 48
        decide
  | look c =>
    cases o with
    | none => exact z _
    | some s =>
      rw [step_look s (h s rfl)]
      split
      · exact z _
      split
      · exact z _
      split
      · exact z _
      split
      · exact z _
      · show 3 ≤ 48
        decide
  | rate =>
    cases o with
    | none => exact z _
    | some s =>
      rw [step_rate]
      split
      · exact z _
      · show 3 ≤ 48
        decide
  | when_ t =>
    cases o with
    | none => exact z _
    | some s =>
      rw [step_when]
      split
      · exact z _
      split
      · exact z _
      · show 1 ≤ 48
        decide
  | refs =>
    cases o with
    | none => exact z _
    | some s =>
      rw [step_refs]
      show (s.refs.flatMap fun r => [(r.at_ : Int), r.time, (r.off : Int)]).length ≤ 48
      rw [flat_len]
      have := (h s rfl).rl
      omega
  | count =>
    cases o with
    | none => exact z _
    | some s =>
      show 5 ≤ 48
      decide
/-- the neutral step at a call that is asked -/
theorem nstep_ok {o : Option Clock} {p : Int} {ns : List Int} (h : ∀ s, o = some s → COk s) (ha : Ra56Neutral.asked1 [p :: ns] = true) :
    (∀ s, (Ra56Neutral.step o [p :: ns]).1 = some s → COk s) ∧ (Ra56Neutral.step o [p :: ns]).2.length ≤ 49 := by
  have key : ∃ x, Ra56Neutral.step o [p :: ns] = ((step o x).1, (step o x).2.v :: (step o x).2.l) := by
    rcases asked_cases ha with ⟨a, b, c, rfl, rfl⟩ | ⟨a, t, u, rfl, rfl⟩ | ⟨a, rfl, rfl⟩ | ⟨a, rfl, rfl⟩ | ⟨rfl, rfl⟩ | ⟨t, rfl, rfl⟩ | ⟨rfl, rfl⟩ | ⟨rfl, rfl⟩
    · exact ⟨_, n_begin o a b c⟩
    · exact ⟨_, n_refer o a t u⟩
    · exact ⟨_, n_now o a⟩
    · exact ⟨_, n_look o a⟩
    · exact ⟨_, n_rate o⟩
    · exact ⟨_, n_when o t⟩
    · exact ⟨_, n_refs o⟩
    · exact ⟨_, n_count o⟩
  obtain ⟨x, e⟩ := key
  rw [e]
  refine ⟨step_ok h rfl, ?_⟩
  have := step_len (x := x) h
  show (step o x).2.l.length + 1 ≤ 49
  omega
end Sm

end
section
set_option Elab.async false
set_option linter.all false
namespace Sm
open Ra56
/-! ### the least counter, as the program reckons it -/
theorem at_eq2 {k : Tick} {x : Told} (hx : LOk x) {c : Nat} (h : x.from_ ≤ c) : x.at_ k c = x.number + (min (c : Int) x.till - x.from_) * per1 k x + max ((c : Int) - x.till) 0 * per2 k x := by
  rw [at_eq hx h]
  unfold per1 per2
  generalize min (c : Int) x.till - x.from_ = A
  generalize max ((c : Int) - x.till) 0 = B
  generalize (1000000000 : Int) + x.base + x.more = U
  generalize (1000000000 : Int) + x.base = W
  rw [Int.mul_add, Int.mul_left_comm _ A, Int.mul_left_comm _ B, Int.add_assoc]
theorem per1_lt {k : Tick} (hk : TOk k) {x : Told} (hx : LOk x) : per1 k x < 2 ^ 62 := by
  unfold per1
  have h1 := hk.n0; have h2 := hk.n1; have h3 := hx.b1; have h4 := hx.m1; have h5 := hx.b0; have h6 := hx.m0
  have z : (k.num : Int) * (1000000000 + x.base + x.more) ≤ 1000000000 * (1000000000 + x.base + x.more) := Int.mul_le_mul_of_nonneg_right (by omega) (by omega)
  omega
theorem per2_lt {k : Tick} (hk : TOk k) {x : Told} (hx : LOk x) : per2 k x < 2 ^ 62 := by
  unfold per2
  have h1 := hk.n0; have h2 := hk.n1; have h3 := hx.b1; have h5 := hx.b0
  have z : (k.num : Int) * (1000000000 + x.base) ≤ 1000000000 * (1000000000 + x.base) := Int.mul_le_mul_of_nonneg_right (by omega) (by omega)
  omega
theorem cup_le {a b n : Int} (hb : 0 < b) : -(-a / b) ≤ n ↔ a ≤ n * b := by
  have e : -n ≤ -a / b ↔ -n * b ≤ -a := Int.le_ediv_iff_mul_le hb
  rw [Int.neg_mul] at e
  omega
def first (k : Tick) (x : Told) (t : Int) : Int :=
  if t * unit k ≤ x.at_ k x.till then (x.from_ : Int) + -(-(t * unit k - x.number) / per1 k x) else (x.till : Int) + -(-(t * unit k - x.at_ k x.till) / per2 k x)
theorem at_from {k : Tick} {x : Told} (hx : LOk x) : x.at_ k x.from_ = x.number := by
  rw [at_eq2 hx (Nat.le_refl _)]
  have := hx.ft
  have e1 : min (x.from_ : Int) x.till - x.from_ = 0 := by omega
  have e2 : max ((x.from_ : Int) - x.till) 0 = 0 := by omega
  rw [e1, e2, Int.zero_mul, Int.zero_mul]
  omega
theorem first_le {k : Tick} (hk : TOk k) {x : Told} (hx : LOk x) {n : Nat} (hf : x.from_ ≤ n) (t : Int) : first k x t ≤ n ↔ t * unit k ≤ x.at_ k n := by
  have p1 := per1_pos hk hx
  have p2 := per2_pos hk hx
  have ft := hx.ft
  unfold first
  generalize t * unit k = want
  by_cases h : want ≤ x.at_ k x.till
  · rw [if_pos h]
    have c1 := cup_le (a := want - x.number) (n := (n : Int) - x.from_) p1
    have e1 : (x.from_ : Int) + -(-(want - x.number) / per1 k x) ≤ n ↔ want - x.number ≤ ((n : Int) - x.from_) * per1 k x := by
      rw [← c1]
      omega
    rw [e1]
    by_cases hn : n ≤ x.till
    · have z := at_1 (k := k) (x := x) (a := x.from_) (j := n - x.from_) (Nat.le_refl _) (by omega)
      rw [show x.from_ + (n - x.from_) = n by omega, at_from hx, show ((n - x.from_ : Nat) : Int) = (n : Int) - x.from_ by omega] at z
      omega
    · have z := at_1 (k := k) (x := x) (a := x.from_) (j := x.till - x.from_) (Nat.le_refl _) (by omega)
      rw [show x.from_ + (x.till - x.from_) = x.till by omega, at_from hx, show ((x.till - x.from_ : Nat) : Int) = (x.till : Int) - x.from_ by omega] at z
      have m := at_mono' hk hx (a := x.till) (b := n) ft (by omega)
      have y : ((x.till : Int) - x.from_) * per1 k x ≤ ((n : Int) - x.from_) * per1 k x := Int.mul_le_mul_of_nonneg_right (by omega) (by omega)
      constructor
      · intro _; omega
      · intro _; omega
  · rw [if_neg h]
    have c1 := cup_le (a := want - x.at_ k x.till) (n := (n : Int) - x.till) p2
    have e1 : (x.till : Int) + -(-(want - x.at_ k x.till) / per2 k x) ≤ n ↔ want - x.at_ k x.till ≤ ((n : Int) - x.till) * per2 k x := by
      rw [← c1]
      omega
    rw [e1]
    by_cases hn : x.till ≤ n
    · have z := at_2 (k := k) (x := x) (a := x.till) (j := n - x.till) ft (Nat.le_refl _)
      rw [show x.till + (n - x.till) = n by omega, show ((n - x.till : Nat) : Int) = (n : Int) - x.till by omega] at z
      omega
    · have m := at_mono' hk hx (a := n) (b := x.till) hf (by omega)
      have y : ((n : Int) - x.till) * per2 k x < 0 := Int.mul_neg_of_neg_of_pos (by omega) p2
      omega
theorem first_max {k : Tick} (hk : TOk k) {x : Told} (hx : LOk x) {c : Nat} (hf : x.from_ ≤ c) (t : Int) : max (c : Int) (first k x t) = ((x.counter k c t : Nat) : Int) := by
  have L : Least k x c (t * unit k) (max (c : Int) (first k x t)).toNat := by
    refine ⟨by omega, ?_, fun m h1 h2 => ?_⟩
    · exact (first_le hk hx (n := (max (c : Int) (first k x t)).toNat) (by omega) t).mp (by omega)
    · have := first_le hk hx (n := m) (by omega) t
      omega
  have e := L.uniq (counter_least hk hx hf t)
  omega
theorem asked_0 {ns : List Int} (h : Ra56Neutral.asked1 [0 :: ns] = true) : ∃ a b c : Nat, ns = [(a : Int), (b : Int), (c : Int)] := by
  rcases asked_cases h with ⟨a, b, c, _, e⟩ | ⟨_, _, _, e, _⟩ | ⟨_, e, _⟩ | ⟨_, e, _⟩ | ⟨e, _⟩ | ⟨_, e, _⟩ | ⟨e, _⟩ | ⟨e, _⟩
  · exact ⟨a, b, c, e⟩
  all_goals cases e
theorem nstep_none {p : Int} {ns : List Int} (h : Ra56Neutral.asked1 [p :: ns] = true) (n : ¬ p = 0) : Ra56Neutral.step none [p :: ns] = (none, [-4]) := by
  rcases asked_cases h with ⟨a, b, c, rfl, rfl⟩ | ⟨a, t, u, rfl, rfl⟩ | ⟨a, rfl, rfl⟩ | ⟨a, rfl, rfl⟩ | ⟨rfl, rfl⟩ | ⟨t, rfl, rfl⟩ | ⟨rfl, rfl⟩ | ⟨rfl, rfl⟩
  · exact absurd rfl n
  · exact n_refer none a t u
  · exact n_now none a
  · exact n_look none a
  · exact n_rate none
  · exact n_when none t
  · exact n_refs none
  · exact n_count none
end Sm

end
section
set_option Elab.async false
set_option linter.all false
set_option maxRecDepth 100000
set_option maxHeartbeats 2000000
namespace Sc
open PySem PySem.Spec PyProof.Rows L2
open PySem.W (Codec)

/-! ### own rules over the layer -/
/-- // by a positive number of any size that comes up here -/
def CDivL (i j : Int) : Prop := 0 < j ∧ j < 2 ^ 200
theorem op_fdivL {X : Cx} : OpR X (binaryOp .FloorDiv) (rI CDivL fun i j => .int (i / j)) := opI fun i j _ _ _ _ _ hc q => by
  have h1 : (0 : Int) < j := hc.1
  have h2 : j < 2 ^ 200 := hc.2
  refine floordiv_int (by omega) (by rw [Int.fdiv_eq_ediv_of_nonneg i (by omega)]; exact q) (.inl (PyProof.noPylong_of_log2 ?_))
  have h3 : j.natAbs < 2 ^ 200 := by omega
  have h4 : j.natAbs.log2 < 200 := (Nat.log2_lt (by omega)).mpr h3
  omega
theorem cx_K {CX : CXT} {P : Program} {w : World} {K : PySem.W.Frag} {mg : Str → Option Value} {base : Heap} {N : List Str} {qual : Str} {scope : Scope} {f : Addr} {cd : Value} {A : Around} {outer : List Env} {s : Shared} {H : Hp} {E : XK} :
    (cxOf CX P w K mg base N qual scope f cd A outer s H E).K = K := rfl
theorem max_is (i j : Int) : (if j > i then j else i) = max i j := by omega
theorem min_is (i j : Int) : (if j < i then j else i) = min i j := by omega
/-- a module's number -/
def GInt (mg : Str → Option Value) (x : Str) (i : Int) : Prop := ∃ t, mg x = some (.int i t)
theorem pe_gint {X : Cx} {x : Str} {i : Int} {pos : Pos} (hg : Gl X x) (h : GInt X.mg x i) (hd : (x == ("__debug__" : Str)) = false := by decide) : PE X (.Name x pos) (tC (.int i)) :=
  let ⟨t, e⟩ := h
  pe_glob hg e ⟨t, rfl⟩ hd
/-- a module's dict of numbers, read -/
structure MDict (K : PySem.W.Frag) (d : Addr) (f : Int → Option V) : Prop where
  ex : ∃ (o : Obj) (es : Array DictEntry) (n : Nat), K.lookup d = some o ∧ o.ExactDict ∧ o.data = .dict es n ∧ (∀ e ∈ es, ∃ k, Value.isInt k e.key = true ∧ e.hash = hashInt k) ∧
    ∀ k v, f k = some v → ∃ u, findBy Value.isInt es k = some u ∧ RelV v u
def tMD (f : Int → Option V) (ty : TE) : TE := fun σ H Q => ty σ H fun y H1 => ∃ k v, y = .int k ∧ f k = some v ∧ Q v H1
theorem pe_mdict {X : Cx} {x : Str} {d : Addr} {f : Int → Option V} {i : Expr} {ty : TE} {p pos : Pos} (hg : Gl X x) (hm : X.mg x = some (.ref d)) (M : MDict X.K d f) (hi : PE X i ty) (hs : NoSl i) (hd : (x == ("__debug__" : Str)) = false := by decide) :
    PE X (.Subscript (.Name x p) i pos) (tMD f ty) := by
  intro pins s σ H Q I h
  have hx : PE X (.Name x p) (tC (.ref d)) := pe_glob hg hm rfl hd
  refine subD_of PySem.F.slot_dict_getitem.lookup hs (thn (hx pins s σ H (fun v H1 => v = .ref d ∧ H1 = H) I ⟨rfl, rfl⟩) fun u s1 ⟨x, H1, I1, rx, ex, eH⟩ => ?_)
  subst ex eH
  obtain rfl : u = Value.ref d := rx
  refine thn (hi pins s1 σ _ _ I1 h) fun iv s2 ⟨y, H2, I2, ry, k, v, ey, hf, q2⟩ => ?_
  subst ey
  obtain ⟨t, rfl⟩ := ry
  obtain ⟨o, es, n, hl, hex, hdt, hkeys, hfind⟩ := M.ex
  obtain ⟨w', hw, rw'⟩ := hfind k v hf
  have hget : s2.heap.get? d = some o := I2.kIn d o hl
  have hmap : s2.heap.MapOf (intKind X.prog X.w) d (fun k => findBy Value.isInt es k) := ⟨o, es, n, hget, hex, hdt, hkeys, fun _ => rfl⟩
  have hkey : (intKind X.prog X.w).is k (Value.int k t) = true := by simp [intKind, Value.isInt]
  exact ⟨hmap.typeIs, wpAny_getItem_of (k := k) hkey hmap hw ⟨v, H2, I2.tok _, rw', q2⟩⟩

/-- a def of the module that may be called -/
structure FnG (P : Program) (w : World) (K : PySem.W.Frag) (mg : Str → Option Value) (base : Heap) (x : Str) (k : Nat) (ps : List Str) (sp : Sp) : Prop where
  ex : ∃ (f : Addr) (fd : FuncData), FnOk P w K mg base CX0 k f fd ps sp ∧ mg x = some (.ref f) ∧ PySem.W.keepIn K (.ref f) = true ∧ Binds K fd ps []
/-- a class that may be called -/
structure MkG (P : Program) (w : World) (K : PySem.W.Frag) (mg : Str → Option Value) (base : Heap) (x : Str) (C : Addr) (k : Nat) (ps : List Str) (sp : Sp) : Prop where
  ex : ∃ (f : Addr) (fd : FuncData), Mk K C f ∧ FnOk P w K mg base CX0 k f fd ps sp ∧ mg x = some (.ref C) ∧ Binds K fd ps []
/-- a method -/
structure MtG (P : Program) (w : World) (K : PySem.W.Frag) (mg : Str → Option Value) (base : Heap) (C : Addr) (m : Str) (k : Nat) (ps : List Str) (sp : Sp) : Prop where
  ex : ∃ (f : Addr) (fd : FuncData), Meth K C m f ∧ FnOk P w K mg base CX0 k f fd ps sp ∧ Binds K fd ps []
section
variable {X : Cx} {x m : Str} {k : Nat} {ps : List Str} {sp : Sp} {p pos apos : Pos} {e o : Expr} {es : List Expr} {t : TA} {ta : TE} {C : Addr}
theorem pe_fn (F : FnG X.prog X.w X.K X.mg X.base x k ps sp) (hr : Room k X.A) (hg : Gl X x) (ha : PA X (e :: es) t) (hdb : (x == ("__debug__" : Str)) = false := by decide)
    (he : starEach (e :: es) X.env = (false, eval e X.env) :: starEach es X.env := by rfl) (hpl : (backTo pos (starEach es X.env)).any (·.1) = false := by rfl) : PE X (.Call (.Name x p) (e :: es) [] pos) (tCall sp [] E0 t) := by
  obtain ⟨f, fd, G, m, kp, b⟩ := F.ex
  exact pe_call G hr hg m kp b .nil pass0 ha hdb he hpl
theorem pe_mk (F : MkG X.prog X.w X.K X.mg X.base x C k ps sp) (hr : Room (k + 1) X.A) (hg : Gl X x) (ha : PA X (e :: es) t) (hdb : (x == ("__debug__" : Str)) = false := by decide)
    (he : starEach (e :: es) X.env = (false, eval e X.env) :: starEach es X.env := by rfl) (hpl : (backTo pos (starEach es X.env)).any (·.1) = false := by rfl) : PE X (.Call (.Name x p) (e :: es) [] pos) (tMake C sp [] E0 t) := by
  obtain ⟨f, fd, M, G, m, b⟩ := F.ex
  exact pe_make M G hr hg m b .nil pass0 ha hdb he hpl
theorem pe_mk0 (F : MkG X.prog X.w X.K X.mg X.base x C k ps sp) (hr : Room (k + 1) X.A) (hg : Gl X x) (hdb : (x == ("__debug__" : Str)) = false := by decide) : PE X (.Call (.Name x p) [] [] pos) (tMake C sp [] E0 tNil) := by
  obtain ⟨f, fd, M, G, m, b⟩ := F.ex
  exact pe_make0 M G hr hg m b .nil pass0 hdb
theorem pe_mt {pl : Sem Bool} (F : MtG X.prog X.w X.K X.mg X.base C m k ps sp) (c : Cls X.K C) (he : PE X o ta) (hr : Room k X.A) (ha : PA X (e :: es) t)
    (hst : starEach (e :: es) X.env = (false, eval e X.env) :: starEach es X.env := by rfl) (hpl : (backTo pos (starEach es X.env)).any (·.1) = false := by rfl)
    (ht : eval (.Call (.Attribute o m apos) (e :: es) [] pos) X.env = (do
      let ov ← eval o X.env
      standAt apos.atName
      let (f, first) ← holding [ov] (getMethod ov m pl)
      callWith pos f first (backTo pos (starEach (e :: es) X.env)) (backToKw pos (keywordEach [] X.env))) := by rfl) :
    PE X (.Call (.Attribute o m apos) (e :: es) [] pos) (tMeth C m sp [] E0 ta t) := by
  obtain ⟨f, fd, M, G, b⟩ := F.ex
  exact pe_meth (pl := pl) he c M G hr b .nil pass0 ha hst hpl ht
theorem pe_mt0 {pl : Sem Bool} (F : MtG X.prog X.w X.K X.mg X.base C m k ps sp) (c : Cls X.K C) (he : PE X o ta) (hr : Room k X.A)
    (ht : eval (.Call (.Attribute o m apos) [] [] pos) X.env = (do
      let ov ← eval o X.env
      standAt apos.atName
      let (f, first) ← holding [ov] (getMethod ov m pl)
      callWith pos f first (backTo pos (starEach [] X.env)) (backToKw pos (keywordEach [] X.env))) := by rfl) :
    PE X (.Call (.Attribute o m apos) [] [] pos) (tMeth C m sp [] E0 ta tNil) := by
  obtain ⟨f, fd, M, G, b⟩ := F.ex
  exact pe_meth0 (pl := pl) he c M G hr b .nil pass0 ht
end

/-! ### attributes, by what they are -/
def HasF (K : PySem.W.Frag) (H : Hp) (x : V) (f : Str) (v : V) : Prop := ∃ a C dx fs, x = .ref a ∧ H a = some (.ins C dx fs) ∧ Cls K C ∧ NoAttr K C f ∧ fs.lookup f = some v
def tFldR (K : PySem.W.Frag) (ta : TE) (f : Str) : TE := fun σ H Q => ta σ H fun x H1 => ∃ v, HasF K H1 x f v ∧ Q v H1
theorem pe_fldR {X : Cx} {e : Expr} {ta : TE} {f : Str} {pos : Pos} (he : PE X e ta) (hb : attributeBase e f X.env (eval e X.env) = eval e X.env) : PE X (.Attribute e f pos) (tFldR X.K ta f) := by
  intro pins s σ H Q I h
  refine attr_of hb (thn (he pins s σ H _ I h) fun u s1 ⟨x, H1, I1, rx, v, ⟨a, C, dx, fs, ex, ea, c, n, l⟩, q⟩ => ?_)
  subst ex
  obtain rfl : u = Value.ref a := rx
  exact getattr_ok I1 ea c n l fun u' s2 I2 ru => ⟨v, H1, I2, ru, q⟩
/-- an instance of the class at C with these attributes stands at a -/
structure Ins (K : PySem.W.Frag) (C : Addr) (H : Hp) (a : Addr) (fs : List (Str × V)) : Prop where
  cl : Cls K C
  at_ : ∃ dx, H a = some (.ins C dx fs)
  no : ∀ p ∈ fs, NoAttr K C p.1
theorem lookup_mem {fs : List (Str × V)} {f : Str} {v : V} (h : fs.lookup f = some v) : (f, v) ∈ fs := PySem.mem_of_lookup h
theorem Ins.has {K : PySem.W.Frag} {C : Addr} {H : Hp} {a : Addr} {fs : List (Str × V)} (h : Ins K C H a fs) {f : Str} {v : V} (l : fs.lookup f = some v) (v' : V) : HasF K H (.ref a) f v' ↔ v' = v := by
  obtain ⟨dx, e⟩ := h.at_
  constructor
  · rintro ⟨a', C', dx', fs', ea, e', _, _, l'⟩
    cases ea
    rw [e] at e'
    cases e'
    rw [l] at l'
    exact (Option.some.inj l').symm
  · intro q
    subst q
    exact ⟨a, C, dx, fs, rfl, e, h.cl, h.no _ (lookup_mem l), l⟩
theorem Ins.mono {K : PySem.W.Frag} {C : Addr} {H H' : Hp} {a : Addr} {fs : List (Str × V)} (h : Ins K C H a fs) (s : Same H H') : Ins K C H' a fs :=
  ⟨h.cl, let ⟨dx, e⟩ := h.at_; ⟨dx, s _ _ e⟩, h.no⟩
abbrev tickF (k : Ra56.Tick) : List (Str × V) := [("num", .int k.num), ("den", .int k.den), ("ppm", .int k.ppm)]
abbrev refF (r : Ra56.Ref) : List (Str × V) := [("counter", .int r.at_), ("time", .int r.time), ("off", .int r.off)]
abbrev toldF (x : Ra56.Told) : List (Str × V) := [("counter", .int x.from_), ("value", .int x.number), ("base", .int x.base), ("more", .int x.more), ("till", .int x.till)]
abbrev TickAt (K : PySem.W.Frag) (cT : Addr) (H : Hp) (a : Addr) (k : Ra56.Tick) : Prop := Ins K cT H a (tickF k)
abbrev RefAt (K : PySem.W.Frag) (cR : Addr) (H : Hp) (a : Addr) (r : Ra56.Ref) : Prop := Ins K cR H a (refF r)
abbrev ToldAt (K : PySem.W.Frag) (cD : Addr) (H : Hp) (a : Addr) (x : Ra56.Told) : Prop := Ins K cD H a (toldF x)
section
variable {K : PySem.W.Frag} {C : Addr} {H H' : Hp} {a : Addr}
theorem t_num {k : Ra56.Tick} (h : TickAt K C H a k) (v : V) : HasF K H (.ref a) "num" v ↔ v = .int k.num := h.has rfl v
theorem t_den {k : Ra56.Tick} (h : TickAt K C H a k) (v : V) : HasF K H (.ref a) "den" v ↔ v = .int k.den := h.has rfl v
theorem t_ppm {k : Ra56.Tick} (h : TickAt K C H a k) (v : V) : HasF K H (.ref a) "ppm" v ↔ v = .int k.ppm := h.has rfl v
theorem r_counter {r : Ra56.Ref} (h : RefAt K C H a r) (v : V) : HasF K H (.ref a) "counter" v ↔ v = .int r.at_ := h.has rfl v
theorem r_time {r : Ra56.Ref} (h : RefAt K C H a r) (v : V) : HasF K H (.ref a) "time" v ↔ v = .int r.time := h.has rfl v
theorem r_off {r : Ra56.Ref} (h : RefAt K C H a r) (v : V) : HasF K H (.ref a) "off" v ↔ v = .int r.off := h.has rfl v
theorem l_counter {x : Ra56.Told} (h : ToldAt K C H a x) (v : V) : HasF K H (.ref a) "counter" v ↔ v = .int x.from_ := h.has rfl v
theorem l_value {x : Ra56.Told} (h : ToldAt K C H a x) (v : V) : HasF K H (.ref a) "value" v ↔ v = .int x.number := h.has rfl v
theorem l_base {x : Ra56.Told} (h : ToldAt K C H a x) (v : V) : HasF K H (.ref a) "base" v ↔ v = .int x.base := h.has rfl v
theorem l_more {x : Ra56.Told} (h : ToldAt K C H a x) (v : V) : HasF K H (.ref a) "more" v ↔ v = .int x.more := h.has rfl v
theorem l_till {x : Ra56.Told} (h : ToldAt K C H a x) (v : V) : HasF K H (.ref a) "till" v ↔ v = .int x.till := h.has rfl v
/-- references in a row -/
def RefsL (K : PySem.W.Frag) (C : Addr) (H : Hp) : List Addr → List Ra56.Ref → Prop
  | [], [] => True
  | a :: as, r :: rs => RefAt K C H a r ∧ RefsL K C H as rs
  | _, _ => False
theorem RefsL.length : ∀ {as : List Addr} {rs : List Ra56.Ref}, RefsL K C H as rs → as.length = rs.length
  | [], [], _ => rfl
  | _ :: _, _ :: _, h => congrArg (· + 1) (RefsL.length h.2)
  | [], _ :: _, h => h.elim
  | _ :: _, [], h => h.elim
theorem RefsL.mono (s : Same H H') : ∀ {as : List Addr} {rs : List Ra56.Ref}, RefsL K C H as rs → RefsL K C H' as rs
  | [], [], _ => trivial
  | _ :: _, _ :: _, h => ⟨h.1.mono s, RefsL.mono s h.2⟩
  | [], _ :: _, h => h.elim
  | _ :: _, [], h => h.elim
theorem RefsL.get : ∀ {as : List Addr} {rs : List Ra56.Ref} {i : Nat} {a : Addr}, RefsL K C H as rs → as[i]? = some a → ∃ r, rs[i]? = some r ∧ RefAt K C H a r
  | [], [], i, a, _, e => by simp at e
  | b :: as, r :: rs, 0, a, h, e => by
    have e : b = a := Option.some.inj e
    subst e
    exact ⟨r, rfl, h.1⟩
  | b :: as, r :: rs, i + 1, a, h, e => RefsL.get (i := i) h.2 e
  | [], _ :: _, _, _, h, _ => h.elim
  | _ :: _, [], _, _, h, _ => h.elim
theorem RefsL.append : ∀ {as bs : List Addr} {rs qs : List Ra56.Ref}, RefsL K C H as rs → RefsL K C H bs qs → RefsL K C H (as ++ bs) (rs ++ qs)
  | [], _, [], _, _, h => h
  | _ :: _, _, _ :: _, _, h, h' => ⟨h.1, RefsL.append h.2 h'⟩
  | [], _, _ :: _, _, h, _ => h.elim
  | _ :: _, _, [], _, h, _ => h.elim
theorem RefsL.drop : ∀ (n : Nat) {as : List Addr} {rs : List Ra56.Ref}, RefsL K C H as rs → RefsL K C H (as.drop n) (rs.drop n)
  | 0, _, _, h => h
  | n + 1, [], [], _ => trivial
  | n + 1, _ :: _, _ :: _, h => RefsL.drop n h.2
  | n + 1, [], _ :: _, h => h.elim
  | n + 1, _ :: _, [], h => h.elim
/-- the list at l holds them -/
def RefsAt (K : PySem.W.Frag) (C : Addr) (H : Hp) (l : Addr) (rs : List Ra56.Ref) : Prop := ∃ as : List Addr, H l = some (.lst (as.map V.ref)) ∧ RefsL K C H as rs
theorem RefsAt.mono {l : Addr} {rs : List Ra56.Ref} (h : RefsAt K C H l rs) (s : Same H H') : RefsAt K C H' l rs :=
  let ⟨as, e, q⟩ := h
  ⟨as, s _ _ e, q.mono s⟩
end
/-! ### lists of a known length -/
theorem of_lenS {α : Type} {n : Nat} {us : List α} (h : us.length = n + 1) : ∃ a vs, us = a :: vs ∧ vs.length = n := by
  cases us with
  | nil => cases h
  | cons a vs => exact ⟨a, vs, rfl, Nat.succ.inj h⟩
theorem of_len1 {α : Type} {us : List α} (h : us.length = 1) : ∃ a, us = [a] := by
  obtain ⟨a, vs, e, h⟩ := of_lenS h
  exact ⟨a, by rw [e, List.length_eq_zero_iff.mp h]⟩
theorem of_len2 {α : Type} {us : List α} (h : us.length = 2) : ∃ a a0, us = [a, a0] := by
  obtain ⟨a, vs, e, h⟩ := of_lenS h
  obtain ⟨a0, e'⟩ := of_len1 h
  exact ⟨a, a0, by rw [e, e']⟩
theorem of_len3 {α : Type} {us : List α} (h : us.length = 3) : ∃ a a0 a1, us = [a, a0, a1] := by
  obtain ⟨a, vs, e, h⟩ := of_lenS h
  obtain ⟨a0, a1, e'⟩ := of_len2 h
  exact ⟨a, a0, a1, by rw [e, e']⟩
theorem of_len4 {α : Type} {us : List α} (h : us.length = 4) : ∃ a a0 a1 a2, us = [a, a0, a1, a2] := by
  obtain ⟨a, vs, e, h⟩ := of_lenS h
  obtain ⟨a0, a1, a2, e'⟩ := of_len3 h
  exact ⟨a, a0, a1, a2, by rw [e, e']⟩
theorem of_len5 {α : Type} {us : List α} (h : us.length = 5) : ∃ a a0 a1 a2 a3, us = [a, a0, a1, a2, a3] := by
  obtain ⟨a, vs, e, h⟩ := of_lenS h
  obtain ⟨a0, a1, a2, a3, e'⟩ := of_len4 h
  exact ⟨a, a0, a1, a2, a3, by rw [e, e']⟩
theorem of_len6 {α : Type} {us : List α} (h : us.length = 6) : ∃ a a0 a1 a2 a3 a4, us = [a, a0, a1, a2, a3, a4] := by
  obtain ⟨a, vs, e, h⟩ := of_lenS h
  obtain ⟨a0, a1, a2, a3, a4, e'⟩ := of_len5 h
  exact ⟨a, a0, a1, a2, a3, a4, by rw [e, e']⟩
def top (i : Nat) : Stmt := PySem.Challenge.pw_stationclock_s01_answers.main.body.getD i (.Pass ⟨0, 0, 0, 0⟩)
end Sc

end
section
set_option Elab.async false
set_option linter.all false
set_option maxRecDepth 100000
set_option maxHeartbeats 2000000
namespace Sc
open PySem PySem.Spec PyProof.Rows L2
structure Txt (K : PySem.W.Frag) (mg : Str → Option Value) : Prop where
  i_MILLION : GInt mg "MILLION" (1000000)
  i_BILLION : GInt mg "BILLION" (1000000000)
  i_MOST_MORE : GInt mg "MOST_MORE" (500000)
  i_NEARING_SECONDS : GInt mg "NEARING_SECONDS" (64)
  i_OUT_OF_RANGE : GInt mg "OUT_OF_RANGE" (-1)
  i_NOTHING_THERE : GInt mg "NOTHING_THERE" (-2)
  i_OUT_OF_TURN : GInt mg "OUT_OF_TURN" (-4)
  i_TAKEN : GInt mg "TAKEN" (0)
  i_DOUBTED : GInt mg "DOUBTED" (1)
  i_BELIEVED : GInt mg "BELIEVED" (2)
  i_MOST_PPM : GInt mg "MOST_PPM" (10000)
  i_MOST_COUNTER : GInt mg "MOST_COUNTER" (4611686018427387904)
  i_MOST_TIME : GInt mg "MOST_TIME" (4611686018427387904)
  i_MOST_OFF : GInt mg "MOST_OFF" (1099511627776)
  i_MOST_KEPT : GInt mg "MOST_KEPT" (16)
  i_ENOUGH_TO_BELIEVE : GInt mg "ENOUGH_TO_BELIEVE" (3)
  i_BEGIN : GInt mg "BEGIN" (0)
  i_REFER : GInt mg "REFER" (1)
  i_NOW : GInt mg "NOW" (2)
  i_LOOK : GInt mg "LOOK" (3)
  i_RATE : GInt mg "RATE" (4)
  i_WHEN : GInt mg "WHEN" (5)
  i_REFS : GInt mg "REFS" (6)
  b_max : mg "max" = none
  b_min : mg "min" = none
  b_len : mg "len" = none

/-! ### numbers -/
def spQup : Sp := fun vs H Q _ => ∃ a b : Int, vs = [.int a, .int b] ∧ CDivL a b ∧ Q (.int (-((-a) / b))) H
def spWithin : Sp := fun vs H Q _ => ∃ n lo hi : Int, vs = [.int n, .int lo, .int hi] ∧ Q (.bl (decide (lo ≤ n) && decide (n ≤ hi))) H
def spCut : Sp := fun vs H Q _ => ∃ n lo hi : Int, vs = [.int n, .int lo, .int hi] ∧ Q (.int (max lo (min n hi))) H
section
variable {P : Program} {w : World} {K : PySem.W.Frag} {mg : Str → Option Value} {base : Heap} {f : Addr} {fd : FuncData}
abbrev s_quotient_up : Stmt := top 8
theorem sc_quotient_up : FnScope ["upper", "lower"] ["upper", "lower"] (defScope s_quotient_up) := ⟨rfl, rfl, rfl, by decide +kernel, rfl, by decide +kernel, by decide +kernel⟩
theorem ok_quotient_up (F : Fun K "quotient_up" "quotient_up" s_quotient_up f fd) : FnOk P w K mg base CX0 1 f fd ["upper", "lower"] spQup := by
  refine F.ok sc_quotient_up (fun vs H Q E h => ?_) (fun cdv A outer s H vs Q E hr h => ?_)
  · obtain ⟨a, b, rfl, _⟩ := h
    rfl
  · obtain ⟨a, b, rfl, hc, q⟩ := h
    refine ⟨_, (pss_one (ps_ret (pe_un un_neg (pe_op op_fdivL (pe_un un_neg (pv 0)) (pv 1))))), ?_⟩
    simp only [tSeq, tRet, tNext, tAsg, gName, tIfS, tDrop, tVar, tC, tOp, tUn, rI, rI0, rU, rEq, rNe, tTest, tB, tNot, tOr, tAndV, tFldR, tCons, tNil, tCB, tCall, tIsN, L2.start, List.map_cons, List.map_nil, List.length_cons, List.length_nil, List.append_nil, List.nil_append, List.cons_append, List.replicate_succ, List.replicate_zero, List.replicate, Nat.reduceAdd, Nat.reduceSub, Nat.sub_self, List.getElem?_cons_zero, List.getElem?_cons_succ, List.set_cons_zero, List.set_cons_succ, Option.some.injEq, V.int.injEq, V.bl.injEq, V.ref.injEq, List.cons.injEq, exists_and_left, exists_eq_left', exists_eq_left, exists_eq_right_right, exists_eq, and_true, true_and, exists_const, and_assoc, cx_K, max_is, min_is]
    exact ⟨hc, q⟩
abbrev s_within : Stmt := top 9
theorem sc_within : FnScope ["number", "low", "high"] ["number", "low", "high"] (defScope s_within) := ⟨rfl, rfl, rfl, by decide +kernel, rfl, by decide +kernel, by decide +kernel⟩
theorem ok_within (F : Fun K "within" "within" s_within f fd) : FnOk P w K mg base CX0 1 f fd ["number", "low", "high"] spWithin := by
  refine F.ok sc_within (fun vs H Q E h => ?_) (fun cdv A outer s H vs Q E hr h => ?_)
  · obtain ⟨n, lo, hi, rfl, _⟩ := h
    rfl
  · obtain ⟨n, lo, hi, rfl, q⟩ := h
    refine ⟨_, (pss_one (ps_ret (pe_and (pe_cmpR op_le (pv 1) (pv 0) (nomark _)) (pe_one (pe_cmpR op_le (pv 0) (pv 2) (nomark _)))))), ?_⟩
    simp only [tSeq, tRet, tNext, tAsg, gName, tIfS, tDrop, tVar, tC, tOp, tUn, rI, rI0, rU, rEq, rNe, tTest, tB, tNot, tOr, tAndV, tFldR, tCons, tNil, tCB, tCall, tIsN, L2.start, List.map_cons, List.map_nil, List.length_cons, List.length_nil, List.append_nil, List.nil_append, List.cons_append, List.replicate_succ, List.replicate_zero, List.replicate, Nat.reduceAdd, Nat.reduceSub, Nat.sub_self, List.getElem?_cons_zero, List.getElem?_cons_succ, List.set_cons_zero, List.set_cons_succ, Option.some.injEq, V.int.injEq, V.bl.injEq, V.ref.injEq, List.cons.injEq, exists_and_left, exists_eq_left', exists_eq_left, exists_eq_right_right, exists_eq, and_true, true_and, exists_const, and_assoc, cx_K, max_is, min_is]
    by_cases h1 : lo ≤ n
    · simpa [h1] using q
    · simpa [h1] using q
abbrev s_cut_to : Stmt := top 10
theorem sc_cut_to : FnScope ["number", "low", "high"] ["number", "low", "high"] (defScope s_cut_to) := ⟨rfl, rfl, rfl, by decide +kernel, rfl, by decide +kernel, by decide +kernel⟩
theorem ok_cut_to (T : Txt K mg) (F : Fun K "cut_to" "cut_to" s_cut_to f fd) : FnOk P w K mg base CX0 1 f fd ["number", "low", "high"] spCut := by
  refine F.ok sc_cut_to (fun vs H Q E h => ?_) (fun cdv A outer s H vs Q E hr h => ?_)
  · obtain ⟨n, lo, hi, rfl, _⟩ := h
    rfl
  · obtain ⟨n, lo, hi, rfl, q⟩ := h
    refine ⟨_, (pss_one (ps_ret (pe_callB (call_max2 rfl) (by rfl) T.b_max boot_max (pa_cons (pv 1) (pa_cons (pe_callB (call_min2 rfl) (by rfl) T.b_min boot_min (pa_cons (pv 0) (pa_cons (pv 2) pa_nil))) pa_nil))))), ?_⟩
    simp only [tSeq, tRet, tNext, tAsg, gName, tIfS, tDrop, tVar, tC, tOp, tUn, rI, rI0, rU, rEq, rNe, tTest, tB, tNot, tOr, tAndV, tFldR, tCons, tNil, tCB, tCall, tIsN, L2.start, List.map_cons, List.map_nil, List.length_cons, List.length_nil, List.append_nil, List.nil_append, List.cons_append, List.replicate_succ, List.replicate_zero, List.replicate, Nat.reduceAdd, Nat.reduceSub, Nat.sub_self, List.getElem?_cons_zero, List.getElem?_cons_succ, List.set_cons_zero, List.set_cons_succ, Option.some.injEq, V.int.injEq, V.bl.injEq, V.ref.injEq, List.cons.injEq, exists_and_left, exists_eq_left', exists_eq_left, exists_eq_right_right, exists_eq, and_true, true_and, exists_const, and_assoc, cx_K, max_is, min_is]
    exact q
end
end Sc

end
section
set_option Elab.async false
set_option linter.all false
set_option maxRecDepth 100000
set_option maxHeartbeats 2000000
namespace Sc
open PySem PySem.Spec PyProof.Rows L2
/-! ### one reference -/
def spEarliest (K : PySem.W.Frag) (cT cR : Addr) : Sp := fun vs H Q _ => ∃ (tk rf : Addr) (k : Ra56.Tick) (r : Ra56.Ref) (c : Nat), vs = [.ref tk, .ref rf, .int c] ∧ TickAt K cT H tk k ∧ RefAt K cR H rf r ∧ Sm.TOk k ∧ r.at_ ≤ c ∧ Q (.int (r.low k c)) H
def spLatest (K : PySem.W.Frag) (cT cR : Addr) : Sp := fun vs H Q _ => ∃ (tk rf : Addr) (k : Ra56.Tick) (r : Ra56.Ref) (c : Nat), vs = [.ref tk, .ref rf, .int c] ∧ TickAt K cT H tk k ∧ RefAt K cR H rf r ∧ Sm.TOk k ∧ r.at_ ≤ c ∧ Q (.int (r.high k c)) H
section
variable {P : Program} {w : World} {K : PySem.W.Frag} {mg : Str → Option Value} {base : Heap} {f cT cR cD : Addr} {fd : FuncData}
abbrev s_earliest_by : Stmt := top 11
theorem sc_earliest_by : FnScope ["tick", "reference", "c", "passed"] ["tick", "reference", "c"] (defScope s_earliest_by) := ⟨rfl, rfl, rfl, by decide +kernel, rfl, by decide +kernel, by decide +kernel⟩
theorem ok_earliest_by (T : Txt K mg) (F : Fun K "earliest_by" "earliest_by" s_earliest_by f fd) : FnOk P w K mg base CX0 1 f fd ["tick", "reference", "c"] (spEarliest K cT cR) := by
  refine F.ok sc_earliest_by (fun vs H Q E h => ?_) (fun cdv A outer s H vs Q E hr h => ?_)
  · obtain ⟨tk, rf, k, r, c, rfl, _⟩ := h
    rfl
  · obtain ⟨tk, rf, k, r, c, rfl, ht, hf, hk, hc, q⟩ := h
    refine ⟨_, (pss_cons (ps_set (i := 3) sc_earliest_by.nd rfl (Or.inl rfl) (pe_op op_mul (pe_op op_mul (pe_op op_sub (pv 2) (pe_fldR (pv 1) rfl)) (pe_fldR (pv 0) rfl)) (pe_op op_sub (pe_gint rfl T.i_MILLION) (pe_fldR (pv 0) rfl))))
      (pss_one (ps_ret (pe_op op_add (pe_op op_sub (pe_fldR (pv 1) rfl) (pe_fldR (pv 1) rfl)) (pe_op op_fdivL (pv 3) (pe_op op_mul (pe_fldR (pv 0) rfl) (pe_gint rfl T.i_MILLION))))))), ?_⟩
    simp only [tSeq, tRet, tNext, tAsg, gName, tIfS, tDrop, tVar, tC, tOp, tUn, rI, rI0, rU, rEq, rNe, tTest, tB, tNot, tOr, tAndV, tFldR, tCons, tNil, tCB, tCall, tIsN, L2.start, List.map_cons, List.map_nil, List.length_cons, List.length_nil, List.append_nil, List.nil_append, List.cons_append, List.replicate_succ, List.replicate_zero, List.replicate, Nat.reduceAdd, Nat.reduceSub, Nat.sub_self, List.getElem?_cons_zero, List.getElem?_cons_succ, List.set_cons_zero, List.set_cons_succ, Option.some.injEq, V.int.injEq, V.bl.injEq, V.ref.injEq, List.cons.injEq, exists_and_left, exists_eq_left', exists_eq_left, exists_eq_right_right, exists_eq, and_true, true_and, exists_const, and_assoc, cx_K, max_is, min_is, t_num ht, t_den ht, t_ppm ht, r_counter hf, r_time hf, r_off hf]
    have h1 := hk.n1; have h2 := hk.d1; have h3 := hk.p1; have h4 := hk.d0
    rw [Sm.low_eq hk hc] at q
    exact ⟨.inr (by omega), .inr (by omega), .inr (by omega), ⟨by omega, by omega⟩, q⟩
abbrev s_latest_by : Stmt := top 12
theorem sc_latest_by : FnScope ["tick", "reference", "c", "passed"] ["tick", "reference", "c"] (defScope s_latest_by) := ⟨rfl, rfl, rfl, by decide +kernel, rfl, by decide +kernel, by decide +kernel⟩
theorem ok_latest_by (T : Txt K mg) (F : Fun K "latest_by" "latest_by" s_latest_by f fd) (f_quotient_up : FnG P w K mg base "quotient_up" 1 ["upper", "lower"] spQup) : FnOk P w K mg base CX0 2 f fd ["tick", "reference", "c"] (spLatest K cT cR) := by
  refine F.ok sc_latest_by (fun vs H Q E h => ?_) (fun cdv A outer s H vs Q E hr h => ?_)
  · obtain ⟨tk, rf, k, r, c, rfl, _⟩ := h
    rfl
  · obtain ⟨tk, rf, k, r, c, rfl, ht, hf, hk, hc, q⟩ := h
    refine ⟨_, (pss_cons (ps_set (i := 3) sc_latest_by.nd rfl (Or.inl rfl) (pe_op op_mul (pe_op op_mul (pe_op op_sub (pv 2) (pe_fldR (pv 1) rfl)) (pe_fldR (pv 0) rfl)) (pe_op op_add (pe_gint rfl T.i_MILLION) (pe_fldR (pv 0) rfl))))
      (pss_one (ps_ret (pe_op op_add (pe_op op_add (pe_fldR (pv 1) rfl) (pe_fldR (pv 1) rfl)) (pe_fn f_quotient_up (hr.mono (by decide)) rfl (pa_cons (pv 3) (pa_cons (pe_op op_mul (pe_fldR (pv 0) rfl) (pe_gint rfl T.i_MILLION)) pa_nil))))))), ?_⟩
    simp only [tSeq, tRet, tNext, tAsg, gName, tIfS, tDrop, tVar, tC, tOp, tUn, rI, rI0, rU, rEq, rNe, tTest, tB, tNot, tOr, tAndV, tFldR, tCons, tNil, tCB, tCall, tIsN, L2.start, List.map_cons, List.map_nil, List.length_cons, List.length_nil, List.append_nil, List.nil_append, List.cons_append, List.replicate_succ, List.replicate_zero, List.replicate, Nat.reduceAdd, Nat.reduceSub, Nat.sub_self, List.getElem?_cons_zero, List.getElem?_cons_succ, List.set_cons_zero, List.set_cons_succ, Option.some.injEq, V.int.injEq, V.bl.injEq, V.ref.injEq, List.cons.injEq, exists_and_left, exists_eq_left', exists_eq_left, exists_eq_right_right, exists_eq, and_true, true_and, exists_const, and_assoc, cx_K, max_is, min_is, spQup, t_num ht, t_den ht, t_ppm ht, r_counter hf, r_time hf, r_off hf]
    have h1 := hk.n1; have h2 := hk.d1; have h3 := hk.p1; have h4 := hk.d0
    rw [Sm.high_eq hk hc] at q
    exact ⟨.inr (by omega), .inr (by omega), .inr (by omega), ⟨by omega, by omega⟩, q⟩
/-! ### the told time -/
def spParts (K : PySem.W.Frag) (cT : Addr) : Sp := fun vs H Q _ => ∃ (tk : Addr) (k : Ra56.Tick), vs = [.ref tk] ∧ TickAt K cT H tk k ∧ Sm.TOk k ∧ Q (.int (Ra56.unit k)) H
def spValue (K : PySem.W.Frag) (cT cD : Addr) : Sp := fun vs H Q _ => ∃ (tk to : Addr) (k : Ra56.Tick) (x : Ra56.Told) (c : Nat), vs = [.ref tk, .ref to, .int c] ∧ TickAt K cT H tk k ∧ ToldAt K cD H to x ∧ Sm.TOk k ∧ Sm.LOk x ∧ x.from_ ≤ c ∧ Q (.int (x.at_ k c)) H
def spTime (K : PySem.W.Frag) (cT cD : Addr) : Sp := fun vs H Q _ => ∃ (tk to : Addr) (k : Ra56.Tick) (x : Ra56.Told) (c : Nat), vs = [.ref tk, .ref to, .int c] ∧ TickAt K cT H tk k ∧ ToldAt K cD H to x ∧ Sm.TOk k ∧ Sm.LOk x ∧ x.from_ ≤ c ∧ Q (.int (x.time k c)) H
abbrev s_parts_in_microsecond : Stmt := top 18
theorem sc_parts_in_microsecond : FnScope ["tick"] ["tick"] (defScope s_parts_in_microsecond) := ⟨rfl, rfl, rfl, by decide +kernel, rfl, by decide +kernel, by decide +kernel⟩
theorem ok_parts_in_microsecond (T : Txt K mg) (F : Fun K "parts_in_microsecond" "parts_in_microsecond" s_parts_in_microsecond f fd) : FnOk P w K mg base CX0 1 f fd ["tick"] (spParts K cT) := by
  refine F.ok sc_parts_in_microsecond (fun vs H Q E h => ?_) (fun cdv A outer s H vs Q E hr h => ?_)
  · obtain ⟨tk, k, rfl, _⟩ := h
    rfl
  · obtain ⟨tk, k, rfl, ht, hk, q⟩ := h
    refine ⟨_, (pss_one (ps_ret (pe_op op_mul (pe_fldR (pv 0) rfl) (pe_gint rfl T.i_BILLION)))), ?_⟩
    simp only [tSeq, tRet, tNext, tAsg, gName, tIfS, tDrop, tVar, tC, tOp, tUn, rI, rI0, rU, rEq, rNe, tTest, tB, tNot, tOr, tAndV, tFldR, tCons, tNil, tCB, tCall, tIsN, L2.start, List.map_cons, List.map_nil, List.length_cons, List.length_nil, List.append_nil, List.nil_append, List.cons_append, List.replicate_succ, List.replicate_zero, List.replicate, Nat.reduceAdd, Nat.reduceSub, Nat.sub_self, List.getElem?_cons_zero, List.getElem?_cons_succ, List.set_cons_zero, List.set_cons_succ, Option.some.injEq, V.int.injEq, V.bl.injEq, V.ref.injEq, List.cons.injEq, exists_and_left, exists_eq_left', exists_eq_left, exists_eq_right_right, exists_eq, and_true, true_and, exists_const, and_assoc, cx_K, max_is, min_is, t_den ht]
    have h2 := hk.d1
    rw [Sm.unit_eq] at q
    exact ⟨.inr (by omega), q⟩
/-- a step of the told time -/
def spStep (K : PySem.W.Frag) (cT cD : Addr) (g : Ra56.Tick → Ra56.Told → Int) : Sp := fun vs H Q _ => ∃ (tk to : Addr) (k : Ra56.Tick) (x : Ra56.Told), vs = [.ref tk, .ref to] ∧ TickAt K cT H tk k ∧ ToldAt K cD H to x ∧ Sm.TOk k ∧ Sm.LOk x ∧ Q (.int (g k x)) H
abbrev s_nearing_step : Stmt := top 19
theorem sc_nearing_step : FnScope ["tick", "told"] ["tick", "told"] (defScope s_nearing_step) := ⟨rfl, rfl, rfl, by decide +kernel, rfl, by decide +kernel, by decide +kernel⟩
theorem ok_nearing_step (T : Txt K mg) (F : Fun K "nearing_step" "nearing_step" s_nearing_step f fd) : FnOk P w K mg base CX0 1 f fd ["tick", "told"] (spStep K cT cD Sm.per1) := by
  refine F.ok sc_nearing_step (fun vs H Q E h => ?_) (fun cdv A outer s H vs Q E hr h => ?_)
  · obtain ⟨tk, to, k, x, rfl, _⟩ := h
    rfl
  · obtain ⟨tk, to, k, x, rfl, ht, hl, hk, hx, q⟩ := h
    refine ⟨_, (pss_one (ps_ret (pe_op op_mul (pe_fldR (pv 0) rfl) (pe_op op_add (pe_op op_add (pe_gint rfl T.i_BILLION) (pe_fldR (pv 1) rfl)) (pe_fldR (pv 1) rfl))))), ?_⟩
    simp only [tSeq, tRet, tNext, tAsg, gName, tIfS, tDrop, tVar, tC, tOp, tUn, rI, rI0, rU, rEq, rNe, tTest, tB, tNot, tOr, tAndV, tFldR, tCons, tNil, tCB, tCall, tIsN, L2.start, List.map_cons, List.map_nil, List.length_cons, List.length_nil, List.append_nil, List.nil_append, List.cons_append, List.replicate_succ, List.replicate_zero, List.replicate, Nat.reduceAdd, Nat.reduceSub, Nat.sub_self, List.getElem?_cons_zero, List.getElem?_cons_succ, List.set_cons_zero, List.set_cons_succ, Option.some.injEq, V.int.injEq, V.bl.injEq, V.ref.injEq, List.cons.injEq, exists_and_left, exists_eq_left', exists_eq_left, exists_eq_right_right, exists_eq, and_true, true_and, exists_const, and_assoc, cx_K, max_is, min_is, t_num ht, l_base hl, l_more hl]
    have h1 := hk.n1
    exact ⟨.inl (by omega), q⟩
abbrev s_later_step : Stmt := top 20
theorem sc_later_step : FnScope ["tick", "told"] ["tick", "told"] (defScope s_later_step) := ⟨rfl, rfl, rfl, by decide +kernel, rfl, by decide +kernel, by decide +kernel⟩
theorem ok_later_step (T : Txt K mg) (F : Fun K "later_step" "later_step" s_later_step f fd) : FnOk P w K mg base CX0 1 f fd ["tick", "told"] (spStep K cT cD Sm.per2) := by
  refine F.ok sc_later_step (fun vs H Q E h => ?_) (fun cdv A outer s H vs Q E hr h => ?_)
  · obtain ⟨tk, to, k, x, rfl, _⟩ := h
    rfl
  · obtain ⟨tk, to, k, x, rfl, ht, hl, hk, hx, q⟩ := h
    refine ⟨_, (pss_one (ps_ret (pe_op op_mul (pe_fldR (pv 0) rfl) (pe_op op_add (pe_gint rfl T.i_BILLION) (pe_fldR (pv 1) rfl))))), ?_⟩
    simp only [tSeq, tRet, tNext, tAsg, gName, tIfS, tDrop, tVar, tC, tOp, tUn, rI, rI0, rU, rEq, rNe, tTest, tB, tNot, tOr, tAndV, tFldR, tCons, tNil, tCB, tCall, tIsN, L2.start, List.map_cons, List.map_nil, List.length_cons, List.length_nil, List.append_nil, List.nil_append, List.cons_append, List.replicate_succ, List.replicate_zero, List.replicate, Nat.reduceAdd, Nat.reduceSub, Nat.sub_self, List.getElem?_cons_zero, List.getElem?_cons_succ, List.set_cons_zero, List.set_cons_succ, Option.some.injEq, V.int.injEq, V.bl.injEq, V.ref.injEq, List.cons.injEq, exists_and_left, exists_eq_left', exists_eq_left, exists_eq_right_right, exists_eq, and_true, true_and, exists_const, and_assoc, cx_K, max_is, min_is, t_num ht, l_base hl]
    have h1 := hk.n1
    exact ⟨.inl (by omega), q⟩
abbrev s_told_value : Stmt := top 21
theorem sc_told_value : FnScope ["tick", "told", "c", "nearing", "behind"] ["tick", "told", "c"] (defScope s_told_value) := ⟨rfl, rfl, rfl, by decide +kernel, rfl, by decide +kernel, by decide +kernel⟩
theorem ok_told_value (T : Txt K mg) (F : Fun K "told_value" "told_value" s_told_value f fd) (f_nearing_step : FnG P w K mg base "nearing_step" 1 ["tick", "told"] (spStep K cT cD Sm.per1)) (f_later_step : FnG P w K mg base "later_step" 1 ["tick", "told"] (spStep K cT cD Sm.per2)) :
    FnOk P w K mg base CX0 2 f fd ["tick", "told", "c"] (spValue K cT cD) := by
  refine F.ok sc_told_value (fun vs H Q E h => ?_) (fun cdv A outer s H vs Q E hr h => ?_)
  · obtain ⟨tk, to, k, x, c, rfl, _⟩ := h
    rfl
  · obtain ⟨tk, to, k, x, c, rfl, ht, hl, hk, hx, hc, q⟩ := h
    have u1 := Sm.per1_lt hk hx; have u2 := Sm.per2_lt hk hx; have u3 := Sm.per1_pos hk hx; have u4 := Sm.per2_pos hk hx
    refine ⟨_, (pss_cons (ps_set (i := 3) sc_told_value.nd rfl (Or.inl rfl) (pe_op op_sub (pe_callB (call_min2 rfl) (by rfl) T.b_min boot_min (pa_cons (pv 2) (pa_cons (pe_fldR (pv 1) rfl) pa_nil))) (pe_fldR (pv 1) rfl)))
      (pss_cons (ps_set (i := 4) sc_told_value.nd rfl (Or.inl rfl) (pe_callB (call_max2 rfl) (by rfl) T.b_max boot_max (pa_cons (pe_op op_sub (pv 2) (pe_fldR (pv 1) rfl)) (pa_cons pe_int pa_nil))))
      (pss_one (ps_ret (pe_op op_add (pe_op op_add (pe_fldR (pv 1) rfl) (pe_op op_mul (pv 3) (pe_fn f_nearing_step (hr.mono (by decide)) rfl (pa_cons (pv 0) (pa_cons (pv 1) pa_nil))))) (pe_op op_mul (pv 4) (pe_fn f_later_step (hr.mono (by decide)) rfl (pa_cons (pv 0) (pa_cons (pv 1) pa_nil))))))))), ?_⟩
    refine ⟨_, rfl, _, rfl, _, (l_till hl _).mpr rfl, _, _, rfl, _, rfl, _, (l_counter hl _).mpr rfl, _, _, rfl, rfl, ?_⟩
    refine ⟨_, rfl, _, rfl, _, (l_till hl _).mpr rfl, _, _, rfl, rfl, _, _, rfl, ?_⟩
    refine ⟨_, rfl, _, (l_value hl _).mpr rfl, _, rfl, _, rfl, _, rfl, tk, to, k, x, rfl, ht, hl, hk, hx, _, _, rfl, rfl, .inr (by omega), _, _, rfl, rfl, ?_⟩
    refine ⟨_, rfl, _, rfl, _, rfl, tk, to, k, x, rfl, ht, hl, hk, hx, _, _, rfl, rfl, .inr (by omega), _, _, rfl, rfl, ?_⟩
    rw [Sm.at_eq2 hx hc] at q
    simp only [max_is, min_is]
    exact q
abbrev s_told_time : Stmt := top 22
theorem sc_told_time : FnScope ["tick", "told", "c"] ["tick", "told", "c"] (defScope s_told_time) := ⟨rfl, rfl, rfl, by decide +kernel, rfl, by decide +kernel, by decide +kernel⟩
theorem ok_told_time (T : Txt K mg) (F : Fun K "told_time" "told_time" s_told_time f fd) (f_told_value : FnG P w K mg base "told_value" 2 ["tick", "told", "c"] (spValue K cT cD)) (f_parts_in_microsecond : FnG P w K mg base "parts_in_microsecond" 1 ["tick"] (spParts K cT)) :
    FnOk P w K mg base CX0 3 f fd ["tick", "told", "c"] (spTime K cT cD) := by
  refine F.ok sc_told_time (fun vs H Q E h => ?_) (fun cdv A outer s H vs Q E hr h => ?_)
  · obtain ⟨tk, to, k, x, c, rfl, _⟩ := h
    rfl
  · obtain ⟨tk, to, k, x, c, rfl, ht, hl, hk, hx, hc, q⟩ := h
    refine ⟨_, (pss_one (ps_ret (pe_op op_fdivL (pe_fn f_told_value (hr.mono (by decide)) rfl (pa_cons (pv 0) (pa_cons (pv 1) (pa_cons (pv 2) pa_nil)))) (pe_fn f_parts_in_microsecond (hr.mono (by decide)) rfl (pa_cons (pv 0) pa_nil))))), ?_⟩
    have h2 := hk.d1; have h3 := hk.d0
    refine ⟨_, rfl, _, rfl, _, rfl, tk, to, k, x, c, rfl, ht, hl, hk, hx, hc, _, rfl, tk, k, rfl, ht, hk, _, _, rfl, rfl, ?_, q⟩
    rw [Sm.unit_eq]
    exact ⟨by omega, by omega⟩
/-- the counter at which t is told, wherever it lies -/
def spFirstC (K : PySem.W.Frag) (cT cD : Addr) : Sp := fun vs H Q _ => ∃ (tk to : Addr) (k : Ra56.Tick) (x : Ra56.Told) (t : Int), vs = [.ref tk, .ref to, .int t] ∧ TickAt K cT H tk k ∧ ToldAt K cD H to x ∧ Sm.TOk k ∧ Sm.LOk x ∧ Q (.int (Sm.first k x t)) H
abbrev s_first_counter_telling : Stmt := top 25
theorem sc_first_counter_telling : FnScope ["tick", "told", "t", "wanted", "at_till"] ["tick", "told", "t"] (defScope s_first_counter_telling) := ⟨rfl, rfl, rfl, by decide +kernel, rfl, by decide +kernel, by decide +kernel⟩
theorem ok_first_counter_telling (T : Txt K mg) (F : Fun K "first_counter_telling" "first_counter_telling" s_first_counter_telling f fd) (f_parts_in_microsecond : FnG P w K mg base "parts_in_microsecond" 1 ["tick"] (spParts K cT)) (f_told_value : FnG P w K mg base "told_value" 2 ["tick", "told", "c"] (spValue K cT cD))
    (f_quotient_up : FnG P w K mg base "quotient_up" 1 ["upper", "lower"] spQup) (f_nearing_step : FnG P w K mg base "nearing_step" 1 ["tick", "told"] (spStep K cT cD Sm.per1)) (f_later_step : FnG P w K mg base "later_step" 1 ["tick", "told"] (spStep K cT cD Sm.per2)) :
    FnOk P w K mg base CX0 3 f fd ["tick", "told", "t"] (spFirstC K cT cD) := by
  refine F.ok sc_first_counter_telling (fun vs H Q E h => ?_) (fun cdv A outer s H vs Q E hr h => ?_)
  · obtain ⟨tk, to, k, x, t, rfl, _⟩ := h
    rfl
  · obtain ⟨tk, to, k, x, t, rfl, ht, hl, hk, hx, q⟩ := h
    have u1 := Sm.per1_lt hk hx; have u2 := Sm.per2_lt hk hx; have u3 := Sm.per1_pos hk hx; have u4 := Sm.per2_pos hk hx
    have h1 := hk.d1
    refine ⟨_, (pss_cons (ps_set (i := 3) sc_first_counter_telling.nd rfl (Or.inl rfl) (pe_op op_mul (pv 2) (pe_fn f_parts_in_microsecond (hr.mono (by decide)) rfl (pa_cons (pv 0) pa_nil))))
      (pss_cons (ps_set (i := 4) sc_first_counter_telling.nd rfl (Or.inl rfl) (pe_fn f_told_value (hr.mono (by decide)) rfl (pa_cons (pv 0) (pa_cons (pv 1) (pa_cons (pe_fldR (pv 1) rfl) pa_nil)))))
      (pss_cons (ps_if (pt_cmpR op_le (pv 3) (pv 4) (nomark _)) (pss_one (ps_ret (pe_op op_add (pe_fldR (pv 1) rfl) (pe_fn f_quotient_up (hr.mono (by decide)) rfl (pa_cons (pe_op op_sub (pv 3) (pe_fldR (pv 1) rfl)) (pa_cons (pe_fn f_nearing_step (hr.mono (by decide)) rfl (pa_cons (pv 0) (pa_cons (pv 1) pa_nil))) pa_nil)))))) pss_nil)
      (pss_one (ps_ret (pe_op op_add (pe_fldR (pv 1) rfl) (pe_fn f_quotient_up (hr.mono (by decide)) rfl (pa_cons (pe_op op_sub (pv 3) (pv 4)) (pa_cons (pe_fn f_later_step (hr.mono (by decide)) rfl (pa_cons (pv 0) (pa_cons (pv 1) pa_nil))) pa_nil))))))))), ?_⟩
    refine ⟨_, rfl, _, rfl, tk, k, rfl, ht, hk, _, _, rfl, rfl, .inr (by rw [Sm.unit_eq]; omega), ?_⟩
    refine ⟨_, rfl, _, rfl, _, rfl, _, (l_till hl _).mpr rfl, tk, to, k, x, x.till, rfl, ht, hl, hk, hx, hx.ft, ?_⟩
    refine ⟨_, rfl, _, rfl, _, _, rfl, rfl, _, rfl, ?_⟩
    unfold Sm.first at q
    by_cases h : t * Ra56.unit k ≤ x.at_ k x.till
    · rw [if_pos h] at q
      rw [decide_eq_true h]
      refine iteT ?_
      exact ⟨_, rfl, _, (l_counter hl _).mpr rfl, _, rfl, _, rfl, _, (l_value hl _).mpr rfl, _, _, rfl, rfl, _, rfl, _, rfl, tk, to, k, x, rfl, ht, hl, hk, hx, _, _, rfl, ⟨by omega, by omega⟩, _, _, rfl, rfl, q⟩
    · rw [if_neg h] at q
      rw [decide_eq_false h]
      refine iteF ?_
      exact ⟨_, rfl, _, (l_till hl _).mpr rfl, _, rfl, _, rfl, _, _, rfl, rfl, _, rfl, _, rfl, tk, to, k, x, rfl, ht, hl, hk, hx, _, _, rfl, ⟨by omega, by omega⟩, _, _, rfl, rfl, q⟩
end
end Sc

end
section
set_option Elab.async false
set_option linter.all false
set_option maxRecDepth 100000
set_option maxHeartbeats 2000000
namespace Sc
open PySem PySem.Spec PyProof.Rows L2
/-! ### heaps -/
theorem Same.fresh {H : Hp} {a : Addr} {o : HO} (h : H a = none) : Same H (upd H a o) := fun b u e => by rw [upd_ne (ne_of_none e h)]; exact e
theorem Same.over {H H' : Hp} {a : Addr} {o : HO} (h : H a = none) (s : Same H H') : Same H (upd H' a o) := fun b u e => by rw [upd_ne (ne_of_none e h)]; exact s b u e
/-- all but the thing at a is as it was -/
def But (a : Addr) (H H' : Hp) : Prop := ∀ b o, H b = some o → b ≠ a → H' b = some o
theorem tYes_go {σ : L2.St} {H : Hp} {A B : Hp → Prop} (h : A H) : tYes σ H (fun b H3 => if b = true then A H3 else B H3) := by
  show (if true = true then A H else B H)
  rw [if_pos rfl]
  exact h
/-! ### new objects -/
def spNew (C : Addr) (fs : List V → List (Str × V)) (n : Nat) : Sp := fun vs H Q _ => ∃ (p dx : Addr) (us : List V), vs = .ref p :: us ∧ us.length = n ∧ H p = some (.ins C dx []) ∧ ∀ H', (∃ dx, H' p = some (.ins C dx (fs us))) → But p H H' → Q .non H'
def tickG : List V → List (Str × V)
  | [a, b, c] => [("num", a), ("den", b), ("ppm", c)]
  | _ => []
def refG : List V → List (Str × V)
  | [a, b, c] => [("counter", a), ("time", b), ("off", c)]
  | _ => []
def toldG : List V → List (Str × V)
  | [a, b, c, d, e] => [("counter", a), ("value", b), ("base", c), ("more", d), ("till", e)]
  | _ => []
section
variable {P : Program} {w : World} {K : PySem.W.Frag} {mg : Str → Option Value} {base : Heap} {f cT cR cD : Addr} {fd : FuncData}
abbrev s_Tick___init__ : Stmt := inClass (top 5) 0
theorem sc_Tick___init__ : FnScope ["self", "num", "den", "ppm"] ["self", "num", "den", "ppm"] (defScope s_Tick___init__) := ⟨rfl, rfl, rfl, by decide +kernel, rfl, by decide +kernel, by decide +kernel⟩
theorem ok_Tick (F : Fun K "__init__" "Tick.__init__" s_Tick___init__ f fd) (cl : Cls K cT) (n1 : NoAttr K cT "num") (n2 : NoAttr K cT "den") (n3 : NoAttr K cT "ppm") : FnOk P w K mg base CX0 1 f fd ["self", "num", "den", "ppm"] (spNew cT tickG 3) := by
  refine F.ok sc_Tick___init__ (fun vs H Q E h => ?_) (fun cdv A outer s H vs Q E hr h => ?_)
  · obtain ⟨p, dx, us, rfl, hl, _⟩ := h
    show us.length + 1 = 4
    omega
  · obtain ⟨p, dx, us, rfl, hl, hp, k⟩ := h
    obtain ⟨a, b, c, rfl⟩ := of_len3 hl
    refine ⟨_, (pss_cons (ps_fld (pv 0) (pv 1) rfl)
      (pss_cons (ps_fld (pv 0) (pv 2) rfl)
      (pss_one (ps_fld (pv 0) (pv 3) rfl)))), ?_⟩
    refine ⟨_, rfl, _, rfl, p, cT, dx, _, rfl, hp, cl, n1, (by show 0 < 1000; decide), ?_⟩
    refine ⟨_, rfl, _, rfl, p, cT, dx, _, rfl, upd_same, cl, n2, (by show 1 < 1000; decide), ?_⟩
    refine ⟨_, rfl, _, rfl, p, cT, dx, _, rfl, upd_same, cl, n3, (by show 2 < 1000; decide), ?_⟩
    exact k _ ⟨dx, upd_same⟩ fun b o e hb => by rw [upd_ne hb, upd_ne hb, upd_ne hb]; exact e
abbrev s_Reference___init__ : Stmt := inClass (top 6) 0
theorem sc_Reference___init__ : FnScope ["self", "counter", "time", "off"] ["self", "counter", "time", "off"] (defScope s_Reference___init__) := ⟨rfl, rfl, rfl, by decide +kernel, rfl, by decide +kernel, by decide +kernel⟩
theorem ok_Reference (F : Fun K "__init__" "Reference.__init__" s_Reference___init__ f fd) (cl : Cls K cR) (n1 : NoAttr K cR "counter") (n2 : NoAttr K cR "time") (n3 : NoAttr K cR "off") : FnOk P w K mg base CX0 1 f fd ["self", "counter", "time", "off"] (spNew cR refG 3) := by
  refine F.ok sc_Reference___init__ (fun vs H Q E h => ?_) (fun cdv A outer s H vs Q E hr h => ?_)
  · obtain ⟨p, dx, us, rfl, hl, _⟩ := h
    show us.length + 1 = 4
    omega
  · obtain ⟨p, dx, us, rfl, hl, hp, k⟩ := h
    obtain ⟨a, b, c, rfl⟩ := of_len3 hl
    refine ⟨_, (pss_cons (ps_fld (pv 0) (pv 1) rfl)
      (pss_cons (ps_fld (pv 0) (pv 2) rfl)
      (pss_one (ps_fld (pv 0) (pv 3) rfl)))), ?_⟩
    refine ⟨_, rfl, _, rfl, p, cR, dx, _, rfl, hp, cl, n1, (by show 0 < 1000; decide), ?_⟩
    refine ⟨_, rfl, _, rfl, p, cR, dx, _, rfl, upd_same, cl, n2, (by show 1 < 1000; decide), ?_⟩
    refine ⟨_, rfl, _, rfl, p, cR, dx, _, rfl, upd_same, cl, n3, (by show 2 < 1000; decide), ?_⟩
    exact k _ ⟨dx, upd_same⟩ fun b o e hb => by rw [upd_ne hb, upd_ne hb, upd_ne hb]; exact e
abbrev s_Told___init__ : Stmt := inClass (top 7) 0
theorem sc_Told___init__ : FnScope ["self", "counter", "value", "base", "more", "till"] ["self", "counter", "value", "base", "more", "till"] (defScope s_Told___init__) := ⟨rfl, rfl, rfl, by decide +kernel, rfl, by decide +kernel, by decide +kernel⟩
theorem ok_Told (F : Fun K "__init__" "Told.__init__" s_Told___init__ f fd) (cl : Cls K cD) (n1 : NoAttr K cD "counter") (n2 : NoAttr K cD "value") (n3 : NoAttr K cD "base") (n4 : NoAttr K cD "more") (n5 : NoAttr K cD "till") : FnOk P w K mg base CX0 1 f fd ["self", "counter", "value", "base", "more", "till"] (spNew cD toldG 5) := by
  refine F.ok sc_Told___init__ (fun vs H Q E h => ?_) (fun cdv A outer s H vs Q E hr h => ?_)
  · obtain ⟨p, dx, us, rfl, hl, _⟩ := h
    show us.length + 1 = 6
    omega
  · obtain ⟨p, dx, us, rfl, hl, hp, k⟩ := h
    obtain ⟨a, b, c, d, e, rfl⟩ := of_len5 hl
    refine ⟨_, (pss_cons (ps_fld (pv 0) (pv 1) rfl)
      (pss_cons (ps_fld (pv 0) (pv 2) rfl)
      (pss_cons (ps_fld (pv 0) (pv 3) rfl)
      (pss_cons (ps_fld (pv 0) (pv 4) rfl)
      (pss_one (ps_fld (pv 0) (pv 5) rfl)))))), ?_⟩
    refine ⟨_, rfl, _, rfl, p, cD, dx, _, rfl, hp, cl, n1, (by show 0 < 1000; decide), ?_⟩
    refine ⟨_, rfl, _, rfl, p, cD, dx, _, rfl, upd_same, cl, n2, (by show 1 < 1000; decide), ?_⟩
    refine ⟨_, rfl, _, rfl, p, cD, dx, _, rfl, upd_same, cl, n3, (by show 2 < 1000; decide), ?_⟩
    refine ⟨_, rfl, _, rfl, p, cD, dx, _, rfl, upd_same, cl, n4, (by show 3 < 1000; decide), ?_⟩
    refine ⟨_, rfl, _, rfl, p, cD, dx, _, rfl, upd_same, cl, n5, (by show 4 < 1000; decide), ?_⟩
    exact k _ ⟨dx, upd_same⟩ fun b o e hb => by rw [upd_ne hb, upd_ne hb, upd_ne hb, upd_ne hb, upd_ne hb]; exact e
/-! ### some references -/
def spLeast (K : PySem.W.Frag) (cT cR : Addr) : Sp := fun vs H Q _ => ∃ (tk l : Addr) (k : Ra56.Tick) (rs : List Ra56.Ref) (c : Nat), vs = [.ref tk, .ref l, .int c] ∧ TickAt K cT H tk k ∧ RefsAt K cR H l rs ∧ Sm.TOk k ∧ rs ≠ [] ∧ rs.length ≤ 100 ∧ (∀ r ∈ rs, r.at_ ≤ c) ∧
  ∀ H', Same H H' → Q (.int (Sm.lowL k rs c)) H'
def spGreatest (K : PySem.W.Frag) (cT cR : Addr) : Sp := fun vs H Q _ => ∃ (tk l : Addr) (k : Ra56.Tick) (rs : List Ra56.Ref) (c : Nat), vs = [.ref tk, .ref l, .int c] ∧ TickAt K cT H tk k ∧ RefsAt K cR H l rs ∧ Sm.TOk k ∧ rs ≠ [] ∧ rs.length ≤ 100 ∧ (∀ r ∈ rs, r.at_ ≤ c) ∧
  ∀ H', Same H H' → Q (.int (Sm.highL k rs c)) H'
theorem take_snoc {α : Type} : ∀ {l : List α} {i : Nat} {x : α}, l[i]? = some x → l.take (i + 1) = l.take i ++ [x]
  | [], i, x, h => by simp at h
  | a :: l, 0, x, h => by
    have e : a = x := Option.some.inj h
    subst e
    rfl
  | a :: l, i + 1, x, h => by
    have ih := take_snoc (l := l) (i := i) (x := x) h
    show a :: l.take (i + 1) = a :: l.take i ++ [x]
    rw [ih]
    rfl
abbrev s_least_time : Stmt := top 13
theorem sc_least_time : FnScope ["tick", "references", "c", "reference"] ["tick", "references", "c"] (defScope s_least_time) := ⟨rfl, rfl, rfl, by decide +kernel, rfl, by decide +kernel, by decide +kernel⟩
theorem ok_least_time (T : Txt K mg) (F : Fun K "least_time" "least_time" s_least_time f fd) (f_earliest_by : FnG P w K mg base "earliest_by" 1 ["tick", "reference", "c"] (spEarliest K cT cR)) : FnOk P w K mg base CX0 2 f fd ["tick", "references", "c"] (spLeast K cT cR) := by
  refine F.ok sc_least_time (fun vs H Q E h => ?_) (fun cdv A outer s H vs Q E hr h => ?_)
  · obtain ⟨tk, l, k, rs, c, rfl, _⟩ := h
    rfl
  · obtain ⟨tk, l, k, rs, c, rfl, ht, ⟨as, hl, hrs⟩, hk, hne, hlen, hc, q⟩ := h
    refine ⟨_, (pss_one (ps_ret (pe_callB (cr_max rfl) (by rfl) T.b_max boot_max (pa_cons (pe_lc rfl sc_least_time.nd (pi_list (pv 1)) (own := [("reference", 3)]) (blkOk_by (N := ["tick", "references", "c", "reference"]) (sc := defScope s_least_time) (by decide +kernel)) (fun _ _ _ _ _ => pg_name (i := 3) sc_least_time.nd rfl (Or.inl rfl)) (fun _ _ _ _ _ => pts_nil) (fun _ _ _ _ _ => (pe_fn f_earliest_by (hr.mono (by decide)) rfl (pa_cons (pv 0) (pa_cons (pv 3) (pa_cons (pv 2) pa_nil)))))) pa_nil)))), ?_⟩
    refine ⟨_, rfl, l, rfl, ⟨_, SqL.of hl⟩, fun D hD => ?_⟩
    have hal := hrs.length
    refine lc_list (K := K) (a := l) (xs := as.map V.ref) (fun i H' => Same H H' ∧ H' D = some (.lst (((rs.take i).map fun r => r.low k c).map V.int))) ⟨Same.fresh hD, upd_same⟩ (fun i H' _ h => SqL.of (h.1 _ _ hl)) (fun i x H' hx h => ?_) (fun H' h => ?_)
    · obtain ⟨sm, hD'⟩ := h
      obtain ⟨a, ha, rfl⟩ : ∃ a, as[i]? = some a ∧ x = V.ref a := by
        rw [List.getElem?_map] at hx
        cases e : as[i]? with
        | none => rw [e] at hx; cases hx
        | some a => rw [e] at hx; exact ⟨a, rfl, (Option.some.inj hx).symm⟩
      obtain ⟨r, hr', hra⟩ := hrs.get ha
      refine ⟨rfl, ?_⟩
      refine tYes_go ?_
      refine ⟨_, rfl, _, rfl, _, rfl, tk, a, k, r, c, rfl, ht.mono sm, hra.mono sm, hk, hc r (List.mem_of_getElem? hr'), _, hD', ?_, Same.over hD sm, ?_⟩
      · rw [List.length_map, List.length_map, List.length_take]
        exact Nat.lt_of_le_of_lt (Nat.min_le_right _ _) (Nat.lt_of_le_of_lt hlen (by decide))
      · rw [upd_same, take_snoc hr', List.map_append, List.map_append]
        rfl
    · obtain ⟨sm, hD'⟩ := h
      rw [List.length_map, hal, List.take_length] at hD'
      refine ⟨D, _, rfl, SqL.of hD', ?_, fun m h1 h2 => ?_⟩
      · rw [List.length_map]
        exact List.length_pos_iff.mpr hne
      · rw [Sm.lowL_is h1 h2]
        exact q H' sm
abbrev s_greatest_time : Stmt := top 14
theorem sc_greatest_time : FnScope ["tick", "references", "c", "reference"] ["tick", "references", "c"] (defScope s_greatest_time) := ⟨rfl, rfl, rfl, by decide +kernel, rfl, by decide +kernel, by decide +kernel⟩
theorem ok_greatest_time (T : Txt K mg) (F : Fun K "greatest_time" "greatest_time" s_greatest_time f fd) (f_latest_by : FnG P w K mg base "latest_by" 2 ["tick", "reference", "c"] (spLatest K cT cR)) : FnOk P w K mg base CX0 3 f fd ["tick", "references", "c"] (spGreatest K cT cR) := by
  refine F.ok sc_greatest_time (fun vs H Q E h => ?_) (fun cdv A outer s H vs Q E hr h => ?_)
  · obtain ⟨tk, l, k, rs, c, rfl, _⟩ := h
    rfl
  · obtain ⟨tk, l, k, rs, c, rfl, ht, ⟨as, hl, hrs⟩, hk, hne, hlen, hc, q⟩ := h
    refine ⟨_, (pss_one (ps_ret (pe_callB (cr_min rfl) (by rfl) T.b_min boot_min (pa_cons (pe_lc rfl sc_greatest_time.nd (pi_list (pv 1)) (own := [("reference", 3)]) (blkOk_by (N := ["tick", "references", "c", "reference"]) (sc := defScope s_greatest_time) (by decide +kernel)) (fun _ _ _ _ _ => pg_name (i := 3) sc_greatest_time.nd rfl (Or.inl rfl)) (fun _ _ _ _ _ => pts_nil) (fun _ _ _ _ _ => (pe_fn f_latest_by (hr.mono (by decide)) rfl (pa_cons (pv 0) (pa_cons (pv 3) (pa_cons (pv 2) pa_nil)))))) pa_nil)))), ?_⟩
    refine ⟨_, rfl, l, rfl, ⟨_, SqL.of hl⟩, fun D hD => ?_⟩
    have hal := hrs.length
    refine lc_list (K := K) (a := l) (xs := as.map V.ref) (fun i H' => Same H H' ∧ H' D = some (.lst (((rs.take i).map fun r => r.high k c).map V.int))) ⟨Same.fresh hD, upd_same⟩ (fun i H' _ h => SqL.of (h.1 _ _ hl)) (fun i x H' hx h => ?_) (fun H' h => ?_)
    · obtain ⟨sm, hD'⟩ := h
      obtain ⟨a, ha, rfl⟩ : ∃ a, as[i]? = some a ∧ x = V.ref a := by
        rw [List.getElem?_map] at hx
        cases e : as[i]? with
        | none => rw [e] at hx; cases hx
        | some a => rw [e] at hx; exact ⟨a, rfl, (Option.some.inj hx).symm⟩
      obtain ⟨r, hr', hra⟩ := hrs.get ha
      refine ⟨rfl, ?_⟩
      refine tYes_go ?_
      refine ⟨_, rfl, _, rfl, _, rfl, tk, a, k, r, c, rfl, ht.mono sm, hra.mono sm, hk, hc r (List.mem_of_getElem? hr'), _, hD', ?_, Same.over hD sm, ?_⟩
      · rw [List.length_map, List.length_map, List.length_take]
        exact Nat.lt_of_le_of_lt (Nat.min_le_right _ _) (Nat.lt_of_le_of_lt hlen (by decide))
      · rw [upd_same, take_snoc hr', List.map_append, List.map_append]
        rfl
    · obtain ⟨sm, hD'⟩ := h
      rw [List.length_map, hal, List.take_length] at hD'
      refine ⟨D, _, rfl, SqL.of hD', ?_, fun m h1 h2 => ?_⟩
      · rw [List.length_map]
        exact List.length_pos_iff.mpr hne
      · rw [Sm.highL_is h1 h2]
        exact q H' sm
def spAgrees (K : PySem.W.Frag) (cT cR : Addr) : Sp := fun vs H Q _ => ∃ (tk rf l : Addr) (k : Ra56.Tick) (r : Ra56.Ref) (rs : List Ra56.Ref), vs = [.ref tk, .ref rf, .ref l] ∧ TickAt K cT H tk k ∧ RefAt K cR H rf r ∧ RefsAt K cR H l rs ∧ Sm.TOk k ∧ rs.length ≤ 100 ∧ (∀ x ∈ rs, x.at_ ≤ r.at_) ∧
  ∀ H', Same H H' → Q (.bl (Ra56.agrees k rs r)) H'
end
end Sc

end
section
set_option Elab.async false
set_option linter.all false
set_option maxRecDepth 100000
set_option maxHeartbeats 2000000
namespace Sc
open PySem PySem.Spec PyProof.Rows L2
section
variable {P : Program} {w : World} {K : PySem.W.Frag} {mg : Str → Option Value} {base : Heap} {f cT cR cD : Addr} {fd : FuncData}
abbrev s_agrees : Stmt := top 15
theorem sc_agrees : FnScope ["tick", "reference", "others", "low", "high"] ["tick", "reference", "others"] (defScope s_agrees) := ⟨rfl, rfl, rfl, by decide +kernel, rfl, by decide +kernel, by decide +kernel⟩
theorem ok_agrees (T : Txt K mg) (F : Fun K "agrees" "agrees" s_agrees f fd) (f_least_time : FnG P w K mg base "least_time" 2 ["tick", "references", "c"] (spLeast K cT cR)) (f_greatest_time : FnG P w K mg base "greatest_time" 3 ["tick", "references", "c"] (spGreatest K cT cR)) :
    FnOk P w K mg base CX0 4 f fd ["tick", "reference", "others"] (spAgrees K cT cR) := by
  refine F.ok sc_agrees (fun vs H Q E h => ?_) (fun cdv A outer s H vs Q E hr h => ?_)
  · obtain ⟨tk, rf, l, k, r, rs, rfl, _⟩ := h
    rfl
  · obtain ⟨tk, rf, l, k, r, rs, rfl, ht, hf, ⟨as, hl, hrs⟩, hk, hlen, hc, q⟩ := h
    have hal := hrs.length
    refine ⟨_, (pss_cons (ps_if (pt_cmpR op_eq (pe_callB call_len_seq (by rfl) T.b_len PySem.boot_len (pa_cons (pv 2) pa_nil)) pe_int (nomark _)) (pss_one (ps_ret pe_bl)) pss_nil)
      (pss_cons (ps_set (i := 3) sc_agrees.nd rfl (Or.inl rfl) (pe_callB (call_max2 rfl) (by rfl) T.b_max boot_max (pa_cons (pe_fn f_least_time (hr.mono (by decide)) rfl (pa_cons (pv 0) (pa_cons (pv 2) (pa_cons (pe_fldR (pv 1) rfl) pa_nil)))) (pa_cons (pe_op op_sub (pe_fldR (pv 1) rfl) (pe_fldR (pv 1) rfl)) pa_nil))))
      (pss_cons (ps_set (i := 4) sc_agrees.nd rfl (Or.inl rfl) (pe_callB (call_min2 rfl) (by rfl) T.b_min boot_min (pa_cons (pe_fn f_greatest_time (hr.mono (by decide)) rfl (pa_cons (pv 0) (pa_cons (pv 2) (pa_cons (pe_fldR (pv 1) rfl) pa_nil)))) (pa_cons (pe_op op_add (pe_fldR (pv 1) rfl) (pe_fldR (pv 1) rfl)) pa_nil))))
      (pss_one (ps_ret (pe_cmpR op_le (pv 3) (pv 4) (nomark _))))))), ?_⟩
    refine ⟨_, rfl, l, _, rfl, .inl (SqL.of hl), rfl, _, rfl, ?_⟩
    by_cases hne : rs = []
    · subst hne
      have ha : as = [] := List.length_eq_zero_iff.mp hal
      subst ha
      exact iteT (q H (Same.refl H))
    · have hz : ¬ V.int (((as.map V.ref).length : Nat) : Int) = V.int 0 := by
        rw [List.length_map, hal]
        intro e
        have e : ((rs.length : Nat) : Int) = 0 := V.int.inj e
        exact hne (List.length_eq_zero_iff.mp (by omega))
      rw [decide_eq_false hz]
      refine iteF ?_
      -- low
      refine ⟨_, rfl, _, rfl, _, rfl, _, (r_counter hf _).mpr rfl, tk, l, k, rs, r.at_, rfl, ht, ⟨as, hl, hrs⟩, hk, hne, hlen, hc, fun H1 s1 => ?_⟩
      have hf1 := hf.mono s1
      refine ⟨_, rfl, _, (r_time hf1 _).mpr rfl, _, rfl, _, (r_off hf1 _).mpr rfl, _, _, rfl, rfl, _, _, rfl, ?_⟩
      -- high
      refine ⟨_, rfl, _, rfl, _, rfl, _, (r_counter hf1 _).mpr rfl, tk, l, k, rs, r.at_, rfl, ht.mono s1, ⟨as, s1 _ _ hl, hrs.mono s1⟩, hk, hne, hlen, hc, fun H2 s2 => ?_⟩
      have hf2 := hf1.mono s2
      refine ⟨_, rfl, _, (r_time hf2 _).mpr rfl, _, rfl, _, (r_off hf2 _).mpr rfl, _, _, rfl, rfl, _, _, rfl, ?_⟩
      refine ⟨_, rfl, _, rfl, _, _, rfl, rfl, ?_⟩
      have e := q H2 (s1.trans s2)
      rw [Sm.agrees_ne hne] at e
      simp only [max_is, min_is]
      exact e
/-! ### rates -/
def spRates (K : PySem.W.Frag) (cT cR : Addr) : Sp := fun vs H Q _ => ∃ (tk l : Addr) (k : Ra56.Tick) (rs : List Ra56.Ref), vs = [.ref tk, .ref l] ∧ TickAt K cT H tk k ∧ RefsAt K cR H l rs ∧ Sm.TOk k ∧ rs ≠ [] ∧ Sm.Srt rs ∧ (∀ r ∈ rs, r.at_ ≤ 2 ^ 62) ∧
  ∀ H' p, Same H H' → H' p = some (.tup [.int (Ra56.rates k rs).1, .int (Ra56.rates k rs).2]) → Q (.ref p) H'
def spRate (K : PySem.W.Frag) (cT cR : Addr) : Sp := fun vs H Q _ => ∃ (tk l : Addr) (k : Ra56.Tick) (rs : List Ra56.Ref), vs = [.ref tk, .ref l] ∧ TickAt K cT H tk k ∧ RefsAt K cR H l rs ∧ Sm.TOk k ∧ rs ≠ [] ∧ Sm.Srt rs ∧ (∀ r ∈ rs, r.at_ ≤ 2 ^ 62) ∧
  ∀ H', Same H H' → Q (.int (Ra56.rate k rs)) H'
abbrev s_least_and_greatest_rate : Stmt := top 16
theorem sc_least_and_greatest_rate : FnScope ["tick", "references", "bound", "first", "last", "d", "shortest", "longest", "low", "high"] ["tick", "references"] (defScope s_least_and_greatest_rate) := ⟨rfl, rfl, rfl, by decide +kernel, rfl, by decide +kernel, by decide +kernel⟩
theorem ok_least_and_greatest_rate (T : Txt K mg) (F : Fun K "least_and_greatest_rate" "least_and_greatest_rate" s_least_and_greatest_rate f fd) (f_quotient_up : FnG P w K mg base "quotient_up" 1 ["upper", "lower"] spQup) (f_cut_to : FnG P w K mg base "cut_to" 1 ["number", "low", "high"] spCut) :
    FnOk P w K mg base CX0 2 f fd ["tick", "references"] (spRates K cT cR) := by
  refine F.ok sc_least_and_greatest_rate (fun vs H Q E h => ?_) (fun cdv A outer s H vs Q E hr h => ?_)
  · obtain ⟨tk, l, k, rs, rfl, _⟩ := h
    rfl
  · obtain ⟨tk, l, k, rs, rfl, ht, ⟨as, hl, hrs⟩, hk, hne, hsrt, hc, q⟩ := h
    have hal := hrs.length
    obtain ⟨a, b, ha, hb, hab, ham, hbm⟩ := hsrt.ends hne
    have hpos : 0 < rs.length := List.length_pos_iff.mpr hne
    obtain ⟨aa, haa⟩ : ∃ x, as[0]? = some x := ⟨_, List.getElem?_eq_getElem (by omega)⟩
    obtain ⟨ba, hba⟩ : ∃ x, as[as.length - 1]? = some x := ⟨_, List.getElem?_eq_getElem (by omega)⟩
    obtain ⟨a', ea, fa⟩ := hrs.get haa
    obtain ⟨b', eb, fb⟩ := hrs.get hba
    have e1 : a' = a := by
      rw [List.head?_eq_getElem?] at ha
      exact Option.some.inj (ea.symm.trans ha)
    have e2 : b' = b := by
      rw [List.getLast?_eq_getElem?] at hb
      rw [hal] at eb
      exact Option.some.inj (eb.symm.trans hb)
    subst e1 e2
    have h1 := hk.n1; have h2 := hk.d1; have h3 := hk.p1; have h4 := hk.n0
    have hbc := hc _ hbm
    have hre := Sm.rates_eq (k := k) ha hb hab
    refine ⟨_, (pss_cons (ps_set (i := 2) sc_least_and_greatest_rate.nd rfl (Or.inl rfl) (pe_op op_mul pe_int (pe_fldR (pv 0) rfl)))
      (pss_cons (ps_set (i := 3) sc_least_and_greatest_rate.nd rfl (Or.inl rfl) (pe_ix ix_list (pv 1) pe_int (fun _ _ => rfl)))
      (pss_cons (ps_set (i := 4) sc_least_and_greatest_rate.nd rfl (Or.inl rfl) (pe_ix ix_list (pv 1) (pe_op op_sub (pe_callB call_len_seq (by rfl) T.b_len PySem.boot_len (pa_cons (pv 1) pa_nil)) pe_int) (fun _ _ => rfl)))
      (pss_cons (ps_if (pt_cmpR op_eq (pe_fldR (pv 3) rfl) (pe_fldR (pv 4) rfl) (nomark _)) (pss_one (ps_ret (pe_tup (pa_cons (pe_un un_neg (pv 2)) (pa_cons (pv 2) pa_nil))))) pss_nil)
      (pss_cons (ps_set (i := 5) sc_least_and_greatest_rate.nd rfl (Or.inl rfl) (pe_op op_mul (pe_op op_sub (pe_fldR (pv 4) rfl) (pe_fldR (pv 3) rfl)) (pe_fldR (pv 0) rfl)))
      (pss_cons (ps_set (i := 6) sc_least_and_greatest_rate.nd rfl (Or.inl rfl) (pe_op op_sub (pe_op op_sub (pe_fldR (pv 4) rfl) (pe_fldR (pv 4) rfl)) (pe_op op_add (pe_fldR (pv 3) rfl) (pe_fldR (pv 3) rfl))))
      (pss_cons (ps_set (i := 7) sc_least_and_greatest_rate.nd rfl (Or.inl rfl) (pe_op op_sub (pe_op op_add (pe_fldR (pv 4) rfl) (pe_fldR (pv 4) rfl)) (pe_op op_sub (pe_fldR (pv 3) rfl) (pe_fldR (pv 3) rfl))))
      (pss_cons (ps_set (i := 8) sc_least_and_greatest_rate.nd rfl (Or.inl rfl) (pe_op op_sub (pe_op op_fdivL (pe_op op_mul (pe_op op_mul (pv 6) (pe_fldR (pv 0) rfl)) (pe_gint rfl T.i_BILLION)) (pv 5)) (pe_gint rfl T.i_BILLION)))
      (pss_cons (ps_set (i := 9) sc_least_and_greatest_rate.nd rfl (Or.inl rfl) (pe_op op_sub (pe_fn f_quotient_up (hr.mono (by decide)) rfl (pa_cons (pe_op op_mul (pe_op op_mul (pv 7) (pe_fldR (pv 0) rfl)) (pe_gint rfl T.i_BILLION)) (pa_cons (pv 5) pa_nil))) (pe_gint rfl T.i_BILLION)))
      (pss_one (ps_ret (pe_tup (pa_cons (pe_fn f_cut_to (hr.mono (by decide)) rfl (pa_cons (pv 8) (pa_cons (pe_un un_neg (pv 2)) (pa_cons (pv 2) pa_nil)))) (pa_cons (pe_fn f_cut_to (hr.mono (by decide)) rfl (pa_cons (pv 9) (pa_cons (pe_un un_neg (pv 2)) (pa_cons (pv 2) pa_nil)))) pa_nil)))))))))))))), ?_⟩
    refine ⟨_, rfl, _, (t_ppm ht _).mpr rfl, _, _, rfl, rfl, .inl (by omega), ?_⟩
    refine ⟨_, rfl, l, _, _, _, rfl, rfl, SqL.of hl, atI_nat (j := 0) (by rw [List.getElem?_map, haa]; rfl), ?_⟩
    refine ⟨_, rfl, _, rfl, l, _, rfl, .inl (SqL.of hl), _, _, rfl, rfl, l, _, _, _, rfl, rfl, SqL.of hl, at_of (j := as.length - 1) (by rw [List.length_map]; omega) (by rw [List.getElem?_map, hba]; rfl), ?_⟩
    refine ⟨_, rfl, _, (r_counter fa _).mpr rfl, _, rfl, _, (r_counter fb _).mpr rfl, rfl, _, rfl, ?_⟩
    by_cases he : (a'.at_ : Int) = b'.at_
    · rw [decide_eq_true (show V.int a'.at_ = V.int b'.at_ by rw [he])]
      refine iteT ?_
      refine ⟨_, rfl, _, rfl, _, rfl, (by show 2 ≤ sizeLine; decide), fun p hp => ?_⟩
      refine q _ p (Same.fresh hp) ?_
      rw [upd_same, hre, if_pos he]
    · rw [decide_eq_false (show ¬ V.int a'.at_ = V.int b'.at_ from fun z => he (V.int.inj z))]
      refine iteF ?_
      have hd0 : 0 < ((b'.at_ : Int) - a'.at_) * k.num := Int.mul_pos (by omega) (by omega)
      have hd1 : ((b'.at_ : Int) - a'.at_) * k.num < 2 ^ 200 := by
        have z1 : ((b'.at_ : Int) - a'.at_) * k.num ≤ 2 ^ 62 * k.num := Int.mul_le_mul_of_nonneg_right (by omega) (by omega)
        omega
      -- d
      refine ⟨_, rfl, _, (r_counter fb _).mpr rfl, _, rfl, _, (r_counter fa _).mpr rfl, _, _, rfl, rfl, _, rfl, _, (t_num ht _).mpr rfl, _, _, rfl, rfl, .inr (by omega), ?_⟩
      -- shortest, longest
      refine ⟨_, rfl, _, (r_time fb _).mpr rfl, _, rfl, _, (r_off fb _).mpr rfl, _, _, rfl, rfl, _, rfl, _, (r_time fa _).mpr rfl, _, rfl, _, (r_off fa _).mpr rfl, _, _, rfl, rfl, _, _, rfl, rfl, ?_⟩
      refine ⟨_, rfl, _, (r_time fb _).mpr rfl, _, rfl, _, (r_off fb _).mpr rfl, _, _, rfl, rfl, _, rfl, _, (r_time fa _).mpr rfl, _, rfl, _, (r_off fa _).mpr rfl, _, _, rfl, rfl, _, _, rfl, rfl, ?_⟩
      -- low, high
      refine ⟨_, rfl, _, rfl, _, (t_den ht _).mpr rfl, _, _, rfl, rfl, .inr (by omega), _, _, rfl, rfl, .inr (by omega), _, rfl, _, _, rfl, rfl, ⟨hd0, hd1⟩, _, _, rfl, rfl, ?_⟩
      refine ⟨_, rfl, _, rfl, _, (t_den ht _).mpr rfl, _, _, rfl, rfl, .inr (by omega), _, _, rfl, rfl, .inr (by omega), _, rfl, _, _, rfl, ⟨hd0, hd1⟩, _, _, rfl, rfl, ?_⟩
      refine ⟨_, rfl, _, rfl, _, rfl, _, rfl, _, _, _, rfl, _, rfl, _, rfl, _, rfl, _, rfl, _, _, _, rfl, (by show 2 ≤ sizeLine; decide), fun p hp => ?_⟩
      refine q _ p (Same.fresh hp) ?_
      rw [upd_same, hre, if_neg he]
abbrev s_rate_by : Stmt := top 17
theorem sc_rate_by : FnScope ["tick", "references", "both"] ["tick", "references"] (defScope s_rate_by) := ⟨rfl, rfl, rfl, by decide +kernel, rfl, by decide +kernel, by decide +kernel⟩
theorem ok_rate_by (T : Txt K mg) (F : Fun K "rate_by" "rate_by" s_rate_by f fd) (f_least_and_greatest_rate : FnG P w K mg base "least_and_greatest_rate" 2 ["tick", "references"] (spRates K cT cR)) : FnOk P w K mg base CX0 3 f fd ["tick", "references"] (spRate K cT cR) := by
  refine F.ok sc_rate_by (fun vs H Q E h => ?_) (fun cdv A outer s H vs Q E hr h => ?_)
  · obtain ⟨tk, l, k, rs, rfl, _⟩ := h
    rfl
  · obtain ⟨tk, l, k, rs, rfl, ht, hl, hk, hne, hsrt, hc, q⟩ := h
    refine ⟨_, (pss_cons (ps_set (i := 2) sc_rate_by.nd rfl (Or.inl rfl) (pe_fn f_least_and_greatest_rate (hr.mono (by decide)) rfl (pa_cons (pv 0) (pa_cons (pv 1) pa_nil))))
      (pss_one (ps_ret (pe_op op_fdivL (pe_op op_add (pe_ix ix_tup (pv 2) pe_int (fun _ _ => rfl)) (pe_ix ix_tup (pv 2) pe_int (fun _ _ => rfl))) pe_int)))), ?_⟩
    refine ⟨_, rfl, _, rfl, tk, l, k, rs, rfl, ht, hl, hk, hne, hsrt, hc, fun H1 p s1 hp => ?_⟩
    refine ⟨_, rfl, p, _, _, _, rfl, rfl, SqT.of hp, atI_nat (j := 0) rfl, _, rfl, p, _, _, _, rfl, rfl, SqT.of hp, atI_nat (j := 1) rfl, _, _, rfl, rfl, _, _, rfl, rfl, ⟨by decide, by decide⟩, ?_⟩
    exact q H1 s1
/-! ### told anew -/
def spFirst (K : PySem.W.Frag) (cT cD : Addr) : Sp := fun vs H Q _ => ∃ (tk : Addr) (k : Ra56.Tick) (c : Nat) (t b : Int), vs = [.ref tk, .int c, .int t, .int b] ∧ TickAt K cT H tk k ∧ Sm.TOk k ∧
  ∀ H' p, Same H H' → ToldAt K cD H' p ⟨c, t * Ra56.unit k, b, 0, c⟩ → Q (.ref p) H'
def spNearer (K : PySem.W.Frag) (cT cD : Addr) : Sp := fun vs H Q _ => ∃ (tk to : Addr) (k : Ra56.Tick) (x : Ra56.Told) (c : Nat) (t b : Int), vs = [.ref tk, .ref to, .int c, .int t, .int b] ∧ TickAt K cT H tk k ∧ ToldAt K cD H to x ∧ Sm.TOk k ∧ Sm.LOk x ∧ x.from_ ≤ c ∧
  ∀ H' p, Same H H' → ToldAt K cD H' p (x.toward k c t b) → Q (.ref p) H'
structure ToldC (K : PySem.W.Frag) (cD : Addr) : Prop where
  cl : Cls K cD
  n1 : NoAttr K cD "counter"
  n2 : NoAttr K cD "value"
  n3 : NoAttr K cD "base"
  n4 : NoAttr K cD "more"
  n5 : NoAttr K cD "till"
theorem ToldC.ins {H : Hp} {p : Addr} {x : Ra56.Told} (c : ToldC K cD) (h : ∃ dx, H p = some (.ins cD dx (toldF x))) : ToldAt K cD H p x := by
  refine ⟨c.cl, h, fun q hq => ?_⟩
  simp only [List.mem_cons, List.not_mem_nil, or_false] at hq
  rcases hq with rfl | rfl | rfl | rfl | rfl
  · exact c.n1
  · exact c.n2
  · exact c.n3
  · exact c.n4
  · exact c.n5
/-- a new object leaves all as it was -/
theorem But.made {H H1 : Hp} {x dx C : Addr} (nx : H x = Option.none) (nd : H dx = Option.none) (k : But x (upd (upd H dx (.own x)) x (.ins C dx [])) H1) : Same H H1 := Same.made nx nd k
abbrev s_told_at_first : Stmt := top 23
theorem sc_told_at_first : FnScope ["tick", "c", "t", "base"] ["tick", "c", "t", "base"] (defScope s_told_at_first) := ⟨rfl, rfl, rfl, by decide +kernel, rfl, by decide +kernel, by decide +kernel⟩
theorem ok_told_at_first (C : ToldC K cD) (F : Fun K "told_at_first" "told_at_first" s_told_at_first f fd) (c_Told : MkG P w K mg base "Told" cD 1 ["self", "counter", "value", "base", "more", "till"] (spNew cD toldG 5)) (f_parts_in_microsecond : FnG P w K mg base "parts_in_microsecond" 1 ["tick"] (spParts K cT)) :
    FnOk P w K mg base CX0 3 f fd ["tick", "c", "t", "base"] (spFirst K cT cD) := by
  refine F.ok sc_told_at_first (fun vs H Q E h => ?_) (fun cdv A outer s H vs Q E hr h => ?_)
  · obtain ⟨tk, k, c, t, b, rfl, _⟩ := h
    rfl
  · obtain ⟨tk, k, c, t, b, rfl, ht, hk, q⟩ := h
    refine ⟨_, (pss_one (ps_ret (pe_mk c_Told (hr.mono (by decide)) rfl (pa_cons (pv 1) (pa_cons (pe_op op_mul (pv 2) (pe_fn f_parts_in_microsecond (hr.mono (by decide)) rfl (pa_cons (pv 0) pa_nil))) (pa_cons (pv 3) (pa_cons pe_int (pa_cons (pv 1) pa_nil)))))))), ?_⟩
    have h1 := hk.d1
    refine ⟨_, rfl, _, rfl, _, rfl, tk, k, rfl, ht, hk, _, _, rfl, rfl, .inr (by rw [Sm.unit_eq]; omega), _, rfl, _, rfl, fun x dx nx nd ne => ?_⟩
    refine ⟨x, dx, _, rfl, rfl, upd_same, fun H1 hx hb => ⟨rfl, ?_⟩⟩
    exact q H1 x (But.made nx nd hb) (C.ins hx)
abbrev s_brought_nearer : Stmt := top 24
theorem sc_brought_nearer : FnScope ["tick", "told", "c", "t", "base", "missing", "more", "till"] ["tick", "told", "c", "t", "base"] (defScope s_brought_nearer) := ⟨rfl, rfl, rfl, by decide +kernel, rfl, by decide +kernel, by decide +kernel⟩
theorem ok_brought_nearer (T : Txt K mg) (C : ToldC K cD) (F : Fun K "brought_nearer" "brought_nearer" s_brought_nearer f fd) (c_Told : MkG P w K mg base "Told" cD 1 ["self", "counter", "value", "base", "more", "till"] (spNew cD toldG 5)) (f_quotient_up : FnG P w K mg base "quotient_up" 1 ["upper", "lower"] spQup) (f_cut_to : FnG P w K mg base "cut_to" 1 ["number", "low", "high"] spCut)
    (f_told_value : FnG P w K mg base "told_value" 2 ["tick", "told", "c"] (spValue K cT cD)) (f_told_time : FnG P w K mg base "told_time" 3 ["tick", "told", "c"] (spTime K cT cD)) : FnOk P w K mg base CX0 4 f fd ["tick", "told", "c", "t", "base"] (spNearer K cT cD) := by
  refine F.ok sc_brought_nearer (fun vs H Q E h => ?_) (fun cdv A outer s H vs Q E hr h => ?_)
  · obtain ⟨tk, to, k, x, c, t, b, rfl, _⟩ := h
    rfl
  · obtain ⟨tk, to, k, x, c, t, b, rfl, ht, hl, hk, hx, hc, q⟩ := h
    have h1 := hk.n0; have h2 := hk.n1
    refine ⟨_, (pss_cons (ps_set (i := 5) sc_brought_nearer.nd rfl (Or.inl rfl) (pe_op op_sub (pv 3) (pe_fn f_told_time (hr.mono (by decide)) rfl (pa_cons (pv 0) (pa_cons (pv 1) (pa_cons (pv 2) pa_nil))))))
      (pss_cons (ps_set (i := 6) sc_brought_nearer.nd rfl (Or.inl rfl) (pe_fn f_cut_to (hr.mono (by decide)) rfl (pa_cons (pe_op op_fdivL (pe_op op_mul (pv 5) pe_int) (pe_gint rfl T.i_NEARING_SECONDS)) (pa_cons (pe_un un_neg (pe_gint rfl T.i_MOST_MORE)) (pa_cons (pe_gint rfl T.i_MOST_MORE) pa_nil)))))
      (pss_cons (ps_set (i := 7) sc_brought_nearer.nd rfl (Or.inl rfl) (pe_op op_add (pv 2) (pe_fn f_quotient_up (hr.mono (by decide)) rfl (pa_cons (pe_op op_mul (pe_op op_mul (pe_gint rfl T.i_NEARING_SECONDS) (pe_gint rfl T.i_MILLION)) (pe_fldR (pv 0) rfl)) (pa_cons (pe_fldR (pv 0) rfl) pa_nil)))))
      (pss_one (ps_ret (pe_mk c_Told (hr.mono (by decide)) rfl (pa_cons (pv 2) (pa_cons (pe_fn f_told_value (hr.mono (by decide)) rfl (pa_cons (pv 0) (pa_cons (pv 1) (pa_cons (pv 2) pa_nil)))) (pa_cons (pv 4) (pa_cons (pv 6) (pa_cons (pv 7) pa_nil))))))))))), ?_⟩
    refine ⟨_, rfl, _, rfl, _, rfl, _, rfl, tk, to, k, x, c, rfl, ht, hl, hk, hx, hc, _, _, rfl, rfl, ?_⟩
    refine ⟨_, rfl, _, _, rfl, rfl, .inr (by decide), _, _, rfl, rfl, ⟨by decide, by decide⟩, _, rfl, _, _, _, rfl, ?_⟩
    refine ⟨_, rfl, _, _, rfl, rfl, .inl (by decide), _, rfl, _, (t_den ht _).mpr rfl, _, _, rfl, rfl, .inl (by decide), _, rfl, _, (t_num ht _).mpr rfl, _, _, rfl, ⟨by omega, by omega⟩, _, _, rfl, rfl, ?_⟩
    refine ⟨_, rfl, _, rfl, _, rfl, _, rfl, tk, to, k, x, c, rfl, ht, hl, hk, hx, hc, _, rfl, _, rfl, _, rfl, fun y dx nx nd ne => ?_⟩
    refine ⟨y, dx, _, rfl, rfl, upd_same, fun H1 hy hb => ⟨rfl, ?_⟩⟩
    refine q H1 y (But.made nx nd hb) (C.ins ?_)
    obtain ⟨dx', e⟩ := hy
    refine ⟨dx', e.trans ?_⟩
    have e1 : (((c + Ra56.ticks k : Nat)) : Int) = c + -(-(64 * 1000000 * (k.den : Int)) / (k.num : Int)) := by
      rw [Int.natCast_add, Sm.ticks_eq hk]
      rfl
    have e2 : ∀ z : Int, max (-500000) (min z 500000) = max (-Ra56.SLEW) (min Ra56.SLEW z) := fun z => by
      have e3 : Ra56.SLEW = 500000 := rfl
      rw [e3]
      omega
    show some (HO.ins cD dx' [("counter", V.int c), ("value", V.int (x.at_ k c)), ("base", V.int b), ("more", V.int (max (-500000) (min ((t - x.time k c) * 1000 / 64) 500000))), ("till", V.int (c + -(-(64 * 1000000 * (k.den : Int)) / (k.num : Int))))]) =
      some (HO.ins cD dx' [("counter", V.int c), ("value", V.int (x.at_ k c)), ("base", V.int b), ("more", V.int (max (-Ra56.SLEW) (min Ra56.SLEW ((t - x.time k c) * 1000 / 64)))), ("till", V.int ((c + Ra56.ticks k : Nat) : Int))])
    rw [e2, ← e1]
end
end Sc

end
section
set_option Elab.async false
set_option linter.all false
set_option maxRecDepth 100000
set_option maxHeartbeats 2000000
namespace Sc
open PySem PySem.Spec PyProof.Rows L2
/-! ### the station -/
abbrev stF (tick seen kept doubted told nt nd nb : V) : List (Str × V) := [("tick", tick), ("seen", seen), ("kept", kept), ("doubted", doubted), ("told", told), ("times_taken", nt), ("times_doubted", nd), ("times_believed", nb)]
/-- the thing at b is no tick, no reference, no told time -/
structure Alien (H : Hp) (b : Addr) : Prop where
  t : ∀ C dx k, H b ≠ some (.ins C dx (tickF k))
  r : ∀ C dx k, H b ≠ some (.ins C dx (refF k))
  l : ∀ C dx k, H b ≠ some (.ins C dx (toldF k))
section
variable {K : PySem.W.Frag} {C cT cR cD cS : Addr} {H H' : Hp} {a b : Addr}
theorem alien_lst {xs : List V} (h : H b = some (.lst xs)) : Alien H b := ⟨fun _ _ _ e => (by rw [h] at e; cases e), fun _ _ _ e => (by rw [h] at e; cases e), fun _ _ _ e => (by rw [h] at e; cases e)⟩
theorem alien_ins {dx : Addr} {v : V} {fs : List (Str × V)} (h : H b = some (.ins C dx (("tick", v) :: fs))) : Alien H b := by
  have n1 : ("tick" : Str) ≠ "num" := by decide
  have n2 : ("tick" : Str) ≠ "counter" := by decide
  refine ⟨fun _ _ _ e => ?_, fun _ _ _ e => ?_, fun _ _ _ e => ?_⟩
  · rw [h] at e
    injection e with e
    injection e with _ _ e
    injection e with e _
    injection e with e _
    exact n1 e
  · rw [h] at e
    injection e with e
    injection e with _ _ e
    injection e with e _
    injection e with e _
    exact n2 e
  · rw [h] at e
    injection e with e
    injection e with _ _ e
    injection e with e _
    injection e with e _
    exact n2 e
theorem Ins.but {fs : List (Str × V)} (h : Ins K C H a fs) (n : a ≠ b) (k : But b H H') : Ins K C H' a fs := ⟨h.cl, let ⟨dx, e⟩ := h.at_; ⟨dx, k _ _ e n⟩, h.no⟩
theorem TickAt.but {k : Ra56.Tick} (h : TickAt K C H a k) (n : Alien H b) (q : But b H H') : TickAt K C H' a k := Ins.but h (fun e => by subst e; obtain ⟨dx, e⟩ := h.at_; exact n.t _ _ _ e) q
theorem RefAt.but {r : Ra56.Ref} (h : RefAt K C H a r) (n : Alien H b) (q : But b H H') : RefAt K C H' a r := Ins.but h (fun e => by subst e; obtain ⟨dx, e⟩ := h.at_; exact n.r _ _ _ e) q
theorem ToldAt.but {x : Ra56.Told} (h : ToldAt K C H a x) (n : Alien H b) (q : But b H H') : ToldAt K C H' a x := Ins.but h (fun e => by subst e; obtain ⟨dx, e⟩ := h.at_; exact n.l _ _ _ e) q
theorem RefsL.but (n : Alien H b) (q : But b H H') : ∀ {as : List Addr} {rs : List Ra56.Ref}, RefsL K C H as rs → RefsL K C H' as rs
  | [], [], _ => trivial
  | _ :: _, _ :: _, h => ⟨RefAt.but h.1 n q, RefsL.but n q h.2⟩
  | [], _ :: _, h => h.elim
  | _ :: _, [], h => h.elim
theorem RefsAt.but {l : Addr} {rs : List Ra56.Ref} (h : RefsAt K C H l rs) (n : Alien H b) (ne : l ≠ b) (q : But b H H') : RefsAt K C H' l rs :=
  let ⟨as, e, r⟩ := h
  ⟨as, q _ _ e ne, RefsL.but n q r⟩
/-- what is told: nothing, or an object -/
def ToldV (K : PySem.W.Frag) (cD : Addr) (H : Hp) (tv : V) : Option Ra56.Told → Prop
  | none => tv = .non
  | some x => ∃ a, tv = .ref a ∧ ToldAt K cD H a x
theorem ToldV.mono {tv : V} {o : Option Ra56.Told} (h : ToldV K cD H tv o) (s : Same H H') : ToldV K cD H' tv o := by
  cases o with
  | none => exact h
  | some x => obtain ⟨a, e, q⟩ := h; exact ⟨a, e, Ins.mono q s⟩
theorem ToldV.but {tv : V} {o : Option Ra56.Told} (h : ToldV K cD H tv o) (n : Alien H b) (q : But b H H') : ToldV K cD H' tv o := by
  cases o with
  | none => exact h
  | some x => obtain ⟨a, e, z⟩ := h; exact ⟨a, e, ToldAt.but z n q⟩
/-- a station that has begun: its clock; its lists stand apart from the one at ans -/
structure StS (K : PySem.W.Frag) (cS cT cR cD : Addr) (ans : Addr) (H : Hp) (st : Addr) (s : Ra56.Clock) : Prop where
  ex : ∃ (tk l m : Addr) (tv : V), Ins K cS H st (stF (.ref tk) (.int s.seen) (.ref l) (.ref m) tv (.int s.taken) (.int s.doubted) (.int s.anew)) ∧ TickAt K cT H tk s.tick ∧ RefsAt K cR H l s.refs ∧ RefsAt K cR H m s.doubts ∧ ToldV K cD H tv s.told ∧ l ≠ ans ∧ m ≠ ans
/-- one that has not -/
def StN (K : PySem.W.Frag) (cS : Addr) (H : Hp) (st : Addr) : Prop := ∃ l m : Addr, Ins K cS H st (stF .non (.int 0) (.ref l) (.ref m) .non (.int 0) (.int 0) (.int 0))
def StO (K : PySem.W.Frag) (cS cT cR cD : Addr) (ans : Addr) (H : Hp) (st : Addr) : Option Ra56.Clock → Prop
  | none => StN K cS H st
  | some s => StS K cS cT cR cD ans H st s
theorem StS.mono {ans st : Addr} {s : Ra56.Clock} (h : StS K cS cT cR cD ans H st s) (q : Same H H') : StS K cS cT cR cD ans H' st s := by
  obtain ⟨tk, l, m, tv, h1, h2, h3, h4, h5, h6, h7⟩ := h.ex
  exact ⟨tk, l, m, tv, h1.mono q, h2.mono q, h3.mono q, h4.mono q, h5.mono q, h6, h7⟩
theorem StO.mono {ans st : Addr} {o : Option Ra56.Clock} (h : StO K cS cT cR cD ans H st o) (q : Same H H') : StO K cS cT cR cD ans H' st o := by
  cases o with
  | none => obtain ⟨l, m, h⟩ := h; exact ⟨l, m, h.mono q⟩
  | some s => exact StS.mono h q
/-- the list at ans is changed -/
theorem StO.ans {ans st : Addr} {o : Option Ra56.Clock} {xs : List V} (h : StO K cS cT cR cD ans H st o) (e : H ans = some (.lst xs)) (q : But ans H H') : StO K cS cT cR cD ans H' st o := by
  have n := alien_lst e
  have off : ∀ {fs : List (Str × V)}, Ins K cS H st fs → st ≠ ans := fun hi z => by
    subst z
    obtain ⟨dx, z⟩ := hi.at_
    rw [e] at z
    cases z
  cases o with
  | none => obtain ⟨l, m, h⟩ := h; exact ⟨l, m, h.but (off h) q⟩
  | some s =>
    obtain ⟨tk, l, m, tv, h1, h2, h3, h4, h5, h6, h7⟩ := h.ex
    exact ⟨tk, l, m, tv, h1.but (off h1) q, h2.but n q, h3.but n h6 q, h4.but n h7 q, h5.but n q, h6, h7⟩
end
/-- the class's facts -/
structure StC (K : PySem.W.Frag) (cS : Addr) : Prop where
  cl : Cls K cS
  n1 : NoAttr K cS "tick"
  n2 : NoAttr K cS "seen"
  n3 : NoAttr K cS "kept"
  n4 : NoAttr K cS "doubted"
  n5 : NoAttr K cS "told"
  n6 : NoAttr K cS "times_taken"
  n7 : NoAttr K cS "times_doubted"
  n8 : NoAttr K cS "times_believed"
section
variable {K : PySem.W.Frag} {cS : Addr} {H : Hp} {st : Addr} {a b c d e f g h v : V}
theorem StC.ins (C : StC K cS) (hI : ∃ dx, H st = some (.ins cS dx (stF a b c d e f g h))) : Ins K cS H st (stF a b c d e f g h) := by
  refine ⟨C.cl, hI, fun q hq => ?_⟩
  simp only [List.mem_cons, List.not_mem_nil, or_false] at hq
  rcases hq with rfl | rfl | rfl | rfl | rfl | rfl | rfl | rfl
  · exact C.n1
  · exact C.n2
  · exact C.n3
  · exact C.n4
  · exact C.n5
  · exact C.n6
  · exact C.n7
  · exact C.n8
theorem s_tick (hI : Ins K cS H st (stF a b c d e f g h)) (v : V) : HasF K H (.ref st) "tick" v ↔ v = a := hI.has rfl v
theorem s_seen (hI : Ins K cS H st (stF a b c d e f g h)) (v : V) : HasF K H (.ref st) "seen" v ↔ v = b := hI.has rfl v
theorem s_kept (hI : Ins K cS H st (stF a b c d e f g h)) (v : V) : HasF K H (.ref st) "kept" v ↔ v = c := hI.has rfl v
theorem s_doubted (hI : Ins K cS H st (stF a b c d e f g h)) (v : V) : HasF K H (.ref st) "doubted" v ↔ v = d := hI.has rfl v
theorem s_told (hI : Ins K cS H st (stF a b c d e f g h)) (v : V) : HasF K H (.ref st) "told" v ↔ v = e := hI.has rfl v
theorem s_times_taken (hI : Ins K cS H st (stF a b c d e f g h)) (v : V) : HasF K H (.ref st) "times_taken" v ↔ v = f := hI.has rfl v
theorem s_times_doubted (hI : Ins K cS H st (stF a b c d e f g h)) (v : V) : HasF K H (.ref st) "times_doubted" v ↔ v = g := hI.has rfl v
theorem s_times_believed (hI : Ins K cS H st (stF a b c d e f g h)) (v : V) : HasF K H (.ref st) "times_believed" v ↔ v = h := hI.has rfl v
end
end Sc

end
section
set_option Elab.async false
set_option linter.all false
set_option maxRecDepth 100000
set_option maxHeartbeats 2000000
namespace Sc
open PySem PySem.Spec PyProof.Rows L2
section
variable {K : PySem.W.Frag} {C cT cR cD cS : Addr} {H H' H'' : Hp} {a b st ans : Addr} {x : V} {f : Str} {v : V}
theorem HasF.iff (h : HasF K H x f v) (v' : V) : HasF K H x f v' ↔ v' = v := by
  obtain ⟨a, C, dx, fs, rfl, e, c, n, l⟩ := h
  constructor
  · rintro ⟨a', C', dx', fs', ea, e', _, _, l'⟩
    cases ea
    rw [e] at e'
    cases e'
    rw [l] at l'
    exact (Option.some.inj l').symm
  · intro q
    subst q
    exact ⟨a, C, dx, fs, rfl, e, c, n, l⟩
theorem But.of (s : Same H H') : But b H H' := fun c o e _ => s c o e
theorem But.trans (h : But b H H') (k : But b H' H'') : But b H H'' := fun c o e n => k c o (h c o e n) n
theorem But.refl : But b H H := fun _ _ e _ => e
theorem StO.ins {o : Option Ra56.Clock} (h : StO K cS cT cR cD ans H st o) : ∃ a b c d e f g h, Ins K cS H st (stF a b c d e f g h) := by
  cases o with
  | none => obtain ⟨l, m, h⟩ := h; exact ⟨_, _, _, _, _, _, _, _, h⟩
  | some s => obtain ⟨tk, l, m, tv, h, _⟩ := h.ex; exact ⟨_, _, _, _, _, _, _, _, h⟩
theorem off_st {H : Hp} {st l : Addr} {fs : List (Str × V)} {xs : List V} (h : Ins K cS H st fs) (e : H l = some (.lst xs)) : l ≠ st := fun z => by
  subst z
  obtain ⟨_, e'⟩ := h.at_
  rw [e] at e'
  cases e'
theorem al_st {H : Hp} {st : Addr} {a b c d e f g h : V} (hI : Ins K cS H st (stF a b c d e f g h)) : Alien H st := let ⟨_, q⟩ := hI.at_; alien_ins q
theorem len_st {a b c d e f g h : V} : (stF a b c d e f g h).length < 1000 := (by decide : (8 : Nat) < 1000)
/-- self.f = y, behind y -/
theorem put_go {fs fs' : List (Str × V)} {f : Str} {v0 y : V} {D : Ends} {σ : L2.St} (hI : Ins K cS H st fs) (hσ : σ[0]? = some (some (.ref st))) (hf : fs.lookup f = some v0) (hl : fs.length < 1000) (hp : putF f y fs = fs') (hk : fs'.map (·.1) = fs.map (·.1))
    (k : ∀ H', Ins K cS H' st fs' → But st H H' → D.nx σ H') :
    tVar 0 σ H fun x H2 => ∃ a C dx fs, x = .ref a ∧ H2 a = some (.ins C dx fs) ∧ Cls K C ∧ NoAttr K C f ∧ fs.length < 1000 ∧ D.nx σ (upd H2 a (.ins C dx (putF f y fs))) := by
  obtain ⟨dx, e⟩ := hI.at_
  refine ⟨_, hσ, st, cS, dx, fs, rfl, e, hI.cl, hI.no _ (lookup_mem hf), hl, ?_⟩
  refine k _ ⟨hI.cl, ⟨dx, by rw [upd_same, hp]⟩, fun q hq => ?_⟩ fun c o e hb => by rw [upd_ne hb]; exact e
  have hm : q.1 ∈ fs.map (·.1) := by rw [← hk]; exact List.mem_map.mpr ⟨q, hq, rfl⟩
  obtain ⟨q', hq', e'⟩ := List.mem_map.mp hm
  rw [← e']
  exact hI.no q' hq'
/-- self.f += 1 -/
theorem aug_go {fs fs' : List (Str × V)} {f : Str} {i : Int} {D : Ends} {σ : L2.St} (hI : Ins K cS H st fs) (hσ : σ[0]? = some (some (.ref st))) (hf : fs.lookup f = some (.int i)) (hl : fs.length < 1000) (hp : putF f (.int (i + 1)) fs = fs') (hk : fs'.map (·.1) = fs.map (·.1))
    (k : ∀ H', Ins K cS H' st fs' → But st H H' → D.nx σ H') : sFldAug K (tVar 0) (tC (.int 1)) rAdd f D σ H := by
  obtain ⟨dx, e⟩ := hI.at_
  refine ⟨_, hσ, st, cS, dx, fs, _, rfl, e, hI.cl, hI.no _ (lookup_mem hf), hf, i, 1, rfl, rfl, dx, fs, e, hl, ?_⟩
  refine k _ ⟨hI.cl, ⟨dx, by rw [upd_same, hp]⟩, fun q hq => ?_⟩ fun c o e hb => by rw [upd_ne hb]; exact e
  have hm : q.1 ∈ fs.map (·.1) := by rw [← hk]; exact List.mem_map.mpr ⟨q, hq, rfl⟩
  obtain ⟨q', hq', e'⟩ := List.mem_map.mp hm
  rw [← e']
  exact hI.no q' hq'
/-- self.f = y, behind y, at any attributes -/
theorem put_st {fs : List (Str × V)} {f : Str} {y : V} {dx : Addr} {D : Ends} {σ : L2.St} (cl : Cls K cS) (n : NoAttr K cS f) (hI : H st = some (.ins cS dx fs)) (hσ : σ[0]? = some (some (.ref st))) (hl : fs.length < 1000)
    (k : ∀ H', H' st = some (.ins cS dx (putF f y fs)) → But st H H' → D.nx σ H') :
    tVar 0 σ H fun x H2 => ∃ a C dx fs, x = .ref a ∧ H2 a = some (.ins C dx fs) ∧ Cls K C ∧ NoAttr K C f ∧ fs.length < 1000 ∧ D.nx σ (upd H2 a (.ins C dx (putF f y fs))) :=
  ⟨_, hσ, st, cS, dx, fs, rfl, hI, cl, n, hl, k _ upd_same fun c o e hb => by rw [upd_ne hb]; exact e⟩
theorem But.none (h : But b H H') (n : a ≠ b) (e : H' a = Option.none) : H a = Option.none := by
  cases z : H a with
  | none => rfl
  | some o =>
    rw [h _ _ z n] at e
    cases e
end
theorem wit_out {A B : Prop} {lo n hi : Int} (h : ¬ (lo ≤ n ∧ n ≤ hi)) (a : A) : if (!(decide (lo ≤ n) && decide (n ≤ hi))) = true then A else B := by
  have e : (!(decide (lo ≤ n) && decide (n ≤ hi))) = true := by
    rw [← Bool.decide_and, decide_eq_false h]
    rfl
  rw [if_pos e]
  exact a
theorem wit_in {A B : Prop} {lo n hi : Int} (h : lo ≤ n ∧ n ≤ hi) (b : B) : if (!(decide (lo ≤ n) && decide (n ≤ hi))) = true then A else B := by
  have e : ¬ (!(decide (lo ≤ n) && decide (n ≤ hi))) = true := by
    rw [← Bool.decide_and, decide_eq_true h]
    simp
  rw [if_neg e]
  exact b
/-- what a call leaves and answers -/
def Post (K : PySem.W.Frag) (cS cT cR cD ans st : Addr) (H : Hp) (Q : VK) (r : Option Ra56.Clock × Ra56.Ans) : Prop :=
  ∀ H' p, StO K cS cT cR cD ans H' st r.1 → But st H H' → p ≠ ans → H' p = some (.lst ((r.2.v :: r.2.l).map V.int)) → Q (.ref p) H'
section
variable {P : Program} {w : World} {K : PySem.W.Frag} {mg : Str → Option Value} {base : Heap} {f cT cR cD cS : Addr} {fd : FuncData}
def spRefusal (K : PySem.W.Frag) : Sp := fun vs H Q _ => ∃ (st : Addr) (c sn : Nat), vs = [.ref st, .int c] ∧ HasF K H (.ref st) "seen" (.int sn) ∧ Q (.int (if 4611686018427387904 < c then -1 else if c < sn then -4 else 0)) H
abbrev s_Station_refusal_of_counter : Stmt := inClass (top 47) 10
theorem sc_Station_refusal_of_counter : FnScope ["self", "c"] ["self", "c"] (defScope s_Station_refusal_of_counter) := ⟨rfl, rfl, rfl, by decide +kernel, rfl, by decide +kernel, by decide +kernel⟩
theorem ok_refusal (T : Txt K mg) (F : Fun K "refusal_of_counter" "Station.refusal_of_counter" s_Station_refusal_of_counter f fd) (f_within : FnG P w K mg base "within" 1 ["number", "low", "high"] spWithin) : FnOk P w K mg base CX0 2 f fd ["self", "c"] (spRefusal K) := by
  refine F.ok sc_Station_refusal_of_counter (fun vs H Q E h => ?_) (fun cdv A outer s H vs Q E hr h => ?_)
  · obtain ⟨st, c, sn, rfl, _⟩ := h
    rfl
  · obtain ⟨st, c, sn, rfl, hs, q⟩ := h
    refine ⟨_, (pss_cons (ps_if (pt_not (pt_val (pe_fn f_within (hr.mono (by decide)) rfl (pa_cons (pv 1) (pa_cons pe_int (pa_cons (pe_gint rfl T.i_MOST_COUNTER) pa_nil)))))) (pss_one (ps_ret (pe_gint rfl T.i_OUT_OF_RANGE))) pss_nil)
      (pss_cons (ps_if (pt_cmpR op_lt (pv 1) (pe_fldR (pv 0) rfl) (nomark _)) (pss_one (ps_ret (pe_gint rfl T.i_OUT_OF_TURN))) pss_nil)
      (pss_one (ps_ret pe_int)))), ?_⟩
    simp only [tSeq, tRet, tNext, tAsg, gName, tIfS, tDrop, tVar, tC, tOp, tUn, rI, rI0, rU, rEq, rNe, tTest, tB, tNot, tOr, tAndV, tFldR, tCons, tNil, tCB, tCall, tIsN, L2.start, List.map_cons, List.map_nil, List.length_cons, List.length_nil, List.append_nil, List.nil_append, List.cons_append, List.replicate_succ, List.replicate_zero, List.replicate, Nat.reduceAdd, Nat.reduceSub, Nat.sub_self, List.getElem?_cons_zero, List.getElem?_cons_succ, List.set_cons_zero, List.set_cons_succ, Option.some.injEq, V.int.injEq, V.bl.injEq, V.ref.injEq, List.cons.injEq, exists_and_left, exists_eq_left', exists_eq_left, exists_eq_right_right, exists_eq, and_true, true_and, exists_const, and_assoc, cx_K, max_is, min_is, spWithin, hs.iff]
    by_cases h1 : 4611686018427387904 < c
    · rw [if_pos h1] at q
      have z : ¬ ((c : Int) ≤ 4611686018427387904) := by omega
      simpa [z] using q
    · rw [if_neg h1] at q
      have z : ((c : Int) ≤ 4611686018427387904) := by omega
      by_cases h2 : c < sn
      · rw [if_pos h2] at q
        simpa [z, h2] using q
      · rw [if_neg h2] at q
        simpa [z, h2] using q
def spNow (K : PySem.W.Frag) (cS cT cR cD : Addr) : Sp := fun vs H Q _ => ∃ (ans st : Addr) (s : Ra56.Clock) (c : Nat), vs = [.ref st, .int c] ∧ StS K cS cT cR cD ans H st s ∧ Sm.COk s ∧ (∃ xs, H ans = some (.lst xs)) ∧ Post K cS cT cR cD ans st H Q (Ra56.step (some s) (.now c))
abbrev s_Station_now : Stmt := inClass (top 47) 4
theorem sc_Station_now : FnScope ["self", "c", "refusal"] ["self", "c"] (defScope s_Station_now) := ⟨rfl, rfl, rfl, by decide +kernel, rfl, by decide +kernel, by decide +kernel⟩
theorem ok_now (T : Txt K mg) (C : StC K cS) (F : Fun K "now" "Station.now" s_Station_now f fd) (m_refusal_of_counter : MtG P w K mg base cS "refusal_of_counter" 2 ["self", "c"] (spRefusal K))
    (f_told_time : FnG P w K mg base "told_time" 3 ["tick", "told", "c"] (spTime K cT cD)) : FnOk P w K mg base CX0 4 f fd ["self", "c"] (spNow K cS cT cR cD) := by
  refine F.ok sc_Station_now (fun vs H Q E h => ?_) (fun cdv A outer s0 H vs Q E hr h => ?_)
  · obtain ⟨ans, st, s, c, rfl, _⟩ := h
    rfl
  · obtain ⟨ans, st, s, c, rfl, hst, hok, ⟨xs, hans⟩, q⟩ := h
    obtain ⟨tk, l, m, tv, h1, h2, h3, h4, h5, h6, h7⟩ := hst.ex
    obtain ⟨dx, hx⟩ := h1.at_
    rw [Sm.step_now] at q
    refine ⟨_, (pss_cons (ps_set (i := 2) sc_Station_now.nd rfl (Or.inl rfl) (pe_mt m_refusal_of_counter C.cl (pv 0) (hr.mono (by decide)) (pa_cons (pv 1) pa_nil)))
      (pss_cons (ps_if (pt_cmpR op_ne (pv 2) pe_int (nomark _)) (pss_one (ps_ret (pe_lst (pa_cons (pv 2) pa_nil)))) pss_nil)
      (pss_cons (ps_if (pt_cmp (pc_isN (pe_fldR (pv 0) rfl))) (pss_one (ps_ret (pe_lst (pa_cons (pe_gint rfl T.i_NOTHING_THERE) pa_nil)))) pss_nil)
      (pss_cons (ps_fld (pv 0) (pv 1) rfl)
      (pss_one (ps_ret (pe_lst (pa_cons pe_int (pa_cons (pe_fn f_told_time (hr.mono (by decide)) rfl (pa_cons (pe_fldR (pv 0) rfl) (pa_cons (pe_fldR (pv 0) rfl) (pa_cons (pv 1) pa_nil)))) pa_nil))))))))), ?_⟩
    refine ⟨_, rfl, st, dx, _, rfl, hx, rfl, _, rfl, st, c, s.seen, rfl, (s_seen h1 _).mpr rfl, ?_⟩
    refine ⟨_, rfl, rfl, _, rfl, ?_⟩
    by_cases g1 : 4611686018427387904 < c
    · rw [if_pos g1] at q
      simp only [if_pos g1]
      refine iteT ?_
      refine ⟨_, rfl, (by decide), fun p hp => ?_⟩
      exact q _ p (hst.mono (Same.fresh hp)) (But.of (Same.fresh hp)) (ne_of_none hans hp).symm upd_same
    · rw [if_neg g1] at q
      simp only [if_neg g1]
      by_cases g2 : c < s.seen
      · rw [if_pos g2] at q
        simp only [if_pos g2]
        refine iteT ?_
        refine ⟨_, rfl, (by decide), fun p hp => ?_⟩
        exact q _ p (hst.mono (Same.fresh hp)) (But.of (Same.fresh hp)) (ne_of_none hans hp).symm upd_same
      · rw [if_neg g2] at q
        simp only [if_neg g2]
        refine iteF ?_
        refine ⟨_, rfl, _, (s_told h1 _).mpr rfl, _, rfl, ?_⟩
        have ht := h5
        cases e : s.told with
        | none =>
          rw [e] at ht q
          have ht : tv = .non := ht
          subst ht
          refine iteT ?_
          refine ⟨(by decide), fun p hp => ?_⟩
          exact q _ p (hst.mono (Same.fresh hp)) (But.of (Same.fresh hp)) (ne_of_none hans hp).symm upd_same
        | some x =>
          rw [e] at ht q
          obtain ⟨a, rfl, ha⟩ := ht
          refine iteF ?_
          obtain ⟨lk, lf⟩ := hok.tl x e
          refine ⟨_, rfl, put_go h1 rfl rfl len_st rfl rfl fun H1 (i1 : Ins K cS H1 st (stF (.ref tk) (.int c) (.ref l) (.ref m) (.ref a) (.int s.taken) (.int s.doubted) (.int s.anew))) b1 => ?_⟩
          have al : Alien H st := alien_ins hx
          refine ⟨_, rfl, _, (s_tick i1 _).mpr rfl, _, rfl, _, (s_told i1 _).mpr rfl, _, rfl, tk, a, s.tick, x, c, rfl, h2.but al b1, ha.but al b1, hok.tk, lk, by omega, (by show 2 ≤ sizeLine; decide), fun p hp => ?_⟩
          have s2 := Same.fresh (o := .lst [.int 0, .int (x.time s.tick c)]) hp
          have nl : ∀ l' rs, RefsAt K cR H l' rs → l' ≠ st := fun l' rs ⟨as, e1, _⟩ z => by rw [z, hx] at e1; cases e1
          refine q _ p ⟨tk, l, m, .ref a, i1.mono s2, (h2.but al b1).mono s2, (h3.but al (nl _ _ h3) b1).mono s2, (h4.but al (nl _ _ h4) b1).mono s2, ?_, h6, h7⟩ (b1.trans (But.of s2)) (ne_of_none (b1 _ _ hans (off_st h1 hans)) hp).symm upd_same
          exact ⟨a, rfl, (ha.but al b1).mono s2⟩
def spLook (K : PySem.W.Frag) (cS cT cR cD : Addr) : Sp := fun vs H Q _ => ∃ (ans st : Addr) (s : Ra56.Clock) (c : Nat), vs = [.ref st, .int c] ∧ StS K cS cT cR cD ans H st s ∧ Sm.COk s ∧ (∃ xs, H ans = some (.lst xs)) ∧ Post K cS cT cR cD ans st H Q (Ra56.step (some s) (.look c))
abbrev s_Station_look : Stmt := inClass (top 47) 5
theorem sc_Station_look : FnScope ["self", "c", "refusal", "least", "greatest"] ["self", "c"] (defScope s_Station_look) := ⟨rfl, rfl, rfl, by decide +kernel, rfl, by decide +kernel, by decide +kernel⟩
theorem ok_look (T : Txt K mg) (C : StC K cS) (F : Fun K "look" "Station.look" s_Station_look f fd) (m_refusal_of_counter : MtG P w K mg base cS "refusal_of_counter" 2 ["self", "c"] (spRefusal K))
    (f_told_time : FnG P w K mg base "told_time" 3 ["tick", "told", "c"] (spTime K cT cD)) (f_least_time : FnG P w K mg base "least_time" 2 ["tick", "references", "c"] (spLeast K cT cR)) (f_greatest_time : FnG P w K mg base "greatest_time" 3 ["tick", "references", "c"] (spGreatest K cT cR)) :
    FnOk P w K mg base CX0 4 f fd ["self", "c"] (spLook K cS cT cR cD) := by
  refine F.ok sc_Station_look (fun vs H Q E h => ?_) (fun cdv A outer s0 H vs Q E hr h => ?_)
  · obtain ⟨ans, st, s, c, rfl, _⟩ := h
    rfl
  · obtain ⟨ans, st, s, c, rfl, hst, hok, ⟨xs, hans⟩, q⟩ := h
    obtain ⟨tk, l, m, tv, h1, h2, h3, h4, h5, h6, h7⟩ := hst.ex
    obtain ⟨dx, hx⟩ := h1.at_
    rw [Sm.step_look s hok] at q
    refine ⟨_, (pss_cons (ps_set (i := 2) sc_Station_look.nd rfl (Or.inl rfl) (pe_mt m_refusal_of_counter C.cl (pv 0) (hr.mono (by decide)) (pa_cons (pv 1) pa_nil)))
      (pss_cons (ps_if (pt_cmpR op_ne (pv 2) pe_int (nomark _)) (pss_one (ps_ret (pe_lst (pa_cons (pv 2) pa_nil)))) pss_nil)
      (pss_cons (ps_if (pt_cmpR op_eq (pe_callB call_len_seq (by rfl) T.b_len PySem.boot_len (pa_cons (pe_fldR (pv 0) rfl) pa_nil)) pe_int (nomark _)) (pss_one (ps_ret (pe_lst (pa_cons (pe_gint rfl T.i_NOTHING_THERE) pa_nil)))) pss_nil)
      (pss_cons (ps_set (i := 3) sc_Station_look.nd rfl (Or.inl rfl) (pe_fn f_least_time (hr.mono (by decide)) rfl (pa_cons (pe_fldR (pv 0) rfl) (pa_cons (pe_fldR (pv 0) rfl) (pa_cons (pv 1) pa_nil)))))
      (pss_cons (ps_set (i := 4) sc_Station_look.nd rfl (Or.inl rfl) (pe_fn f_greatest_time (hr.mono (by decide)) rfl (pa_cons (pe_fldR (pv 0) rfl) (pa_cons (pe_fldR (pv 0) rfl) (pa_cons (pv 1) pa_nil)))))
      (pss_one (ps_ret (pe_lst (pa_cons pe_int (pa_cons (pv 3) (pa_cons (pv 4) (pa_cons (pe_fn f_told_time (hr.mono (by decide)) rfl (pa_cons (pe_fldR (pv 0) rfl) (pa_cons (pe_fldR (pv 0) rfl) (pa_cons (pv 1) pa_nil)))) pa_nil)))))))))))), ?_⟩
    refine ⟨_, rfl, st, dx, _, rfl, hx, rfl, _, rfl, st, c, s.seen, rfl, (s_seen h1 _).mpr rfl, ?_⟩
    refine ⟨_, rfl, rfl, _, rfl, ?_⟩
    by_cases g1 : 4611686018427387904 < c
    · rw [if_pos g1] at q
      simp only [if_pos g1]
      refine iteT ?_
      refine ⟨_, rfl, (by decide), fun p hp => ?_⟩
      exact q _ p (hst.mono (Same.fresh hp)) (But.of (Same.fresh hp)) (ne_of_none hans hp).symm upd_same
    · rw [if_neg g1] at q
      simp only [if_neg g1]
      by_cases g2 : c < s.seen
      · rw [if_pos g2] at q
        simp only [if_pos g2]
        refine iteT ?_
        refine ⟨_, rfl, (by decide), fun p hp => ?_⟩
        exact q _ p (hst.mono (Same.fresh hp)) (But.of (Same.fresh hp)) (ne_of_none hans hp).symm upd_same
      · rw [if_neg g2] at q
        simp only [if_neg g2]
        refine iteF ?_
        obtain ⟨as, hl, hrs⟩ := h3
        have hal := hrs.length
        refine ⟨_, rfl, _, (s_kept h1 _).mpr rfl, l, _, rfl, .inl (SqL.of hl), rfl, _, rfl, ?_⟩
        by_cases hne : s.refs = []
        · rw [if_pos hne] at q
          have ha : as = [] := List.length_eq_zero_iff.mp (by rw [hal, hne]; rfl)
          subst ha
          refine iteT ?_
          refine ⟨(by decide), fun p hp => ?_⟩
          exact q _ p (hst.mono (Same.fresh hp)) (But.of (Same.fresh hp)) (ne_of_none hans hp).symm upd_same
        · rw [if_neg hne] at q
          have hz : ¬ V.int (((as.map V.ref).length : Nat) : Int) = V.int 0 := by
            rw [List.length_map, hal]
            intro e
            have e : ((s.refs.length : Nat) : Int) = 0 := V.int.inj e
            exact hne (List.length_eq_zero_iff.mp (by omega))
          rw [decide_eq_false hz]
          refine iteF ?_
          obtain ⟨x, e⟩ := hok.te hne
          rw [e] at h5 q
          obtain ⟨a, rfl, ha⟩ := h5
          obtain ⟨lk, lf⟩ := hok.tl x e
          have hc : ∀ r ∈ s.refs, r.at_ ≤ c := fun r hr => Nat.le_trans (hok.ra r hr) (by omega)
          have hlen : s.refs.length ≤ 100 := Nat.le_trans hok.rl (by decide)
          refine ⟨_, rfl, _, (s_tick h1 _).mpr rfl, _, rfl, _, (s_kept h1 _).mpr rfl, _, rfl, tk, l, s.tick, s.refs, c, rfl, h2, ⟨as, hl, hrs⟩, hok.tk, hne, hlen, hc, fun H1 s1 => ?_⟩
          have i1 := h1.mono s1
          refine ⟨_, rfl, _, (s_tick i1 _).mpr rfl, _, rfl, _, (s_kept i1 _).mpr rfl, _, rfl, tk, l, s.tick, s.refs, c, rfl, h2.mono s1, ⟨as, s1 _ _ hl, hrs.mono s1⟩, hok.tk, hne, hlen, hc, fun H2 s2 => ?_⟩
          have i2 := i1.mono s2
          refine ⟨_, rfl, _, rfl, _, rfl, _, (s_tick i2 _).mpr rfl, _, rfl, _, (s_told i2 _).mpr rfl, _, rfl, tk, a, s.tick, x, c, rfl, (h2.mono s1).mono s2, (ha.mono s1).mono s2, hok.tk, lk, by omega, (by show 4 ≤ sizeLine; decide), fun p hp => ?_⟩
          have s3 := (s1.trans s2).trans (Same.fresh (o := .lst [.int 0, .int (Sm.lowL s.tick s.refs c), .int (Sm.highL s.tick s.refs c), .int (x.time s.tick c)]) hp)
          exact q _ p (hst.mono s3) (But.of s3) (ne_of_none ((s1.trans s2) _ _ hans) hp).symm upd_same
def spBegin (K : PySem.W.Frag) (cS cT cR cD : Addr) : Sp := fun vs H Q _ => ∃ (ans st : Addr) (o : Option Ra56.Clock) (n d p : Nat), vs = [.ref st, .int n, .int d, .int p] ∧ StO K cS cT cR cD ans H st o ∧ (∃ xs, H ans = some (.lst xs)) ∧ Post K cS cT cR cD ans st H Q (Ra56.step o (.begin_ n d p))
structure TickC (K : PySem.W.Frag) (cT : Addr) : Prop where
  cl : Cls K cT
  n1 : NoAttr K cT "num"
  n2 : NoAttr K cT "den"
  n3 : NoAttr K cT "ppm"
theorem TickC.ins {H : Hp} {p : Addr} {x : Ra56.Tick} (c : TickC K cT) (h : ∃ dx, H p = some (.ins cT dx (tickF x))) : TickAt K cT H p x := by
  refine ⟨c.cl, h, fun q hq => ?_⟩
  simp only [List.mem_cons, List.not_mem_nil, or_false] at hq
  rcases hq with rfl | rfl | rfl
  · exact c.n1
  · exact c.n2
  · exact c.n3
/-- start_with: all attributes are put, in their order -/
def spStart (cS : Addr) : Sp := fun vs H Q _ => ∃ (st : Addr) (tv : V) (dx : Addr) (fs : List (Str × V)), vs = [.ref st, tv] ∧ H st = some (.ins cS dx fs) ∧ fs.length < 900 ∧
  (∀ l m : Addr, putF "times_believed" (.int 0) (putF "times_doubted" (.int 0) (putF "times_taken" (.int 0) (putF "told" .non (putF "doubted" (.ref m) (putF "kept" (.ref l) (putF "seen" (.int 0) (putF "tick" tv fs))))))) = stF tv (.int 0) (.ref l) (.ref m) .non (.int 0) (.int 0) (.int 0)) ∧
  ∀ (H' : Hp) (l m : Addr), (∃ dx, H' st = some (.ins cS dx (stF tv (.int 0) (.ref l) (.ref m) .non (.int 0) (.int 0) (.int 0)))) → H' l = some (.lst []) → H' m = some (.lst []) → H l = none → H m = none → But st H H' → Q .non H'
abbrev s_Station_start_with : Stmt := inClass (top 47) 1
theorem sc_Station_start_with : FnScope ["self", "tick"] ["self", "tick"] (defScope s_Station_start_with) := ⟨rfl, rfl, rfl, by decide +kernel, rfl, by decide +kernel, by decide +kernel⟩
theorem ok_start_with (C : StC K cS) (F : Fun K "start_with" "Station.start_with" s_Station_start_with f fd) : FnOk P w K mg base CX0 1 f fd ["self", "tick"] (spStart cS) := by
  refine F.ok sc_Station_start_with (fun vs H Q E h => ?_) (fun cdv A outer s0 H vs Q E hr h => ?_)
  · obtain ⟨st, tv, dx, fs, rfl, _⟩ := h
    rfl
  · obtain ⟨st, tv, dx, fs, rfl, hx, hlen, hput, q⟩ := h
    refine ⟨_, (pss_cons (ps_fld (pv 0) (pv 1) rfl)
      (pss_cons (ps_fld (pv 0) pe_int rfl)
      (pss_cons (ps_fld (pv 0) (pe_lst pa_nil) rfl)
      (pss_cons (ps_fld (pv 0) (pe_lst pa_nil) rfl)
      (pss_cons (ps_fld (pv 0) pe_non rfl)
      (pss_cons (ps_fld (pv 0) pe_int rfl)
      (pss_cons (ps_fld (pv 0) pe_int rfl)
      (pss_one (ps_fld (pv 0) pe_int rfl))))))))), ?_⟩
    have L : ∀ (f : Str) (v : V) (fs : List (Str × V)) (n : Nat), fs.length < n → (putF f v fs).length < n + 1 := fun f v fs n h => Nat.lt_of_le_of_lt (length_putF f v fs) (by omega)
    have n1 := L "tick" tv fs _ hlen
    refine ⟨_, rfl, put_st C.cl C.n1 hx rfl (by omega) fun H1 e1 b1 => ?_⟩
    have n2 := L "seen" (.int 0) _ _ n1
    refine put_st C.cl C.n2 e1 rfl (by omega) fun H2 e2 b2 => ?_
    -- self.kept = []
    refine ⟨Nat.zero_le _, fun l hl => ?_⟩
    have s3 := Same.fresh (o := .lst []) hl
    have l3 : upd H2 l (.lst []) l = some (.lst []) := upd_same
    have lst : l ≠ st := (ne_of_none e2 hl).symm
    generalize upd H2 l (.lst []) = H3 at s3 l3 ⊢
    have n3 := L "kept" (.ref l) _ _ n2
    refine put_st C.cl C.n3 (s3 _ _ e2) rfl (by omega) fun H4 e4 b4 => ?_
    have l4 := b4 _ _ l3 lst
    -- self.doubted = []
    refine ⟨Nat.zero_le _, fun m hm => ?_⟩
    have s5 := Same.fresh (o := .lst []) hm
    have m5 : upd H4 m (.lst []) m = some (.lst []) := upd_same
    have mst : m ≠ st := (ne_of_none e4 hm).symm
    generalize upd H4 m (.lst []) = H5 at s5 m5 ⊢
    have n4 := L "doubted" (.ref m) _ _ n3
    refine put_st C.cl C.n4 (s5 _ _ e4) rfl (by omega) fun H6 e6 b6 => ?_
    have l6 := b6 _ _ (s5 _ _ l4) lst
    have m6 := b6 _ _ m5 mst
    have n5 := L "told" .non _ _ n4
    refine put_st C.cl C.n5 e6 rfl (by omega) fun H7 e7 b7 => ?_
    have n6 := L "times_taken" (.int 0) _ _ n5
    refine put_st C.cl C.n6 e7 rfl (by omega) fun H8 e8 b8 => ?_
    have n7 := L "times_doubted" (.int 0) _ _ n6
    refine put_st C.cl C.n7 e8 rfl (by omega) fun H9 e9 b9 => ?_
    refine put_st C.cl C.n8 e9 rfl (by omega) fun Ha ea ba => ?_
    have B2 : But st H H2 := b1.trans b2
    have B4 : But st H H4 := (B2.trans (But.of s3)).trans b4
    have Ba : But st H6 Ha := ((b7.trans b8).trans b9).trans ba
    rw [hput] at ea
    exact q Ha l m ⟨dx, ea⟩ (Ba _ _ l6 lst) (Ba _ _ m6 mst) (B2.none lst hl) (B4.none mst hm) ((B4.trans (But.of s5)).trans (b6.trans Ba))
abbrev s_Station_begin : Stmt := inClass (top 47) 2
theorem sc_Station_begin : FnScope ["self", "num", "den", "ppm"] ["self", "num", "den", "ppm"] (defScope s_Station_begin) := ⟨rfl, rfl, rfl, by decide +kernel, rfl, by decide +kernel, by decide +kernel⟩
theorem ok_begin (T : Txt K mg) (C : StC K cS) (CT : TickC K cT) (F : Fun K "begin" "Station.begin" s_Station_begin f fd) (f_within : FnG P w K mg base "within" 1 ["number", "low", "high"] spWithin) (c_Tick : MkG P w K mg base "Tick" cT 1 ["self", "num", "den", "ppm"] (spNew cT tickG 3))
    (m_start_with : MtG P w K mg base cS "start_with" 1 ["self", "tick"] (spStart cS)) : FnOk P w K mg base CX0 3 f fd ["self", "num", "den", "ppm"] (spBegin K cS cT cR cD) := by
  refine F.ok sc_Station_begin (fun vs H Q E h => ?_) (fun cdv A outer s0 H vs Q E hr h => ?_)
  · obtain ⟨ans, st, o, n, d, p, rfl, _⟩ := h
    rfl
  · obtain ⟨ans, st, o, n, d, p, rfl, hst, ⟨xs, hans⟩, q⟩ := h
    obtain ⟨v1, v2, v3, v4, v5, v6, v7, v8, h1⟩ := hst.ins
    rw [Sm.step_begin] at q
    refine ⟨_, (pss_cons (ps_if (PW.pt (pw_or (pt_not (pt_val (pe_fn f_within (hr.mono (by decide)) rfl (pa_cons (pv 1) (pa_cons pe_int (pa_cons (pe_gint rfl T.i_BILLION) pa_nil)))))) (pw_or (pt_not (pt_val (pe_fn f_within (hr.mono (by decide)) rfl (pa_cons (pv 2) (pa_cons pe_int (pa_cons (pe_gint rfl T.i_BILLION) pa_nil)))))) (pw_or1 (pt_not (pt_val (pe_fn f_within (hr.mono (by decide)) rfl (pa_cons (pv 3) (pa_cons pe_int (pa_cons (pe_gint rfl T.i_MOST_PPM) pa_nil)))))))))) (pss_one (ps_ret (pe_lst (pa_cons (pe_gint rfl T.i_OUT_OF_RANGE) pa_nil)))) pss_nil)
      (pss_cons (ps_expr (pe_mt m_start_with C.cl (pv 0) (hr.mono (by decide)) (pa_cons (pe_mk c_Tick (hr.mono (by decide)) rfl (pa_cons (pv 1) (pa_cons (pv 2) (pa_cons (pv 3) pa_nil)))) pa_nil)))
      (pss_one (ps_ret (pe_lst (pa_cons pe_int pa_nil)))))), ?_⟩
    refine ⟨_, rfl, n, 1, 1000000000, rfl, _, rfl, ?_⟩
    by_cases hbad : n = 0 ∨ 1000000000 < n ∨ d = 0 ∨ 1000000000 < d ∨ 10000 < p
    · rw [if_pos hbad] at q
      have fin : ∀ pp, H pp = none → Q (.ref pp) (upd H pp (.lst [.int (-1)])) := fun pp hp => q _ pp (hst.mono (Same.fresh hp)) (But.of (Same.fresh hp)) (ne_of_none hans hp).symm upd_same
      by_cases g1 : (1 : Int) ≤ n ∧ (n : Int) ≤ 1000000000
      · refine wit_in g1 ?_
        refine ⟨_, rfl, d, 1, 1000000000, rfl, _, rfl, ?_⟩
        by_cases g2 : (1 : Int) ≤ d ∧ (d : Int) ≤ 1000000000
        · refine wit_in g2 ?_
          refine ⟨_, rfl, p, 0, 10000, rfl, _, rfl, ?_⟩
          refine (wit_out (show ¬ ((0 : Int) ≤ p ∧ (p : Int) ≤ 10000) by omega) ?_)
          exact ⟨(by show 1 ≤ sizeLine; decide), fin⟩
        · refine wit_out g2 ?_
          refine iteT ?_
          exact ⟨(by show 1 ≤ sizeLine; decide), fin⟩
      · refine wit_out g1 ?_
        refine iteT ?_
        exact ⟨(by show 1 ≤ sizeLine; decide), fin⟩
    · rw [if_neg hbad] at q
      refine wit_in (show (1 : Int) ≤ n ∧ (n : Int) ≤ 1000000000 by omega) ?_
      refine ⟨_, rfl, d, 1, 1000000000, rfl, _, rfl, ?_⟩
      refine wit_in (show (1 : Int) ≤ d ∧ (d : Int) ≤ 1000000000 by omega) ?_
      refine ⟨_, rfl, p, 0, 10000, rfl, _, rfl, ?_⟩
      refine wit_in (show (0 : Int) ≤ p ∧ (p : Int) ≤ 10000 by omega) ?_
      -- self.start_with(Tick(num, den, ppm))
      obtain ⟨dx1, hx1⟩ := h1.at_
      refine ⟨_, rfl, st, dx1, _, rfl, hx1, rfl, _, rfl, _, rfl, _, rfl, fun x dx nx nd ne => ⟨x, dx, _, rfl, rfl, upd_same, fun H1 hx hb => ⟨rfl, ?_⟩⟩⟩
      have s1 := But.made nx nd hb
      have t1 : TickAt K cT H1 x ⟨n, d, p⟩ := CT.ins hx
      refine ⟨st, _, dx1, _, rfl, s1 _ _ hx1, (by show 8 < 900; decide), fun _ _ => rfl, fun H2 l m e2 l2 m2 ln mn b2 => ?_⟩
      have i2 := C.ins e2
      have al1 : Alien H1 st := al_st (h1.mono s1)
      have t2 := t1.but al1 b2
      have a2 := b2 _ _ (s1 _ _ hans) (off_st h1 hans)
      -- return [0]
      refine ⟨(by show 1 ≤ sizeLine; decide), fun pp hp => ?_⟩
      have s9 := Same.fresh (o := .lst [.int 0]) hp
      refine q _ pp ⟨x, l, m, .non, i2.mono s9, t2.mono s9, ⟨[], s9 _ _ l2, trivial⟩, ⟨[], s9 _ _ m2, trivial⟩, rfl, (ne_of_none (s1 _ _ hans) ln).symm, (ne_of_none (s1 _ _ hans) mn).symm⟩ (((But.of s1).trans b2).trans (But.of s9)) (ne_of_none a2 hp).symm upd_same
end
end Sc

end
section
set_option Elab.async false
set_option linter.all false
set_option maxRecDepth 100000
set_option maxHeartbeats 2000000
namespace Sc
open PySem PySem.Spec PyProof.Rows L2
section
variable {P : Program} {w : World} {K : PySem.W.Frag} {mg : Str → Option Value} {base : Heap} {f cT cR cD cS : Addr} {fd : FuncData}
def spDoubt (K : PySem.W.Frag) (cS cT cR cD : Addr) : Sp := fun vs H Q _ => ∃ (ans st rf : Addr) (s : Ra56.Clock) (r : Ra56.Ref), vs = [.ref st, .ref rf] ∧ StS K cS cT cR cD ans H st s ∧ Sm.TOk s.tick ∧ s.doubts.length ≤ 100 ∧ (∀ x ∈ s.doubts, x.at_ ≤ r.at_) ∧ RefAt K cR H rf r ∧ (∃ xs, H ans = some (.lst xs)) ∧
  ∀ H', StS K cS cT cR cD ans H' st { s with doubts := if Ra56.agrees s.tick s.doubts r = true then s.doubts ++ [r] else [r] } → But st H H' → Q .non H'
abbrev s_Station_doubt : Stmt := inClass (top 47) 11
theorem sc_Station_doubt : FnScope ["self", "reference"] ["self", "reference"] (defScope s_Station_doubt) := ⟨rfl, rfl, rfl, by decide +kernel, rfl, by decide +kernel, by decide +kernel⟩
theorem ok_doubt (T : Txt K mg) (C : StC K cS) (F : Fun K "doubt" "Station.doubt" s_Station_doubt f fd) (f_agrees : FnG P w K mg base "agrees" 4 ["tick", "reference", "others"] (spAgrees K cT cR)) : FnOk P w K mg base CX0 5 f fd ["self", "reference"] (spDoubt K cS cT cR cD) := by
  refine F.ok sc_Station_doubt (fun vs H Q E h => ?_) (fun cdv A outer s0 H vs Q E hr h => ?_)
  · obtain ⟨ans, st, rf, s, r, rfl, _⟩ := h
    rfl
  · obtain ⟨ans, st, rf, s, r, rfl, hst, hk, hlen, hc, hrf, ⟨xs, hans⟩, q⟩ := h
    obtain ⟨tk, l, m, tv, h1, h2, h3, h4, h5, h6, h7⟩ := hst.ex
    refine ⟨_, (pss_one (ps_if (pt_val (pe_fn f_agrees (hr.mono (by decide)) rfl (pa_cons (pe_fldR (pv 0) rfl) (pa_cons (pv 1) (pa_cons (pe_fldR (pv 0) rfl) pa_nil))))) (pss_one (ps_fld (pv 0) (pe_op op_cat (pe_fldR (pv 0) rfl) (pe_lst (pa_cons (pv 1) pa_nil))) rfl)) (pss_one (ps_fld (pv 0) (pe_lst (pa_cons (pv 1) pa_nil)) rfl)))), ?_⟩
    refine ⟨_, rfl, _, (s_tick h1 _).mpr rfl, _, rfl, _, rfl, _, (s_doubted h1 _).mpr rfl, tk, rf, m, s.tick, r, s.doubts, rfl, h2, hrf, h4, hk, hlen, hc, fun H1 s1 => ⟨_, rfl, ?_⟩⟩
    have i1 := h1.mono s1
    have a1 := s1 _ _ hans
    obtain ⟨as, hm, hrs⟩ := h4.mono s1
    have hal := hrs.length
    have al1 := al_st i1
    cases ha : Ra56.agrees s.tick s.doubts r with
    | true =>
      simp only [ha, if_true] at q
      refine iteT ?_
      refine ⟨_, rfl, _, (s_doubted i1 _).mpr rfl, _, rfl, (by show 1 ≤ sizeLine; decide), fun p1 hp1 => ?_⟩
      have s2 := Same.fresh (o := .lst [.ref rf]) hp1
      have e2 : upd H1 p1 (.lst [.ref rf]) p1 = some (.lst [.ref rf]) := upd_same
      generalize upd H1 p1 (.lst [.ref rf]) = H2 at s2 e2 ⊢
      refine ⟨m, p1, _, _, rfl, rfl, s2 _ _ hm, e2, ?_, fun p2 hp2 => ?_⟩
      · show (as.map V.ref).length + 1 ≤ sizeLine
        rw [List.length_map, hal]
        exact Nat.le_trans (Nat.succ_le_succ hlen) (by decide)
      have s3 := Same.fresh (o := .lst (as.map V.ref ++ [V.ref rf])) hp2
      have e3 : upd H2 p2 (.lst (as.map V.ref ++ [V.ref rf])) p2 = some (.lst (as.map V.ref ++ [V.ref rf])) := upd_same
      generalize upd H2 p2 (.lst (as.map V.ref ++ [V.ref rf])) = H3 at s3 e3 ⊢
      have i3 := (i1.mono s2).mono s3
      refine put_go i3 rfl rfl len_st rfl rfl fun H4 (i4 : Ins K cS H4 st (stF (.ref tk) (.int s.seen) (.ref l) (.ref p2) tv (.int s.taken) (.int s.doubted) (.int s.anew))) b4 => ?_
      have al3 := al_st i3
      have S3 := (s1.trans s2).trans s3
      refine q H4 ⟨tk, l, p2, tv, i4, TickAt.but (h2.mono S3) al3 b4, RefsAt.but (h3.mono S3) al3 (let ⟨_, e, _⟩ := h3.mono S3; off_st i3 e) b4, ?_, ToldV.but (h5.mono S3) al3 b4, h6, (ne_of_none (s2 _ _ a1) hp2).symm⟩ ((But.of S3).trans b4)
      refine ⟨as ++ [rf], ?_, RefsL.but al3 b4 (RefsL.append ((hrs.mono s2).mono s3) ⟨(hrf.mono s1 |>.mono s2).mono s3, trivial⟩)⟩
      rw [List.map_append]
      exact b4 _ _ e3 (off_st i3 e3)
    | false =>
      simp only [ha, Bool.false_eq_true, if_false] at q
      refine iteF ?_
      refine ⟨_, rfl, (by show 1 ≤ sizeLine; decide), fun p1 hp1 => ?_⟩
      have s2 := Same.fresh (o := .lst [.ref rf]) hp1
      have e2 : upd H1 p1 (.lst [.ref rf]) p1 = some (.lst [.ref rf]) := upd_same
      generalize upd H1 p1 (.lst [.ref rf]) = H2 at s2 e2 ⊢
      have i3 := i1.mono s2
      refine put_go i3 rfl rfl len_st rfl rfl fun H4 (i4 : Ins K cS H4 st (stF (.ref tk) (.int s.seen) (.ref l) (.ref p1) tv (.int s.taken) (.int s.doubted) (.int s.anew))) b4 => ?_
      have al3 := al_st i3
      have S3 := s1.trans s2
      exact q H4 ⟨tk, l, p1, tv, i4, TickAt.but (h2.mono S3) al3 b4, RefsAt.but (h3.mono S3) al3 (let ⟨_, e, _⟩ := h3.mono S3; off_st i3 e) b4, ⟨[rf], b4 _ _ e2 (off_st i3 e2), RefAt.but ((hrf.mono s1).mono s2) al3 b4, trivial⟩, ToldV.but (h5.mono S3) al3 b4, h6, (ne_of_none a1 hp1).symm⟩ ((But.of S3).trans b4)
def spKeep (K : PySem.W.Frag) (cS cT cR cD : Addr) : Sp := fun vs H Q _ => ∃ (ans st l : Addr) (s : Ra56.Clock) (rs : List Ra56.Ref) (c : Nat), vs = [.ref st, .ref l, .int c] ∧ StS K cS cT cR cD ans H st s ∧ s.seen = c ∧ Sm.TOk s.tick ∧ (∀ x, s.told = some x → Sm.LOk x ∧ x.from_ ≤ c) ∧
  RefsAt K cR H l rs ∧ rs ≠ [] ∧ rs.length ≤ 100 ∧ Sm.Srt rs ∧ (∀ r ∈ rs, r.at_ ≤ c) ∧ c ≤ 2 ^ 62 ∧ (∃ xs, H ans = some (.lst xs)) ∧ ∀ H', StS K cS cT cR cD ans H' st (s.take rs c) → But st H H' → Q .non H'
theorem cut_newest (xs : List V) : cutV xs (some (max 0 ((xs.length : Int) - 16))) none = xs.drop (xs.length - 16) := by
  unfold cutV
  have e : max 0 ((xs.length : Int) - 16) = ((xs.length - 16 : Nat) : Int) := by omega
  rw [e, HT.sIx_nat, HT.sIx_none]
  have e2 : min (xs.length - 16) xs.length = xs.length - 16 := by omega
  rw [e2, List.take_of_length_le]
  rw [List.length_drop]
  exact Nat.le_refl _
abbrev s_Station_keep : Stmt := inClass (top 47) 12
theorem sc_Station_keep : FnScope ["self", "references", "c", "base", "t"] ["self", "references", "c"] (defScope s_Station_keep) := ⟨rfl, rfl, rfl, by decide +kernel, rfl, by decide +kernel, by decide +kernel⟩
theorem ok_keep (T : Txt K mg) (C : StC K cS) (F : Fun K "keep" "Station.keep" s_Station_keep f fd) (f_rate_by : FnG P w K mg base "rate_by" 3 ["tick", "references"] (spRate K cT cR)) (f_least_time : FnG P w K mg base "least_time" 2 ["tick", "references", "c"] (spLeast K cT cR))
    (f_greatest_time : FnG P w K mg base "greatest_time" 3 ["tick", "references", "c"] (spGreatest K cT cR)) (f_told_at_first : FnG P w K mg base "told_at_first" 3 ["tick", "c", "t", "base"] (spFirst K cT cD)) (f_brought_nearer : FnG P w K mg base "brought_nearer" 4 ["tick", "told", "c", "t", "base"] (spNearer K cT cD)) :
    FnOk P w K mg base CX0 5 f fd ["self", "references", "c"] (spKeep K cS cT cR cD) := by
  refine F.ok sc_Station_keep (fun vs H Q E h => ?_) (fun cdv A outer s0 H vs Q E hr h => ?_)
  · obtain ⟨ans, st, l, s, rs, c, rfl, _⟩ := h
    rfl
  · obtain ⟨ans, st, l, s, rs, c, rfl, hst, hsc, hk, htl, ⟨as, hl, hrs⟩, hne, hlen, hsrt, hc, hc62, ⟨xs, hans⟩, q⟩ := h
    obtain ⟨tk, l0, m0, tv, h1, h2, h3, h4, h5, h6, h7⟩ := hst.ex
    have hal := hrs.length
    subst hsc
    refine ⟨_, (pss_cons (ps_fld (pv 0) (pe_slice sl_list (pv 1) (po_some (pe_callB (call_max2 rfl) (by rfl) T.b_max boot_max (pa_cons pe_int (pa_cons (pe_op op_sub (pe_callB call_len_seq (by rfl) T.b_len PySem.boot_len (pa_cons (pv 1) pa_nil)) (pe_gint rfl T.i_MOST_KEPT)) pa_nil)))) po_none) rfl)
      (pss_cons (ps_fld (pv 0) (pe_lst pa_nil) rfl)
      (pss_cons (ps_set (i := 3) sc_Station_keep.nd rfl (Or.inl rfl) (pe_fn f_rate_by (hr.mono (by decide)) rfl (pa_cons (pe_fldR (pv 0) rfl) (pa_cons (pe_fldR (pv 0) rfl) pa_nil))))
      (pss_cons (ps_set (i := 4) sc_Station_keep.nd rfl (Or.inl rfl) (pe_op op_fdivL (pe_op op_add (pe_fn f_least_time (hr.mono (by decide)) rfl (pa_cons (pe_fldR (pv 0) rfl) (pa_cons (pe_fldR (pv 0) rfl) (pa_cons (pv 2) pa_nil)))) (pe_fn f_greatest_time (hr.mono (by decide)) rfl (pa_cons (pe_fldR (pv 0) rfl) (pa_cons (pe_fldR (pv 0) rfl) (pa_cons (pv 2) pa_nil))))) pe_int))
      (pss_one (ps_if (pt_cmp (pc_isN (pe_fldR (pv 0) rfl))) (pss_one (ps_fld (pv 0) (pe_fn f_told_at_first (hr.mono (by decide)) rfl (pa_cons (pe_fldR (pv 0) rfl) (pa_cons (pv 2) (pa_cons (pv 4) (pa_cons (pv 3) pa_nil))))) rfl)) (pss_one (ps_fld (pv 0) (pe_fn f_brought_nearer (hr.mono (by decide)) rfl (pa_cons (pe_fldR (pv 0) rfl) (pa_cons (pe_fldR (pv 0) rfl) (pa_cons (pv 2) (pa_cons (pv 4) (pa_cons (pv 3) pa_nil)))))) rfl)))))))), ?_⟩
    -- self.kept = references[max(0, len(references) - MOST_KEPT):]
    refine ⟨_, rfl, _, rfl, l, _, rfl, .inl (SqL.of hl), _, _, rfl, rfl, _, _, rfl, _, rfl, l, _, rfl, SqL.of hl, fun p hp => ?_⟩
    rw [max_is, cut_newest]
    have ed : (as.map V.ref).drop ((as.map V.ref).length - 16) = (as.drop (rs.length - 16)).map V.ref := by rw [List.length_map, List.map_drop, hal]
    rw [ed]
    have nne := Sm.newest_ne hne
    have nlen : (Ra56.newest 16 rs).length ≤ 100 := Nat.le_trans (Sm.newest_len rs) (by decide)
    have nsrt := Sm.newest_srt hsrt
    have nc : ∀ r ∈ Ra56.newest 16 rs, r.at_ ≤ s.seen := fun r hr => hc r (Sm.newest_mem hr)
    have nc62 : ∀ r ∈ Ra56.newest 16 rs, r.at_ ≤ 2 ^ 62 := fun r hr => Nat.le_trans (nc r hr) hc62
    have s1 := Same.fresh (o := .lst ((as.drop (rs.length - 16)).map V.ref)) hp
    have e1 : upd H p (.lst ((as.drop (rs.length - 16)).map V.ref)) p = some (.lst ((as.drop (rs.length - 16)).map V.ref)) := upd_same
    generalize upd H p (.lst ((as.drop (rs.length - 16)).map V.ref)) = H1 at s1 e1 ⊢
    have r1 : RefsAt K cR H1 p (Ra56.newest 16 rs) := ⟨_, e1, RefsL.drop _ (hrs.mono s1)⟩
    have i1 := h1.mono s1
    have pst := off_st i1 e1
    refine put_go i1 rfl rfl len_st rfl rfl fun H2 (i2 : Ins K cS H2 st (stF (.ref tk) (.int s.seen) (.ref p) (.ref m0) tv (.int s.taken) (.int s.doubted) (.int s.anew))) b2 => ?_
    have al1 := al_st i1
    have a2 := b2 _ _ (s1 _ _ hans) (off_st h1 hans)
    have t2 := TickAt.but (h2.mono s1) al1 b2
    have r2 := RefsAt.but r1 al1 pst b2
    have v2 := ToldV.but (h5.mono s1) al1 b2
    -- self.doubted = []
    refine ⟨Nat.zero_le _, fun m hm => ?_⟩
    have s3 := Same.fresh (o := .lst []) hm
    have m3 : upd H2 m (.lst []) m = some (.lst []) := upd_same
    generalize upd H2 m (.lst []) = H3 at s3 m3 ⊢
    have i3 := i2.mono s3
    have al3 := al_st i3
    refine put_go i3 rfl rfl len_st rfl rfl fun H4 (i4 : Ins K cS H4 st (stF (.ref tk) (.int s.seen) (.ref p) (.ref m) tv (.int s.taken) (.int s.doubted) (.int s.anew))) b4 => ?_
    have t4 := TickAt.but (t2.mono s3) al3 b4
    have r4 := RefsAt.but (r2.mono s3) al3 pst b4
    have v4 := ToldV.but (v2.mono s3) al3 b4
    have m4 := b4 _ _ m3 (off_st i3 m3)
    have pa : p ≠ ans := (ne_of_none hans hp).symm
    have ma : m ≠ ans := (ne_of_none a2 hm).symm
    have B4 : But st H H4 := (((But.of s1).trans b2).trans (But.of s3)).trans b4
    -- base = rate_by(self.tick, self.kept)
    refine ⟨_, rfl, _, (s_tick i4 _).mpr rfl, _, rfl, _, (s_kept i4 _).mpr rfl, tk, p, s.tick, Ra56.newest 16 rs, rfl, t4, r4, hk, nne, nsrt, nc62, fun H5 s5 => ?_⟩
    have i5 := i4.mono s5
    -- t = (least_time(..) + greatest_time(..)) // 2
    refine ⟨_, rfl, _, (s_tick i5 _).mpr rfl, _, rfl, _, (s_kept i5 _).mpr rfl, _, rfl, tk, p, s.tick, Ra56.newest 16 rs, s.seen, rfl, t4.mono s5, r4.mono s5, hk, nne, nlen, nc, fun H6 s6 => ?_⟩
    have i6 := i5.mono s6
    refine ⟨_, rfl, _, (s_tick i6 _).mpr rfl, _, rfl, _, (s_kept i6 _).mpr rfl, _, rfl, tk, p, s.tick, Ra56.newest 16 rs, s.seen, rfl, (t4.mono s5).mono s6, (r4.mono s5).mono s6, hk, nne, nlen, nc, fun H7 s7 => ?_⟩
    have i7 := i6.mono s7
    have S7 := (s5.trans s6).trans s7
    refine ⟨_, _, rfl, rfl, _, _, rfl, rfl, ⟨by decide, by decide⟩, ?_⟩
    -- if self.told is None
    refine ⟨_, rfl, _, (s_told i7 _).mpr rfl, _, rfl, ?_⟩
    have al7 := al_st i7
    have t7 := t4.mono S7
    have r7 := r4.mono S7
    have v7 := v4.mono S7
    have m7 := S7 _ _ m4
    have htk := Sm.take_told s rs s.seen hne
    -- behind the last store
    have fin : ∀ (H8 H9 : Hp) (a : Addr) (x : Ra56.Told), (s.take rs s.seen).told = some x → Same H7 H8 → ToldAt K cD H8 a x → Ins K cS H9 st (stF (.ref tk) (.int s.seen) (.ref p) (.ref m) (.ref a) (.int s.taken) (.int s.doubted) (.int s.anew)) → But st H8 H9 → Q .non H9 := by
      intro H8 H9 a x ex s8 ha i9 b9
      have i8 := i7.mono s8
      have al8 := al_st i8
      refine q H9 ⟨tk, p, m, .ref a, i9, TickAt.but (t7.mono s8) al8 b9, RefsAt.but (r7.mono s8) al8 pst b9, ⟨[], b9 _ _ (s8 _ _ m7) (off_st i8 (s8 _ _ m7)), trivial⟩, ?_, pa, ma⟩ ((B4.trans (But.of S7)).trans ((But.of s8).trans b9))
      rw [ex]
      exact ⟨a, rfl, ToldAt.but ha al8 b9⟩
    cases e : s.told with
    | none =>
      rw [e] at v7 htk
      have v7 : tv = .non := v7
      subst v7
      refine iteT ?_
      refine ⟨_, rfl, _, (s_tick i7 _).mpr rfl, _, rfl, _, rfl, _, rfl, tk, s.tick, s.seen, _, _, rfl, t7, hk, fun H8 a s8 ha => ?_⟩
      exact put_go (i7.mono s8) rfl rfl len_st rfl rfl fun H9 (i9 : Ins K cS H9 st (stF (.ref tk) (.int s.seen) (.ref p) (.ref m) (.ref a) (.int s.taken) (.int s.doubted) (.int s.anew))) b9 => fin H8 H9 a _ htk s8 ha i9 b9
    | some x =>
      rw [e] at v7 htk
      obtain ⟨a0, rfl, ha0⟩ := v7
      obtain ⟨lk, lf⟩ := htl x e
      refine iteF ?_
      refine ⟨_, rfl, _, (s_tick i7 _).mpr rfl, _, rfl, _, (s_told i7 _).mpr rfl, _, rfl, _, rfl, _, rfl, tk, a0, s.tick, x, s.seen, _, _, rfl, t7, ha0, hk, lk, lf, fun H8 a s8 ha => ?_⟩
      exact put_go (i7.mono s8) rfl rfl len_st rfl rfl fun H9 (i9 : Ins K cS H9 st (stF (.ref tk) (.int s.seen) (.ref p) (.ref m) (.ref a) (.int s.taken) (.int s.doubted) (.int s.anew))) b9 => fin H8 H9 a _ htk s8 ha i9 b9
end
end Sc

end
section
set_option Elab.async false
set_option linter.all false
set_option maxRecDepth 100000
set_option maxHeartbeats 2000000
namespace Sc
open PySem PySem.Spec PyProof.Rows L2
section
variable {P : Program} {w : World} {K : PySem.W.Frag} {mg : Str → Option Value} {base : Heap} {f cT cR cD cS : Addr} {fd : FuncData}
structure RefC (K : PySem.W.Frag) (cR : Addr) : Prop where
  cl : Cls K cR
  n1 : NoAttr K cR "counter"
  n2 : NoAttr K cR "time"
  n3 : NoAttr K cR "off"
theorem RefC.ins {H : Hp} {p : Addr} {x : Ra56.Ref} (c : RefC K cR) (h : ∃ dx, H p = some (.ins cR dx (refF x))) : RefAt K cR H p x := by
  refine ⟨c.cl, h, fun q hq => ?_⟩
  simp only [List.mem_cons, List.not_mem_nil, or_false] at hq
  rcases hq with rfl | rfl | rfl
  · exact c.n1
  · exact c.n2
  · exact c.n3
/-- the counts alone are changed -/
theorem StS.but {H H' : Hp} {st tk l m : Addr} {tv a b c d e f' g' : V} {s : Ra56.Clock} (w1 : Ins K cS H st (stF a b c d tv e f' g')) (w2 : TickAt K cT H tk s.tick) (w3 : RefsAt K cR H l s.refs) (w4 : RefsAt K cR H m s.doubts) (w5 : ToldV K cD H tv s.told) (q : But st H H') :
    TickAt K cT H' tk s.tick ∧ RefsAt K cR H' l s.refs ∧ RefsAt K cR H' m s.doubts ∧ ToldV K cD H' tv s.told := by
  have al := al_st w1
  exact ⟨TickAt.but w2 al q, RefsAt.but w3 al (let ⟨_, e, _⟩ := w3; off_st w1 e) q, RefsAt.but w4 al (let ⟨_, e, _⟩ := w4; off_st w1 e) q, ToldV.but w5 al q⟩
def spRefer (K : PySem.W.Frag) (cS cT cR cD : Addr) : Sp := fun vs H Q _ => ∃ (ans st : Addr) (s : Ra56.Clock) (c : Nat) (t : Int) (u : Nat), vs = [.ref st, .int c, .int t, .int u] ∧ StS K cS cT cR cD ans H st s ∧ Sm.COk s ∧ (∃ xs, H ans = some (.lst xs)) ∧ Post K cS cT cR cD ans st H Q (Ra56.step (some s) (.refer c t u))
abbrev s_Station_refer : Stmt := inClass (top 47) 3
theorem sc_Station_refer : FnScope ["self", "c", "t", "u", "refusal", "reference"] ["self", "c", "t", "u"] (defScope s_Station_refer) := ⟨rfl, rfl, rfl, by decide +kernel, rfl, by decide +kernel, by decide +kernel⟩
theorem ok_refer (T : Txt K mg) (C : StC K cS) (CR : RefC K cR) (F : Fun K "refer" "Station.refer" s_Station_refer f fd) (f_within : FnG P w K mg base "within" 1 ["number", "low", "high"] spWithin) (c_Reference : MkG P w K mg base "Reference" cR 1 ["self", "counter", "time", "off"] (spNew cR refG 3))
    (f_agrees : FnG P w K mg base "agrees" 4 ["tick", "reference", "others"] (spAgrees K cT cR)) (m_refusal_of_counter : MtG P w K mg base cS "refusal_of_counter" 2 ["self", "c"] (spRefusal K))
    (m_doubt : MtG P w K mg base cS "doubt" 5 ["self", "reference"] (spDoubt K cS cT cR cD)) (m_keep : MtG P w K mg base cS "keep" 5 ["self", "references", "c"] (spKeep K cS cT cR cD)) :
    FnOk P w K mg base CX0 6 f fd ["self", "c", "t", "u"] (spRefer K cS cT cR cD) := by
  refine F.ok sc_Station_refer (fun vs H Q E h => ?_) (fun cdv A outer s0 H vs Q E hr h => ?_)
  · obtain ⟨ans, st, s, c, t, u, rfl, _⟩ := h
    rfl
  · obtain ⟨ans, st, s, c, t, u, rfl, hst, hok, ⟨xs, hans⟩, q⟩ := h
    obtain ⟨tk, l, m, tv, h1, h2, h3, h4, h5, h6, h7⟩ := hst.ex
    obtain ⟨dx, hx⟩ := h1.at_
    rw [Sm.step_refer] at q
    refine ⟨_, (pss_cons (ps_if (PW.pt (pw_or (pt_not (pt_val (pe_fn f_within (hr.mono (by decide)) rfl (pa_cons (pv 2) (pa_cons pe_int (pa_cons (pe_gint rfl T.i_MOST_TIME) pa_nil)))))) (pw_or1 (pt_not (pt_val (pe_fn f_within (hr.mono (by decide)) rfl (pa_cons (pv 3) (pa_cons pe_int (pa_cons (pe_gint rfl T.i_MOST_OFF) pa_nil))))))))) (pss_one (ps_ret (pe_lst (pa_cons (pe_gint rfl T.i_OUT_OF_RANGE) pa_nil)))) pss_nil)
      (pss_cons (ps_set (i := 4) sc_Station_refer.nd rfl (Or.inl rfl) (pe_mt m_refusal_of_counter C.cl (pv 0) (hr.mono (by decide)) (pa_cons (pv 1) pa_nil)))
      (pss_cons (ps_if (pt_cmpR op_ne (pv 4) pe_int (nomark _)) (pss_one (ps_ret (pe_lst (pa_cons (pv 4) pa_nil)))) pss_nil)
      (pss_cons (ps_fld (pv 0) (pv 1) rfl)
      (pss_cons (ps_set (i := 5) sc_Station_refer.nd rfl (Or.inl rfl) (pe_mk c_Reference (hr.mono (by decide)) rfl (pa_cons (pv 1) (pa_cons (pv 2) (pa_cons (pv 3) pa_nil)))))
      (pss_cons (ps_if (pt_val (pe_fn f_agrees (hr.mono (by decide)) rfl (pa_cons (pe_fldR (pv 0) rfl) (pa_cons (pv 5) (pa_cons (pe_fldR (pv 0) rfl) pa_nil))))) (pss_cons (ps_expr (pe_mt m_keep C.cl (pv 0) (hr.mono (by decide)) (pa_cons (pe_op op_cat (pe_fldR (pv 0) rfl) (pe_lst (pa_cons (pv 5) pa_nil))) (pa_cons (pv 1) pa_nil))))
      (pss_cons (ps_fldaug (pv 0) pe_int in_add)
      (pss_one (ps_ret (pe_lst (pa_cons (pe_gint rfl T.i_TAKEN) pa_nil)))))) pss_nil)
      (pss_cons (ps_expr (pe_mt m_doubt C.cl (pv 0) (hr.mono (by decide)) (pa_cons (pv 5) pa_nil)))
      (pss_cons (ps_if (pt_cmpR op_lt (pe_callB call_len_seq (by rfl) T.b_len PySem.boot_len (pa_cons (pe_fldR (pv 0) rfl) pa_nil)) (pe_gint rfl T.i_ENOUGH_TO_BELIEVE) (nomark _)) (pss_cons (ps_fldaug (pv 0) pe_int in_add)
      (pss_one (ps_ret (pe_lst (pa_cons (pe_gint rfl T.i_DOUBTED) pa_nil))))) pss_nil)
      (pss_cons (ps_expr (pe_mt m_keep C.cl (pv 0) (hr.mono (by decide)) (pa_cons (pe_fldR (pv 0) rfl) (pa_cons (pv 1) pa_nil))))
      (pss_cons (ps_fldaug (pv 0) pe_int in_add)
      (pss_one (ps_ret (pe_lst (pa_cons (pe_gint rfl T.i_BELIEVED) pa_nil)))))))))))))), ?_⟩
    refine ⟨_, rfl, t, 0, 4611686018427387904, rfl, _, rfl, ?_⟩
    -- refused: -1
    by_cases gt : (0 : Int) ≤ t ∧ t ≤ 4611686018427387904
    rotate_left
    · rw [if_pos (.inr (.inl gt))] at q
      refine wit_out gt ?_
      refine iteT ?_
      exact ⟨(by show 1 ≤ sizeLine; decide), fun p hp => q _ p (hst.mono (Same.fresh hp)) (But.of (Same.fresh hp)) (ne_of_none hans hp).symm upd_same⟩
    refine wit_in gt ?_
    refine ⟨_, rfl, u, 0, 1099511627776, rfl, _, rfl, ?_⟩
    by_cases gu : 1099511627776 < u
    · rw [if_pos (.inr (.inr gu))] at q
      refine wit_out (show ¬ ((0 : Int) ≤ u ∧ (u : Int) ≤ 1099511627776) by omega) ?_
      exact ⟨(by show 1 ≤ sizeLine; decide), fun p hp => q _ p (hst.mono (Same.fresh hp)) (But.of (Same.fresh hp)) (ne_of_none hans hp).symm upd_same⟩
    refine wit_in (show ((0 : Int) ≤ u ∧ (u : Int) ≤ 1099511627776) by omega) ?_
    -- refusal = self.refusal_of_counter(c)
    refine ⟨_, rfl, st, dx, _, rfl, hx, rfl, _, rfl, st, c, s.seen, rfl, (s_seen h1 _).mpr rfl, ?_⟩
    refine ⟨_, rfl, rfl, _, rfl, ?_⟩
    by_cases g1 : 4611686018427387904 < c
    · rw [if_pos (.inl g1)] at q
      simp only [if_pos g1]
      refine iteT ?_
      exact ⟨_, rfl, (by show 1 ≤ sizeLine; decide), fun p hp => q _ p (hst.mono (Same.fresh hp)) (But.of (Same.fresh hp)) (ne_of_none hans hp).symm upd_same⟩
    rw [if_neg (by rintro (z | z | z); exact g1 z; exact z gt; exact gu z)] at q
    simp only [if_neg g1]
    by_cases g2 : c < s.seen
    · rw [if_pos g2] at q
      simp only [if_pos g2]
      refine iteT ?_
      exact ⟨_, rfl, (by show 1 ≤ sizeLine; decide), fun p hp => q _ p (hst.mono (Same.fresh hp)) (But.of (Same.fresh hp)) (ne_of_none hans hp).symm upd_same⟩
    rw [if_neg g2] at q
    simp only [if_neg g2]
    refine iteF ?_
    have hsc : s.seen ≤ c := by omega
    -- self.seen = c
    refine ⟨_, rfl, put_go h1 rfl rfl len_st rfl rfl fun H1 (i1 : Ins K cS H1 st (stF (.ref tk) (.int c) (.ref l) (.ref m) tv (.int s.taken) (.int s.doubted) (.int s.anew))) b1 => ?_⟩
    have al := al_st h1
    have a1 := b1 _ _ hans (off_st h1 hans)
    have t1 := TickAt.but h2 al b1
    have r1 := RefsAt.but h3 al (let ⟨_, e, _⟩ := h3; off_st h1 e) b1
    have d1 := RefsAt.but h4 al (let ⟨_, e, _⟩ := h4; off_st h1 e) b1
    have v1 := ToldV.but h5 al b1
    -- reference = Reference(c, t, u)
    refine ⟨_, rfl, _, rfl, _, rfl, fun x dx' nx nd ne => ⟨x, dx', _, rfl, rfl, upd_same, fun H2 hx2 hb => ⟨rfl, ?_⟩⟩⟩
    have s2 := But.made nx nd hb
    have x2 : RefAt K cR H2 x ⟨c, t, u⟩ := CR.ins hx2
    have i2 := i1.mono s2
    have hr : ∀ y ∈ s.refs, y.at_ ≤ (⟨c, t, u⟩ : Ra56.Ref).at_ := fun y hy => Nat.le_trans (hok.ra y hy) hsc
    have hd : ∀ y ∈ s.doubts, y.at_ ≤ (⟨c, t, u⟩ : Ra56.Ref).at_ := fun y hy => Nat.le_trans (hok.da y hy) hsc
    have hrl : s.refs.length ≤ 100 := Nat.le_trans hok.rl (by decide)
    have hdl : s.doubts.length ≤ 100 := Nat.le_trans hok.dl (by decide)
    -- if agrees(self.tick, reference, self.kept)
    refine ⟨_, rfl, _, (s_tick i2 _).mpr rfl, _, rfl, _, rfl, _, (s_kept i2 _).mpr rfl, tk, x, l, s.tick, ⟨c, t, u⟩, s.refs, rfl, t1.mono s2, x2, r1.mono s2, hok.tk, hrl, hr, fun H3 s3 => ⟨_, rfl, ?_⟩⟩
    have i3 := i2.mono s3
    have S3 := s2.trans s3
    have htl : ∀ y, s.told = some y → Sm.LOk y ∧ y.from_ ≤ c := fun y hy => ⟨(hok.tl y hy).1, Nat.le_trans (hok.tl y hy).2 hsc⟩
    have a3 := S3 _ _ a1
    have st3 : StS K cS cT cR cD ans H3 st { s with seen := c } := ⟨tk, l, m, tv, i3, t1.mono S3, r1.mono S3, d1.mono S3, v1.mono S3, h6, h7⟩
    cases ha : Ra56.agrees s.tick s.refs ⟨c, t, u⟩ with
    | true =>
      rw [if_pos ha] at q
      refine iteT ?_
      obtain ⟨as, hl, hrs⟩ := r1.mono S3
      have hal := hrs.length
      obtain ⟨dx3, hx3⟩ := i3.at_
      -- self.keep(self.kept + [reference], c)
      refine ⟨_, rfl, st, dx3, _, rfl, hx3, rfl, _, rfl, _, (s_kept i3 _).mpr rfl, _, rfl, (by show 1 ≤ sizeLine; decide), fun p1 hp1 => ?_⟩
      have s4 := Same.fresh (o := .lst [.ref x]) hp1
      have e4 : upd H3 p1 (.lst [.ref x]) p1 = some (.lst [.ref x]) := upd_same
      generalize upd H3 p1 (.lst [.ref x]) = H4 at s4 e4 ⊢
      refine ⟨l, p1, _, _, rfl, rfl, s4 _ _ hl, e4, ?_, fun p2 hp2 => ?_⟩
      · show (as.map V.ref).length + 1 ≤ sizeLine
        rw [List.length_map, hal]
        exact Nat.le_trans (Nat.succ_le_succ hrl) (by decide)
      have s5 := Same.fresh (o := .lst (as.map V.ref ++ [V.ref x])) hp2
      have e5 : upd H4 p2 (.lst (as.map V.ref ++ [V.ref x])) p2 = some (.lst (as.map V.ref ++ [V.ref x])) := upd_same
      generalize upd H4 p2 (.lst (as.map V.ref ++ [V.ref x])) = H5 at s5 e5 ⊢
      have S5 := s4.trans s5
      refine ⟨_, rfl, ans, st, p2, { s with seen := c }, s.refs ++ [⟨c, t, u⟩], c, rfl, st3.mono S5, rfl, hok.tk, htl, ?_, by simp, ?_, hok.rs.snoc hr, ?_, (by omega), ⟨xs, S5 _ _ a3⟩, fun H6 st6 b6 => ?_⟩
      · refine ⟨as ++ [x], ?_, RefsL.append (hrs.mono S5) ⟨(x2.mono s3).mono S5, trivial⟩⟩
        rw [List.map_append]
        exact e5
      · rw [List.length_append]
        exact Nat.le_trans (Nat.add_le_add_right hok.rl _) (by show 17 ≤ 100; decide)
      · intro r hm
        rcases List.mem_append.mp hm with z | z
        · exact hr r z
        · rw [List.mem_singleton.mp z]
          exact Nat.le_refl _
      -- self.times_taken += 1
      obtain ⟨tk', l', m', tv', w1, w2, w3, w4, w5, w6, w7⟩ := st6.ex
      refine aug_go w1 rfl rfl len_st rfl rfl fun H7 (i7 : Ins K cS H7 st (stF (.ref tk') (.int c) (.ref l') (.ref m') tv' (.int (s.taken + 1)) (.int s.doubted) (.int s.anew))) b7 => ?_
      obtain ⟨y2, y3, y4, y5⟩ := StS.but w1 w2 w3 w4 w5 b7
      have a6 := b6 _ _ (S5 _ _ a3) (off_st (i3.mono S5) (S5 _ _ a3))
      have a7 := b7 _ _ a6 (off_st w1 a6)
      -- return [TAKEN]
      refine ⟨(by show 1 ≤ sizeLine; decide), fun p hp => ?_⟩
      have s7 := Same.fresh (o := .lst [.int 0]) hp
      exact q _ p ⟨tk', l', m', tv', i7.mono s7, y2.mono s7, y3.mono s7, y4.mono s7, y5.mono s7, w6, w7⟩ ((b1.trans (But.of S3)).trans ((But.of S5).trans (b6.trans (b7.trans (But.of s7))))) (ne_of_none a7 hp).symm upd_same
    | false =>
      rw [if_neg (by rw [ha]; decide)] at q
      refine iteF ?_
      obtain ⟨dx3, hx3⟩ := i3.at_
      -- self.doubt(reference)
      refine ⟨_, rfl, st, dx3, _, rfl, hx3, rfl, _, rfl, ans, st, x, { s with seen := c }, ⟨c, t, u⟩, rfl, st3, hok.tk, hdl, hd, x2.mono s3, ⟨xs, a3⟩, fun H4 st4 b4 => ?_⟩
      have hds : Sm.Srt (if Ra56.agrees s.tick s.doubts ⟨c, t, u⟩ = true then s.doubts ++ [⟨c, t, u⟩] else [⟨c, t, u⟩]) ∧ (∀ r ∈ (if Ra56.agrees s.tick s.doubts ⟨c, t, u⟩ = true then s.doubts ++ [⟨c, t, u⟩] else [⟨c, t, u⟩]), r.at_ ≤ c) ∧ (if Ra56.agrees s.tick s.doubts ⟨c, t, u⟩ = true then s.doubts ++ [⟨c, t, u⟩] else [⟨c, t, u⟩]) ≠ [] ∧ (if Ra56.agrees s.tick s.doubts ⟨c, t, u⟩ = true then s.doubts ++ [⟨c, t, u⟩] else [⟨c, t, u⟩]).length ≤ 100 := by
        split
        · refine ⟨hok.ds.snoc hd, fun r hm => ?_, by simp, ?_⟩
          · rcases List.mem_append.mp hm with z | z
            · exact hd r z
            · rw [List.mem_singleton.mp z]; exact Nat.le_refl _
          · rw [List.length_append]
            exact Nat.le_trans (Nat.add_le_add_right hok.dl _) (by show 3 ≤ 100; decide)
        · refine ⟨List.pairwise_singleton _ _, fun r hm => ?_, by simp, (by show 1 ≤ 100; decide)⟩
          rw [List.mem_singleton.mp hm]; exact Nat.le_refl _
      have st4 : StS K cS cT cR cD ans H4 st { s with seen := c, doubts := if Ra56.agrees s.tick s.doubts ⟨c, t, u⟩ = true then s.doubts ++ [⟨c, t, u⟩] else [⟨c, t, u⟩] } := st4
      generalize (if Ra56.agrees s.tick s.doubts ⟨c, t, u⟩ = true then s.doubts ++ [⟨c, t, u⟩] else [⟨c, t, u⟩]) = ds at q st4 hds
      obtain ⟨tk', l', m', tv', w1, w2, w3, w4, w5, w6, w7⟩ := st4.ex
      have a4 := b4 _ _ a3 (off_st i3 a3)
      obtain ⟨ms, hm, hms⟩ := w4
      have hml : ms.length = ds.length := hms.length
      -- if len(self.doubted) < ENOUGH_TO_BELIEVE
      refine ⟨_, rfl, _, (s_doubted w1 _).mpr rfl, m', _, rfl, .inl (SqL.of hm), _, _, rfl, rfl, _, rfl, ?_⟩
      have B4 : But st H H4 := (b1.trans (But.of S3)).trans b4
      by_cases g3 : 3 ≤ ds.length
      · rw [if_pos g3] at q
        have z : ¬ (((ms.map V.ref).length : Nat) : Int) < 3 := by rw [List.length_map, hml]; omega
        rw [decide_eq_false z]
        refine iteF ?_
        obtain ⟨dx4, hx4⟩ := w1.at_
        -- self.keep(self.doubted, c)
        refine ⟨_, rfl, st, dx4, _, rfl, hx4, rfl, _, rfl, _, (s_doubted w1 _).mpr rfl, _, rfl, ans, st, m', { s with seen := c, doubts := ds }, ds, c, rfl, st4, rfl, hok.tk, htl, ⟨ms, hm, hms⟩, hds.2.2.1, hds.2.2.2, hds.1, hds.2.1, (by omega), ⟨xs, a4⟩, fun H5 st5 b5 => ?_⟩
        -- self.times_believed += 1
        obtain ⟨tk5, l5, m5, tv5, y1, y2, y3, y4, y5, y6, y7⟩ := st5.ex
        refine aug_go y1 rfl rfl len_st rfl rfl fun H6 (i6 : Ins K cS H6 st (stF (.ref tk5) (.int c) (.ref l5) (.ref m5) tv5 (.int s.taken) (.int s.doubted) (.int (s.anew + 1)))) b6 => ?_
        obtain ⟨z2, z3, z4, z5⟩ := StS.but y1 y2 y3 y4 y5 b6
        have a5 := b5 _ _ a4 (off_st w1 a4)
        have a6 := b6 _ _ a5 (off_st y1 a5)
        refine ⟨(by show 1 ≤ sizeLine; decide), fun p hp => ?_⟩
        have s6 := Same.fresh (o := .lst [.int 2]) hp
        exact q _ p ⟨tk5, l5, m5, tv5, i6.mono s6, z2.mono s6, z3.mono s6, z4.mono s6, z5.mono s6, y6, y7⟩ (B4.trans (b5.trans (b6.trans (But.of s6)))) (ne_of_none a6 hp).symm upd_same
      · rw [if_neg g3] at q
        have z : (((ms.map V.ref).length : Nat) : Int) < 3 := by rw [List.length_map, hml]; omega
        rw [decide_eq_true z]
        refine iteT ?_
        -- self.times_doubted += 1
        refine aug_go w1 rfl rfl len_st rfl rfl fun H6 (i6 : Ins K cS H6 st (stF (.ref tk') (.int c) (.ref l') (.ref m') tv' (.int s.taken) (.int (s.doubted + 1)) (.int s.anew))) b6 => ?_
        obtain ⟨z2, z3, z4, z5⟩ := StS.but (s := { s with seen := c, doubts := ds }) w1 w2 w3 ⟨ms, hm, hms⟩ w5 b6
        have a6 := b6 _ _ a4 (off_st w1 a4)
        refine ⟨(by show 1 ≤ sizeLine; decide), fun p hp => ?_⟩
        have s6 := Same.fresh (o := .lst [.int 1]) hp
        exact q _ p ⟨tk', l', m', tv', i6.mono s6, z2.mono s6, z3.mono s6, z4.mono s6, z5.mono s6, w6, w7⟩ (B4.trans (b6.trans (But.of s6))) (ne_of_none a6 hp).symm upd_same
end
end Sc

end
section
set_option Elab.async false
set_option linter.all false
set_option maxRecDepth 100000
set_option maxHeartbeats 2000000
namespace Sc
open PySem PySem.Spec PyProof.Rows L2
section
variable {P : Program} {w : World} {K : PySem.W.Frag} {mg : Str → Option Value} {base : Heap} {f cT cR cD cS : Addr} {fd : FuncData}
/-- a call without a number -/
def spBare (K : PySem.W.Frag) (cS cT cR cD : Addr) (x : Ra56.Call) : Sp := fun vs H Q _ => ∃ (ans st : Addr) (s : Ra56.Clock), vs = [.ref st] ∧ StS K cS cT cR cD ans H st s ∧ Sm.COk s ∧ (∃ xs, H ans = some (.lst xs)) ∧ Post K cS cT cR cD ans st H Q (Ra56.step (some s) x)
abbrev s_Station_rate : Stmt := inClass (top 47) 6
theorem sc_Station_rate : FnScope ["self", "both"] ["self"] (defScope s_Station_rate) := ⟨rfl, rfl, rfl, by decide +kernel, rfl, by decide +kernel, by decide +kernel⟩
theorem ok_rate (T : Txt K mg) (C : StC K cS) (F : Fun K "rate" "Station.rate" s_Station_rate f fd) (f_least_and_greatest_rate : FnG P w K mg base "least_and_greatest_rate" 2 ["tick", "references"] (spRates K cT cR)) (f_rate_by : FnG P w K mg base "rate_by" 3 ["tick", "references"] (spRate K cT cR)) :
    FnOk P w K mg base CX0 4 f fd ["self"] (spBare K cS cT cR cD .rate) := by
  refine F.ok sc_Station_rate (fun vs H Q E h => ?_) (fun cdv A outer s0 H vs Q E hr h => ?_)
  · obtain ⟨ans, st, s, rfl, _⟩ := h
    rfl
  · obtain ⟨ans, st, s, rfl, hst, hok, ⟨xs, hans⟩, q⟩ := h
    obtain ⟨tk, l, m, tv, h1, h2, h3, h4, h5, h6, h7⟩ := hst.ex
    rw [Sm.step_rate] at q
    refine ⟨_, (pss_cons (ps_if (pt_cmpR op_eq (pe_callB call_len_seq (by rfl) T.b_len PySem.boot_len (pa_cons (pe_fldR (pv 0) rfl) pa_nil)) pe_int (nomark _)) (pss_one (ps_ret (pe_lst (pa_cons (pe_gint rfl T.i_NOTHING_THERE) pa_nil)))) pss_nil)
      (pss_cons (ps_set (i := 1) sc_Station_rate.nd rfl (Or.inl rfl) (pe_fn f_least_and_greatest_rate (hr.mono (by decide)) rfl (pa_cons (pe_fldR (pv 0) rfl) (pa_cons (pe_fldR (pv 0) rfl) pa_nil))))
      (pss_one (ps_ret (pe_lst (pa_cons pe_int (pa_cons (pe_ix ix_tup (pv 1) pe_int (fun _ _ => rfl)) (pa_cons (pe_ix ix_tup (pv 1) pe_int (fun _ _ => rfl)) (pa_cons (pe_fn f_rate_by (hr.mono (by decide)) rfl (pa_cons (pe_fldR (pv 0) rfl) (pa_cons (pe_fldR (pv 0) rfl) pa_nil))) pa_nil))))))))), ?_⟩
    obtain ⟨as, hl, hrs⟩ := h3
    have hal := hrs.length
    refine ⟨_, rfl, _, (s_kept h1 _).mpr rfl, l, _, rfl, .inl (SqL.of hl), rfl, _, rfl, ?_⟩
    by_cases hne : s.refs = []
    · rw [if_pos hne] at q
      have ha : as = [] := List.length_eq_zero_iff.mp (by rw [hal, hne]; rfl)
      subst ha
      refine iteT ?_
      refine ⟨(by decide), fun p hp => ?_⟩
      exact q _ p (hst.mono (Same.fresh hp)) (But.of (Same.fresh hp)) (ne_of_none hans hp).symm upd_same
    · rw [if_neg hne] at q
      have hz : ¬ V.int (((as.map V.ref).length : Nat) : Int) = V.int 0 := by
        rw [List.length_map, hal]
        intro e
        have e : ((s.refs.length : Nat) : Int) = 0 := V.int.inj e
        exact hne (List.length_eq_zero_iff.mp (by omega))
      rw [decide_eq_false hz]
      refine iteF ?_
      have hc : ∀ r ∈ s.refs, r.at_ ≤ 2 ^ 62 := fun r hr => Nat.le_trans (hok.ra r hr) hok.sb
      refine ⟨_, rfl, _, (s_tick h1 _).mpr rfl, _, rfl, _, (s_kept h1 _).mpr rfl, tk, l, s.tick, s.refs, rfl, h2, ⟨as, hl, hrs⟩, hok.tk, hne, hok.rs, hc, fun H1 p s1 hp => ?_⟩
      have i1 := h1.mono s1
      refine ⟨_, rfl, p, _, _, _, rfl, rfl, SqT.of hp, atI_nat (j := 0) rfl, _, rfl, p, _, _, _, rfl, rfl, SqT.of hp, atI_nat (j := 1) rfl, ?_⟩
      refine ⟨_, rfl, _, (s_tick i1 _).mpr rfl, _, rfl, _, (s_kept i1 _).mpr rfl, tk, l, s.tick, s.refs, rfl, h2.mono s1, ⟨as, s1 _ _ hl, hrs.mono s1⟩, hok.tk, hne, hok.rs, hc, fun H2 s2 => ?_⟩
      refine ⟨(by show 4 ≤ sizeLine; decide), fun pp hpp => ?_⟩
      have s3 := (s1.trans s2).trans (Same.fresh (o := .lst [.int 0, .int (Ra56.rates s.tick s.refs).1, .int (Ra56.rates s.tick s.refs).2, .int (Ra56.rate s.tick s.refs)]) hpp)
      exact q _ pp (hst.mono s3) (But.of s3) (ne_of_none ((s1.trans s2) _ _ hans) hpp).symm upd_same
def spWhen (K : PySem.W.Frag) (cS cT cR cD : Addr) : Sp := fun vs H Q _ => ∃ (ans st : Addr) (s : Ra56.Clock) (t : Int), vs = [.ref st, .int t] ∧ StS K cS cT cR cD ans H st s ∧ Sm.COk s ∧ (∃ xs, H ans = some (.lst xs)) ∧ Post K cS cT cR cD ans st H Q (Ra56.step (some s) (.when_ t))
abbrev s_Station_when : Stmt := inClass (top 47) 7
theorem sc_Station_when : FnScope ["self", "t"] ["self", "t"] (defScope s_Station_when) := ⟨rfl, rfl, rfl, by decide +kernel, rfl, by decide +kernel, by decide +kernel⟩
theorem ok_when (T : Txt K mg) (C : StC K cS) (F : Fun K "when" "Station.when" s_Station_when f fd) (f_within : FnG P w K mg base "within" 1 ["number", "low", "high"] spWithin) (f_first_counter_telling : FnG P w K mg base "first_counter_telling" 3 ["tick", "told", "t"] (spFirstC K cT cD)) :
    FnOk P w K mg base CX0 4 f fd ["self", "t"] (spWhen K cS cT cR cD) := by
  refine F.ok sc_Station_when (fun vs H Q E h => ?_) (fun cdv A outer s0 H vs Q E hr h => ?_)
  · obtain ⟨ans, st, s, t, rfl, _⟩ := h
    rfl
  · obtain ⟨ans, st, s, t, rfl, hst, hok, ⟨xs, hans⟩, q⟩ := h
    obtain ⟨tk, l, m, tv, h1, h2, h3, h4, h5, h6, h7⟩ := hst.ex
    rw [Sm.step_when] at q
    refine ⟨_, (pss_cons (ps_if (pt_not (pt_val (pe_fn f_within (hr.mono (by decide)) rfl (pa_cons (pv 1) (pa_cons pe_int (pa_cons (pe_gint rfl T.i_MOST_TIME) pa_nil)))))) (pss_one (ps_ret (pe_lst (pa_cons (pe_gint rfl T.i_OUT_OF_RANGE) pa_nil)))) pss_nil)
      (pss_cons (ps_if (pt_cmp (pc_isN (pe_fldR (pv 0) rfl))) (pss_one (ps_ret (pe_lst (pa_cons (pe_gint rfl T.i_NOTHING_THERE) pa_nil)))) pss_nil)
      (pss_one (ps_ret (pe_lst (pa_cons pe_int (pa_cons (pe_callB (call_max2 rfl) (by rfl) T.b_max boot_max (pa_cons (pe_fldR (pv 0) rfl) (pa_cons (pe_fn f_first_counter_telling (hr.mono (by decide)) rfl (pa_cons (pe_fldR (pv 0) rfl) (pa_cons (pe_fldR (pv 0) rfl) (pa_cons (pv 1) pa_nil)))) pa_nil))) pa_nil))))))), ?_⟩
    refine ⟨_, rfl, t, 0, 4611686018427387904, rfl, _, rfl, ?_⟩
    by_cases gt : (0 : Int) ≤ t ∧ t ≤ 4611686018427387904
    rotate_left
    · rw [if_pos gt] at q
      refine wit_out gt ?_
      exact ⟨(by show 1 ≤ sizeLine; decide), fun p hp => q _ p (hst.mono (Same.fresh hp)) (But.of (Same.fresh hp)) (ne_of_none hans hp).symm upd_same⟩
    rw [if_neg (fun z => z gt)] at q
    refine wit_in gt ?_
    refine ⟨_, rfl, _, (s_told h1 _).mpr rfl, _, rfl, ?_⟩
    have ht := h5
    cases e : s.told with
    | none =>
      rw [e] at ht q
      have ht : tv = .non := ht
      subst ht
      refine iteT ?_
      refine ⟨(by decide), fun p hp => ?_⟩
      exact q _ p (hst.mono (Same.fresh hp)) (But.of (Same.fresh hp)) (ne_of_none hans hp).symm upd_same
    | some x =>
      rw [e] at ht q
      obtain ⟨a, rfl, ha⟩ := ht
      refine iteF ?_
      obtain ⟨lk, lf⟩ := hok.tl x e
      refine ⟨_, rfl, _, (s_seen h1 _).mpr rfl, _, rfl, _, (s_tick h1 _).mpr rfl, _, rfl, _, (s_told h1 _).mpr rfl, _, rfl, tk, a, s.tick, x, t, rfl, h2, ha, hok.tk, lk, _, _, rfl, (by show 2 ≤ sizeLine; decide), fun p hp => ?_⟩
      rw [max_is, Sm.first_max hok.tk lk lf]
      exact q _ p (hst.mono (Same.fresh hp)) (But.of (Same.fresh hp)) (ne_of_none hans hp).symm upd_same
def flatR (rs : List Ra56.Ref) : List Int := rs.flatMap fun r => [(r.at_ : Int), r.time, (r.off : Int)]
theorem flatR_snoc (rs : List Ra56.Ref) (r : Ra56.Ref) : flatR (rs ++ [r]) = flatR rs ++ [(r.at_ : Int), r.time, (r.off : Int)] := by
  unfold flatR
  rw [List.flatMap_append]
  rfl
abbrev s_Station_refs : Stmt := inClass (top 47) 8
theorem sc_Station_refs : FnScope ["self", "answer", "reference"] ["self"] (defScope s_Station_refs) := ⟨rfl, rfl, rfl, by decide +kernel, rfl, by decide +kernel, by decide +kernel⟩
theorem ok_refs (T : Txt K mg) (C : StC K cS) (F : Fun K "refs" "Station.refs" s_Station_refs f fd) : FnOk P w K mg base CX0 1 f fd ["self"] (spBare K cS cT cR cD .refs) := by
  refine F.ok sc_Station_refs (fun vs H Q E h => ?_) (fun cdv A outer s0 H vs Q E hr h => ?_)
  · obtain ⟨ans, st, s, rfl, _⟩ := h
    rfl
  · obtain ⟨ans, st, s, rfl, hst, hok, ⟨xs, hans⟩, q⟩ := h
    obtain ⟨tk, l, m, tv, h1, h2, h3, h4, h5, h6, h7⟩ := hst.ex
    rw [Sm.step_refs] at q
    refine ⟨_, (pss_cons (ps_set (i := 1) sc_Station_refs.nd rfl (Or.inl rfl) (pe_lst (pa_cons (pe_callB call_len_seq (by rfl) T.b_len PySem.boot_len (pa_cons (pe_fldR (pv 0) rfl) pa_nil)) pa_nil)))
      (pss_cons (ps_for PassesOwn.never rfl (pi_list (pe_fldR (pv 0) rfl)) (pg_name (i := 2) sc_Station_refs.nd rfl (Or.inl rfl)) (pss_one (ps_expr (pe_bm PySem.F.plainAttrs_list PySem.F.slot_list_extend PySem.F.type_list_extend mt_extend (pv 1) (pa_cons (pe_lst (pa_cons (pe_fldR (pv 2) rfl) (pa_cons (pe_fldR (pv 2) rfl) (pa_cons (pe_fldR (pv 2) rfl) pa_nil)))) pa_nil)))))
      (pss_one (ps_ret (pv 1))))), ?_⟩
    obtain ⟨as, hl, hrs⟩ := h3
    have hal := hrs.length
    -- answer = [len(self.kept)]
    refine ⟨_, rfl, _, (s_kept h1 _).mpr rfl, l, _, rfl, .inl (SqL.of hl), (by show 1 ≤ sizeLine; decide), fun p hp => ?_⟩
    have eln : V.int (((as.map V.ref).length : Nat) : Int) = V.int ((s.refs.length : Nat) : Int) := by rw [List.length_map, hal]
    rw [eln]
    have s1 := Same.fresh (o := .lst [V.int ((s.refs.length : Nat) : Int)]) hp
    have e1 : upd H p (.lst [V.int ((s.refs.length : Nat) : Int)]) p = some (.lst [V.int ((s.refs.length : Nat) : Int)]) := upd_same
    generalize upd H p (.lst [V.int ((s.refs.length : Nat) : Int)]) = H1 at s1 e1 ⊢
    have i1 := h1.mono s1
    -- for reference in self.kept
    refine ⟨_, rfl, _, (s_kept i1 _).mpr rfl, l, rfl, ⟨_, SqL.of (s1 _ _ hl)⟩, ?_⟩
    refine for_list (K := K) (a := l) (xs := as.map V.ref) (fun i σ H' => (∃ v, σ = [some (.ref st), some (.ref p), v]) ∧ Same H H' ∧ H' p = some (.lst ((((s.refs.length : Nat) : Int) :: flatR (s.refs.take i)).map V.int))) ⟨⟨none, rfl⟩, s1, e1⟩ (fun i σ H' _ h => SqL.of (h.2.1 _ _ hl)) (fun i x σ H' hx h => ?_) (fun σ H' h => ?_)
    · obtain ⟨⟨v, rfl⟩, sm, hp'⟩ := h
      obtain ⟨a, ha, rfl⟩ : ∃ a, as[i]? = some a ∧ x = V.ref a := by
        rw [List.getElem?_map] at hx
        cases e : as[i]? with
        | none => rw [e] at hx; cases hx
        | some a => rw [e] at hx; exact ⟨a, rfl, (Option.some.inj hx).symm⟩
      obtain ⟨r, hr', hra⟩ := hrs.get ha
      have ra := hra.mono sm
      -- answer.extend([reference.counter, reference.time, reference.off])
      refine ⟨_, rfl, .inl ⟨rfl, _, SqL.of hp'⟩, _, rfl, _, (r_counter ra _).mpr rfl, _, rfl, _, (r_time ra _).mpr rfl, _, rfl, _, (r_off ra _).mpr rfl, (by show 3 ≤ sizeLine; decide), fun b hb => ?_⟩
      have s2 := Same.fresh (o := .lst [V.int r.at_, V.int r.time, V.int r.off]) hb
      have e2 : upd H' b (.lst [V.int r.at_, V.int r.time, V.int r.off]) b = some (.lst [V.int r.at_, V.int r.time, V.int r.off]) := upd_same
      generalize upd H' b (.lst [V.int r.at_, V.int r.time, V.int r.off]) = H2 at s2 e2 ⊢
      refine ⟨p, b, _, _, rfl, rfl, s2 _ _ hp', e2, ?_, ⟨_, rfl⟩, Same.over hp (sm.trans s2), ?_⟩
      · rw [List.length_map, List.length_cons]
        have z : (flatR (s.refs.take i)).length ≤ 48 := by
          unfold flatR
          rw [Sm.flat_len, List.length_take]
          have := hok.rl
          omega
        exact Nat.le_trans (show (flatR (s.refs.take i)).length + 1 + 3 ≤ 52 by omega) (by decide)
      · rw [upd_same, take_snoc hr', flatR_snoc, ← List.cons_append, List.map_append]
        rfl
    · obtain ⟨⟨v, rfl⟩, sm, hp'⟩ := h
      rw [List.length_map, hal, List.take_length] at hp'
      refine ⟨_, rfl, ?_⟩
      exact q H' p (hst.mono sm) (But.of sm) (ne_of_none hans hp).symm hp'
abbrev s_Station_counts : Stmt := inClass (top 47) 9
theorem sc_Station_counts : FnScope ["self"] ["self"] (defScope s_Station_counts) := ⟨rfl, rfl, rfl, by decide +kernel, rfl, by decide +kernel, by decide +kernel⟩
theorem ok_counts (T : Txt K mg) (C : StC K cS) (F : Fun K "counts" "Station.counts" s_Station_counts f fd) : FnOk P w K mg base CX0 1 f fd ["self"] (spBare K cS cT cR cD .count) := by
  refine F.ok sc_Station_counts (fun vs H Q E h => ?_) (fun cdv A outer s0 H vs Q E hr h => ?_)
  · obtain ⟨ans, st, s, rfl, _⟩ := h
    rfl
  · obtain ⟨ans, st, s, rfl, hst, hok, ⟨xs, hans⟩, q⟩ := h
    obtain ⟨tk, l, m, tv, h1, h2, h3, h4, h5, h6, h7⟩ := hst.ex
    rw [Sm.step_count] at q
    refine ⟨_, (pss_one (ps_ret (pe_lst (pa_cons pe_int (pa_cons (pe_fldR (pv 0) rfl) (pa_cons (pe_fldR (pv 0) rfl) (pa_cons (pe_fldR (pv 0) rfl) (pa_cons (pe_callB call_len_seq (by rfl) T.b_len PySem.boot_len (pa_cons (pe_fldR (pv 0) rfl) pa_nil)) (pa_cons (pe_fldR (pv 0) rfl) pa_nil))))))))), ?_⟩
    obtain ⟨ms, hm, hms⟩ := h4
    have hml := hms.length
    refine ⟨_, rfl, _, (s_times_taken h1 _).mpr rfl, _, rfl, _, (s_times_doubted h1 _).mpr rfl, _, rfl, _, (s_times_believed h1 _).mpr rfl, _, rfl, _, (s_doubted h1 _).mpr rfl, m, _, rfl, .inl (SqL.of hm), _, rfl, _, (s_seen h1 _).mpr rfl, (by show 6 ≤ sizeLine; decide), fun p hp => ?_⟩
    rw [List.length_map, hml]
    exact q _ p (hst.mono (Same.fresh hp)) (But.of (Same.fresh hp)) (ne_of_none hans hp).symm upd_same
end
end Sc

end
section
set_option Elab.async false
set_option linter.all false
set_option maxRecDepth 100000
set_option maxHeartbeats 2000000
namespace Sc
open PySem PySem.Spec PyProof.Rows L2
section
variable {P : Program} {w : World} {K : PySem.W.Frag} {mg : Str → Option Value} {base : Heap} {f cT cR cD cS : Addr} {fd : FuncData}
def spNewSt (cS : Addr) : Sp := fun vs H Q _ => ∃ (p dx : Addr), vs = [.ref p] ∧ H p = some (.ins cS dx []) ∧ ∀ H' l m, (∃ dx, H' p = some (.ins cS dx (stF .non (.int 0) (.ref l) (.ref m) .non (.int 0) (.int 0) (.int 0)))) → But p H H' → Q .non H'
abbrev s_Station___init__ : Stmt := inClass (top 47) 0
theorem sc_Station___init__ : FnScope ["self"] ["self"] (defScope s_Station___init__) := ⟨rfl, rfl, rfl, by decide +kernel, rfl, by decide +kernel, by decide +kernel⟩
theorem ok_Station (C : StC K cS) (F : Fun K "__init__" "Station.__init__" s_Station___init__ f fd) (m_start_with : MtG P w K mg base cS "start_with" 1 ["self", "tick"] (spStart cS)) : FnOk P w K mg base CX0 2 f fd ["self"] (spNewSt cS) := by
  refine F.ok sc_Station___init__ (fun vs H Q E h => ?_) (fun cdv A outer s H vs Q E hr h => ?_)
  · obtain ⟨p, dx, rfl, _⟩ := h
    rfl
  · obtain ⟨p, dx, rfl, hp, k⟩ := h
    refine ⟨_, (pss_one (ps_expr (pe_mt m_start_with C.cl (pv 0) (hr.mono (by decide)) (pa_cons pe_non pa_nil)))), ?_⟩
    exact ⟨_, rfl, p, dx, _, rfl, hp, rfl, p, .non, dx, [], rfl, hp, (by show 0 < 900; decide), fun _ _ => rfl, fun H' l m e _ _ _ _ b => k H' l m e b⟩
/-- a call and its numbers, at any state -/
def spTo (K : PySem.W.Frag) (cS cT cR cD : Addr) : Sp := fun vs H Q _ => ∃ (ans st l : Addr) (o : Option Ra56.Clock) (p : Int) (ns : List Int), vs = [.ref st, .int p, .ref l] ∧ StO K cS cT cR cD ans H st o ∧ (∀ s, o = some s → Sm.COk s) ∧ H l = some (.lst (ns.map V.int)) ∧ Ra56Neutral.asked1 [p :: ns] = true ∧
  (∃ xs, H ans = some (.lst xs)) ∧ ∀ H' q, StO K cS cT cR cD ans H' st (Ra56Neutral.step o [p :: ns]).1 → But st H H' → q ≠ ans → H' q = some (.lst ((Ra56Neutral.step o [p :: ns]).2.map V.int)) → Q (.ref q) H'
abbrev s_answer_to : Stmt := top 48
theorem sc_answer_to : FnScope ["station", "call", "numbers"] ["station", "call", "numbers"] (defScope s_answer_to) := ⟨rfl, rfl, rfl, by decide +kernel, rfl, by decide +kernel, by decide +kernel⟩
theorem ok_answer_to (T : Txt K mg) (C : StC K cS) (F : Fun K "answer_to" "answer_to" s_answer_to f fd) (m_begin : MtG P w K mg base cS "begin" 3 ["self", "num", "den", "ppm"] (spBegin K cS cT cR cD)) (m_refer : MtG P w K mg base cS "refer" 6 ["self", "c", "t", "u"] (spRefer K cS cT cR cD))
    (m_now : MtG P w K mg base cS "now" 4 ["self", "c"] (spNow K cS cT cR cD)) (m_look : MtG P w K mg base cS "look" 4 ["self", "c"] (spLook K cS cT cR cD))
    (m_rate : MtG P w K mg base cS "rate" 4 ["self"] (spBare K cS cT cR cD .rate)) (m_when : MtG P w K mg base cS "when" 4 ["self", "t"] (spWhen K cS cT cR cD)) (m_refs : MtG P w K mg base cS "refs" 1 ["self"] (spBare K cS cT cR cD .refs)) (m_counts : MtG P w K mg base cS "counts" 1 ["self"] (spBare K cS cT cR cD .count)) : FnOk P w K mg base CX0 7 f fd ["station", "call", "numbers"] (spTo K cS cT cR cD) := by
  refine F.ok sc_answer_to (fun vs H Q E h => ?_) (fun cdv A outer s0 H vs Q E hr h => ?_)
  · obtain ⟨ans, st, l, o, p, ns, rfl, _⟩ := h
    rfl
  · obtain ⟨ans, st, l, o, p, ns, rfl, hst, hok, hl, hask, hans, q⟩ := h
    obtain ⟨v1, v2, v3, v4, v5, v6, v7, v8, h1⟩ := hst.ins
    obtain ⟨dx, hx⟩ := h1.at_
    refine ⟨_, (pss_cons (ps_if (pt_cmpR op_eq (pv 1) (pe_gint rfl T.i_BEGIN) (nomark _)) (pss_one (ps_ret (pe_mt m_begin C.cl (pv 0) (hr.mono (by decide)) (pa_cons (pe_ix ix_list (pv 2) pe_int (fun _ _ => rfl)) (pa_cons (pe_ix ix_list (pv 2) pe_int (fun _ _ => rfl)) (pa_cons (pe_ix ix_list (pv 2) pe_int (fun _ _ => rfl)) pa_nil)))))) pss_nil)
      (pss_cons (ps_if (pt_cmp (pc_isN (pe_fldR (pv 0) rfl))) (pss_one (ps_ret (pe_lst (pa_cons (pe_gint rfl T.i_OUT_OF_TURN) pa_nil)))) pss_nil)
      (pss_cons (ps_if (pt_cmpR op_eq (pv 1) (pe_gint rfl T.i_REFER) (nomark _)) (pss_one (ps_ret (pe_mt m_refer C.cl (pv 0) (hr.mono (by decide)) (pa_cons (pe_ix ix_list (pv 2) pe_int (fun _ _ => rfl)) (pa_cons (pe_ix ix_list (pv 2) pe_int (fun _ _ => rfl)) (pa_cons (pe_ix ix_list (pv 2) pe_int (fun _ _ => rfl)) pa_nil)))))) pss_nil)
      (pss_cons (ps_if (pt_cmpR op_eq (pv 1) (pe_gint rfl T.i_NOW) (nomark _)) (pss_one (ps_ret (pe_mt m_now C.cl (pv 0) (hr.mono (by decide)) (pa_cons (pe_ix ix_list (pv 2) pe_int (fun _ _ => rfl)) pa_nil)))) pss_nil)
      (pss_cons (ps_if (pt_cmpR op_eq (pv 1) (pe_gint rfl T.i_LOOK) (nomark _)) (pss_one (ps_ret (pe_mt m_look C.cl (pv 0) (hr.mono (by decide)) (pa_cons (pe_ix ix_list (pv 2) pe_int (fun _ _ => rfl)) pa_nil)))) pss_nil)
      (pss_cons (ps_if (pt_cmpR op_eq (pv 1) (pe_gint rfl T.i_RATE) (nomark _)) (pss_one (ps_ret (pe_mt0 m_rate C.cl (pv 0) (hr.mono (by decide)) ))) pss_nil)
      (pss_cons (ps_if (pt_cmpR op_eq (pv 1) (pe_gint rfl T.i_WHEN) (nomark _)) (pss_one (ps_ret (pe_mt m_when C.cl (pv 0) (hr.mono (by decide)) (pa_cons (pe_ix ix_list (pv 2) pe_int (fun _ _ => rfl)) pa_nil)))) pss_nil)
      (pss_cons (ps_if (pt_cmpR op_eq (pv 1) (pe_gint rfl T.i_REFS) (nomark _)) (pss_one (ps_ret (pe_mt0 m_refs C.cl (pv 0) (hr.mono (by decide)) ))) pss_nil)
      (pss_one (ps_ret (pe_mt0 m_counts C.cl (pv 0) (hr.mono (by decide)) ))))))))))), ?_⟩
    refine ⟨_, rfl, rfl, _, rfl, ?_⟩
    by_cases hp0 : p = 0
    · -- begin
      subst hp0
      obtain ⟨a, b, c, rfl⟩ := Sm.asked_0 hask
      rw [Sm.n_begin] at q
      refine iteT ?_
      exact ⟨_, rfl, st, dx, _, rfl, hx, rfl, _, rfl, l, _, _, _, rfl, rfl, SqL.of hl, atI_nat (j := 0) rfl, _, rfl, l, _, _, _, rfl, rfl, SqL.of hl, atI_nat (j := 1) rfl, _, rfl, l, _, _, _, rfl, rfl, SqL.of hl, atI_nat (j := 2) rfl, ans, st, o, a, b, c, rfl, hst, hans, q⟩
    have hpn : ¬ V.int p = V.int 0 := fun z => hp0 (V.int.inj z)
    rw [decide_eq_false hpn]
    refine iteF ?_
    refine ⟨_, rfl, _, (s_tick h1 _).mpr rfl, _, rfl, ?_⟩
    cases o with
    | none =>
      rw [Sm.nstep_none hask hp0] at q
      obtain ⟨l0, m0, hn⟩ := hst
      have e := (s_tick hn v1).mp ((s_tick h1 v1).mpr rfl)
      subst e
      refine iteT ?_
      exact ⟨(by show 1 ≤ sizeLine; decide), fun p hp => q _ p ⟨l0, m0, hn.mono (Same.fresh hp)⟩ (But.of (Same.fresh hp)) (let ⟨_, ha⟩ := hans; (ne_of_none ha hp).symm) upd_same⟩
    | some s =>
    obtain ⟨tk, l0, m0, tv, hs, _⟩ := hst.ex
    have e := (s_tick hs v1).mp ((s_tick h1 v1).mpr rfl)
    subst e
    refine iteF ?_
    rcases Sm.asked_cases hask with ⟨a, b, c, rfl, rfl⟩ | ⟨a, t, u, rfl, rfl⟩ | ⟨a, rfl, rfl⟩ | ⟨a, rfl, rfl⟩ | ⟨rfl, rfl⟩ | ⟨t, rfl, rfl⟩ | ⟨rfl, rfl⟩ | ⟨rfl, rfl⟩
    · exact absurd rfl hp0
    · -- refer
      rw [Sm.n_refer] at q
      refine ⟨_, rfl, rfl, _, rfl, ?_⟩
      refine iteT ?_
      exact ⟨_, rfl, st, dx, _, rfl, hx, rfl, _, rfl, l, _, _, _, rfl, rfl, SqL.of hl, atI_nat (j := 0) rfl, _, rfl, l, _, _, _, rfl, rfl, SqL.of hl, atI_nat (j := 1) rfl, _, rfl, l, _, _, _, rfl, rfl, SqL.of hl, atI_nat (j := 2) rfl, ans, st, s, a, t, u, rfl, hst, hok s rfl, hans, q⟩
    · -- now
      rw [Sm.n_now] at q
      refine ⟨_, rfl, rfl, _, rfl, iteF ?_⟩
      refine ⟨_, rfl, rfl, _, rfl, iteT ?_⟩
      exact ⟨_, rfl, st, dx, _, rfl, hx, rfl, _, rfl, l, _, _, _, rfl, rfl, SqL.of hl, atI_nat (j := 0) rfl, ans, st, s, a, rfl, hst, hok s rfl, hans, q⟩
    · -- look
      rw [Sm.n_look] at q
      refine ⟨_, rfl, rfl, _, rfl, iteF ?_⟩
      refine ⟨_, rfl, rfl, _, rfl, iteF ?_⟩
      refine ⟨_, rfl, rfl, _, rfl, iteT ?_⟩
      exact ⟨_, rfl, st, dx, _, rfl, hx, rfl, _, rfl, l, _, _, _, rfl, rfl, SqL.of hl, atI_nat (j := 0) rfl, ans, st, s, a, rfl, hst, hok s rfl, hans, q⟩
    · -- rate
      rw [Sm.n_rate] at q
      refine ⟨_, rfl, rfl, _, rfl, iteF ?_⟩
      refine ⟨_, rfl, rfl, _, rfl, iteF ?_⟩
      refine ⟨_, rfl, rfl, _, rfl, iteF ?_⟩
      refine ⟨_, rfl, rfl, _, rfl, iteT ?_⟩
      exact ⟨_, rfl, st, dx, _, rfl, hx, rfl, ans, st, s, rfl, hst, hok s rfl, hans, q⟩
    · -- when
      rw [Sm.n_when] at q
      refine ⟨_, rfl, rfl, _, rfl, iteF ?_⟩
      refine ⟨_, rfl, rfl, _, rfl, iteF ?_⟩
      refine ⟨_, rfl, rfl, _, rfl, iteF ?_⟩
      refine ⟨_, rfl, rfl, _, rfl, iteF ?_⟩
      refine ⟨_, rfl, rfl, _, rfl, iteT ?_⟩
      exact ⟨_, rfl, st, dx, _, rfl, hx, rfl, _, rfl, l, _, _, _, rfl, rfl, SqL.of hl, atI_nat (j := 0) rfl, ans, st, s, t, rfl, hst, hok s rfl, hans, q⟩
    · -- refs
      rw [Sm.n_refs] at q
      refine ⟨_, rfl, rfl, _, rfl, iteF ?_⟩
      refine ⟨_, rfl, rfl, _, rfl, iteF ?_⟩
      refine ⟨_, rfl, rfl, _, rfl, iteF ?_⟩
      refine ⟨_, rfl, rfl, _, rfl, iteF ?_⟩
      refine ⟨_, rfl, rfl, _, rfl, iteF ?_⟩
      refine ⟨_, rfl, rfl, _, rfl, iteT ?_⟩
      exact ⟨_, rfl, st, dx, _, rfl, hx, rfl, ans, st, s, rfl, hst, hok s rfl, hans, q⟩
    · -- count
      rw [Sm.n_count] at q
      refine ⟨_, rfl, rfl, _, rfl, iteF ?_⟩
      refine ⟨_, rfl, rfl, _, rfl, iteF ?_⟩
      refine ⟨_, rfl, rfl, _, rfl, iteF ?_⟩
      refine ⟨_, rfl, rfl, _, rfl, iteF ?_⟩
      refine ⟨_, rfl, rfl, _, rfl, iteF ?_⟩
      refine ⟨_, rfl, rfl, _, rfl, iteF ?_⟩
      exact ⟨_, rfl, st, dx, _, rfl, hx, rfl, ans, st, s, rfl, hst, hok s rfl, hans, q⟩
end
end Sc

end
section
set_option Elab.async false
set_option linter.all false
set_option maxRecDepth 100000
set_option maxHeartbeats 2000000
namespace Sc
open PySem PySem.Spec PyProof.Rows L2
section
variable {P : Program} {w : World} {K : PySem.W.Frag} {mg : Str → Option Value} {base : Heap} {f cT cR cD cS dN : Addr} {fd : FuncData}
def MOSTC : Int := 7
/-- how many numbers stand behind a call's number, as the module's dict has them -/
def fNum (k : Int) : Option V := if 0 ≤ k ∧ k ≤ MOSTC then some (.int (Sm.nums k)) else none
def spAns (K : PySem.W.Frag) : Sp := fun vs H Q _ => ∃ (a : Addr) (ns : List Int), vs = [.ref a] ∧ SqL K H a (ns.map V.int) ∧ PyRa56.answers_asked ns = true ∧
  ∀ (H' : Hp) (p : Addr), H' p = some (.lst ((PyRa56.answers ns).map V.int)) → Q (.ref p) H'
theorem cut_mid (xs : List V) (i n : Nat) (h : i + n ≤ xs.length) : cutV xs (some ((i : Nat) : Int)) (some ((i + n : Nat) : Int)) = (xs.drop i).take n := by
  unfold cutV
  rw [HT.sIx_nat, HT.sIx_nat]
  have e1 : min i xs.length = i := by omega
  have e2 : min (i + n) xs.length = i + n := by omega
  rw [e1, e2]
  have e3 : i + n - i = n := by omega
  rw [e3]
theorem seq_of {H H' : Hp} {a : Addr} {xs : List V} (hS : SqL K H a xs) (h : ∀ u, H a = some u → H' a = some u) : SqL K H' a xs := by
  rcases hS with (e | ⟨o, e⟩) | e
  · exact .inl (.inl (h _ e))
  · exact .inl (.inr ⟨o, h _ e⟩)
  · exact .inr e
abbrev s_answers : Stmt := top 49
theorem sc_answers : FnScope ["calls", "station", "answered", "place", "call", "behind", "answer"] ["calls"] (defScope s_answers) := ⟨rfl, rfl, rfl, by decide +kernel, rfl, by decide +kernel, by decide +kernel⟩
theorem ok_answers (T : Txt K mg) (C : StC K cS) (F : Fun K "answers" "answers" s_answers f fd) (c_Station : MkG P w K mg base "Station" cS 2 ["self"] (spNewSt cS)) (f_answer_to : FnG P w K mg base "answer_to" 7 ["station", "call", "numbers"] (spTo K cS cT cR cD))
    (g_NUMBERS_OF_CALL : mg "NUMBERS_OF_CALL" = some (.ref dN)) (d_NUMBERS_OF_CALL : MDict K dN fNum) : FnOk P w K mg base CX0 8 f fd ["calls"] (spAns K) := by
  refine F.ok sc_answers (fun vs H Q E h => ?_) (fun cdv A outer s0 H vs Q E hr h => ?_)
  · obtain ⟨a, ns, rfl, _⟩ := h
    rfl
  · obtain ⟨a, ns, rfl, hS, hask, q⟩ := h
    obtain ⟨cs0, hr0, hn0, ha0, eq0⟩ := Sm.answers_of hask
    refine ⟨_, (pss_cons (ps_set (i := 1) sc_answers.nd rfl (Or.inl rfl) (pe_mk0 c_Station (hr.mono (by decide)) rfl))
      (pss_cons (ps_set (i := 2) sc_answers.nd rfl (Or.inl rfl) (pe_lst pa_nil))
      (pss_cons (ps_set (i := 3) sc_answers.nd rfl (Or.inl rfl) pe_int)
      (pss_cons (ps_while PassesOwn.never (pt_cmpR op_lt (pv 3) (pe_callB call_len_seq (by rfl) T.b_len PySem.boot_len (pa_cons (pv 0) pa_nil)) (nomark _)) (pss_cons (ps_set (i := 4) sc_answers.nd rfl (Or.inl rfl) (pe_ix ix_list (pv 0) (pv 3) (fun _ _ => rfl)))
      (pss_cons (ps_set (i := 5) sc_answers.nd rfl (Or.inl rfl) (pe_op op_add (pe_op op_add (pv 3) pe_int) (pe_mdict rfl g_NUMBERS_OF_CALL d_NUMBERS_OF_CALL (pv 4) (fun _ _ => rfl))))
      (pss_cons (ps_set (i := 6) sc_answers.nd rfl (Or.inl rfl) (pe_fn f_answer_to (hr.mono (by decide)) rfl (pa_cons (pv 1) (pa_cons (pv 4) (pa_cons (pe_slice sl_list (pv 0) (po_some (pe_op op_add (pv 3) pe_int)) (po_some (pv 5))) pa_nil)))))
      (pss_cons (ps_expr (pe_bm PySem.F.plainAttrs_list PySem.F.slot_list_append PySem.F.type_list_append mt_append (pv 2) (pa_cons (pe_callB call_len_seq (by rfl) T.b_len PySem.boot_len (pa_cons (pv 6) pa_nil)) pa_nil)))
      (pss_cons (ps_expr (pe_bm PySem.F.plainAttrs_list PySem.F.slot_list_extend PySem.F.type_list_extend mt_extend (pv 2) (pa_cons (pv 6) pa_nil)))
      (pss_one (ps_set (i := 3) sc_answers.nd rfl (Or.inl rfl) (pv 5)))))))))
      (pss_one (ps_ret (pv 2))))))), ?_⟩
    -- station = Station()
    intro st dx n1 n2 ne
    refine ⟨st, dx, rfl, upd_same, fun H1 l m hs hb => ⟨rfl, ?_⟩⟩
    have s1 := But.made n1 n2 hb
    have st1 : StN K cS H1 st := ⟨l, m, C.ins hs⟩
    -- answered = []
    refine ⟨Nat.zero_le _, fun p hp => ?_⟩
    have s2 := Same.fresh (o := .lst []) hp
    have p2 : upd H1 p (.lst []) p = some (.lst []) := upd_same
    generalize upd H1 p (.lst []) = H2 at s2 p2 ⊢
    have S2 := s1.trans s2
    -- place = 0; while place < len(calls)
    refine ⟨fun mm σ H' => ∃ (i : Nat) (v4 v5 v6 : Option V) (o : Option Ra56.Clock) (cs : List (List (List Int))) (acc : List Int), mm = ns.length - i ∧ σ = [some (.ref a), some (.ref st), some (.ref p), some (.int i), v4, v5, v6] ∧ i ≤ ns.length ∧
      (∀ u, H a = some u → H' a = some u) ∧ StO K cS cT cR cD p H' st o ∧ (∀ s, o = some s → Sm.COk s) ∧ Sm.Reads (ns.drop i) cs ∧ (∀ c ∈ cs, Ra56Neutral.asked1 c = true) ∧ H' p = some (.lst (acc.map V.int)) ∧ acc.length + 50 * cs.length ≤ 100000 ∧
      acc ++ PyFlat.told (PyFlat.played Ra56Neutral.step o cs) = PyRa56.answers ns, ⟨_, 0, none, none, none, none, cs0, [], rfl, rfl, Nat.zero_le _, fun u e => S2 _ _ e, ?_, ?_, hr0, ha0, p2, ?_, ?_⟩, ?_⟩
    · obtain ⟨l, m, h⟩ := st1
      exact ⟨l, m, h.mono s2⟩
    · intro s e
      cases e
    · show 0 + 50 * cs0.length ≤ 100000
      omega
    · rw [eq0]
      rfl
    rintro mm σ H' ⟨i, v4, v5, v6, o, cs, acc, rfl, rfl, hi, hH, hst, hok, hrd, hasked, hp', hlen, hacc⟩
    have hS' := seq_of hS hH
    refine ⟨_, rfl, _, rfl, a, _, rfl, .inl hS', _, _, rfl, rfl, _, rfl, ?_⟩
    by_cases hlt : i < ns.length
    rotate_left
    · -- return answered
      have z : ¬ ((i : Int) < (((ns.map V.int).length : Nat) : Int)) := by rw [List.length_map]; omega
      rw [decide_eq_false z]
      refine iteF ?_
      have ei : i = ns.length := by omega
      rw [ei, List.drop_length] at hrd
      have ec := hrd.nil
      subst ec
      have e : acc = PyRa56.answers ns := by
        rw [← hacc]
        show acc = acc ++ []
        rw [List.append_nil]
      refine ⟨_, rfl, ?_⟩
      rw [e] at hp'
      exact q H' p hp'
    · have z : ((i : Int) < (((ns.map V.int).length : Nat) : Int)) := by rw [List.length_map]; omega
      rw [decide_eq_true z]
      refine iteT ?_
      refine ⟨_, fun σ' H'' h => h, ?_⟩
      obtain ⟨x, hxi⟩ : ∃ x, ns[i]? = some x := ⟨_, List.getElem?_eq_getElem hlt⟩
      have hdrop : ns.drop i = x :: ns.drop (i + 1) := by
        have e := List.drop_eq_getElem_cons hlt
        rw [List.getElem?_eq_getElem hlt] at hxi
        rw [e, Option.some.inj hxi]
      rw [hdrop] at hrd
      obtain ⟨cs', ecs, hnl, hrd', hx0, hx7⟩ := hrd.cons
      subst ecs
      have hfx : fNum x = some (.int (Sm.nums x)) := by
        unfold fNum
        rw [if_pos ⟨hx0, hx7⟩]
      rw [List.length_drop] at hnl
      have hcl : (ns.map V.int)[i]? = some (V.int x) := by rw [List.getElem?_map, hxi]; rfl
      have hask1 := hasked _ List.mem_cons_self
      -- call = calls[place]
      refine ⟨_, rfl, _, rfl, a, _, _, _, rfl, rfl, hS', atI_nat hcl, ?_⟩
      -- behind = place + 1 + NUMBERS_OF_CALL[call]
      refine ⟨_, rfl, _, _, rfl, rfl, _, rfl, x, _, rfl, hfx, _, _, rfl, rfl, ?_⟩
      -- answer = answer_to(station, call, calls[place + 1:behind])
      refine ⟨_, rfl, _, rfl, _, rfl, _, rfl, _, _, rfl, rfl, _, rfl, _, rfl, _, rfl, a, _, rfl, hS', fun l3 hl3 => ?_⟩
      have ecut : cutV (ns.map V.int) (some ((i : Int) + 1)) (some ((i : Int) + 1 + (Sm.nums x : Int))) = ((ns.drop (i + 1)).take (Sm.nums x)).map V.int := by
        have e1 : (i : Int) + 1 = ((i + 1 : Nat) : Int) := by omega
        have e2 : ((i + 1 : Nat) : Int) + (Sm.nums x : Int) = ((i + 1 + Sm.nums x : Nat) : Int) := by omega
        rw [e1, e2, cut_mid _ _ _ (by rw [List.length_map]; omega), List.map_take, List.map_drop]
      rw [ecut]
      have s3 := Same.fresh (o := .lst (((ns.drop (i + 1)).take (Sm.nums x)).map V.int)) hl3
      have e3 : upd H' l3 (.lst (((ns.drop (i + 1)).take (Sm.nums x)).map V.int)) l3 = some (.lst (((ns.drop (i + 1)).take (Sm.nums x)).map V.int)) := upd_same
      generalize upd H' l3 (.lst (((ns.drop (i + 1)).take (Sm.nums x)).map V.int)) = H3 at s3 e3 ⊢
      refine ⟨p, st, l3, o, x, _, rfl, hst.mono s3, hok, e3, hask1, ⟨_, s3 _ _ hp'⟩, fun H4 r ho4 b4 hr4 hq4 => ?_⟩
      have pst : p ≠ st := by
        obtain ⟨_, _, _, _, _, _, _, _, hi3⟩ := hst.ins
        exact off_st hi3 hp'
      have p4 := b4 _ _ (s3 _ _ hp') pst
      obtain ⟨hok4, hlen4⟩ := Sm.nstep_ok hok hask1
      rw [Sm.played_cons, ← List.append_assoc] at hacc
      generalize (Ra56Neutral.step o [x :: (ns.drop (i + 1)).take (Sm.nums x)]).1 = o4 at ho4 hok4 hacc
      generalize (Ra56Neutral.step o [x :: (ns.drop (i + 1)).take (Sm.nums x)]).2 = an at hq4 hlen4 hacc
      have hlc : acc.length + 50 * cs'.length + 50 ≤ 100000 := by
        rw [List.length_cons] at hlen
        omega
      -- answered.append(len(answer))
      refine ⟨_, rfl, .inl ⟨rfl, _, SqL.of p4⟩, _, rfl, r, _, rfl, .inl (SqL.of hq4), p, _, _, rfl, rfl, p4, ?_, ?_⟩
      · rw [List.length_map]
        exact Nat.lt_of_lt_of_le (show acc.length < 100001 by omega) (by decide)
      have b5 : But p H4 (upd H4 p (.lst (acc.map V.int ++ [V.int ((an.map V.int).length : Nat)]))) := fun b o e hb => by rw [upd_ne hb]; exact e
      have e5 : (upd H4 p (.lst (acc.map V.int ++ [V.int ((an.map V.int).length : Nat)]))) p = some (.lst (acc.map V.int ++ [V.int ((an.map V.int).length : Nat)])) := upd_same
      generalize (upd H4 p (.lst (acc.map V.int ++ [V.int ((an.map V.int).length : Nat)]))) = H5 at b5 e5 ⊢
      have q5 := b5 _ _ hq4 hr4
      have ho5 := ho4.ans p4 b5
      -- answered.extend(answer)
      refine ⟨_, rfl, .inl ⟨rfl, _, SqL.of e5⟩, _, rfl, p, r, _, _, rfl, rfl, e5, q5, ?_, ?_⟩
      · rw [List.length_append, List.length_map, List.length_map, List.length_singleton]
        exact Nat.le_trans (show acc.length + 1 + an.length ≤ 100001 by omega) (by decide)
      have b6 : But p H5 (upd H5 p (.lst (acc.map V.int ++ [V.int ((an.map V.int).length : Nat)] ++ an.map V.int))) := fun b o e hb => by rw [upd_ne hb]; exact e
      have e6 : (upd H5 p (.lst (acc.map V.int ++ [V.int ((an.map V.int).length : Nat)] ++ an.map V.int))) p = some (.lst (acc.map V.int ++ [V.int ((an.map V.int).length : Nat)] ++ an.map V.int)) := upd_same
      generalize (upd H5 p (.lst (acc.map V.int ++ [V.int ((an.map V.int).length : Nat)] ++ an.map V.int))) = H6 at b6 e6 ⊢
      have ho6 := ho5.ans e5 b6
      -- place = behind
      refine ⟨_, rfl, ns.length - (i + 1 + Sm.nums x), by omega, i + 1 + Sm.nums x, some (.int x), some (.int ((i : Int) + 1 + (Sm.nums x : Int))), some (.ref r), o4, cs', acc ++ ((an.length : Int) :: an), rfl, ?_, by omega, ?_, ho6, hok4, ?_, fun c hc => hasked c (List.mem_cons_of_mem _ hc), ?_, ?_, hacc⟩
      · have e : ((i + 1 + Sm.nums x : Nat) : Int) = (i : Int) + 1 + (Sm.nums x : Int) := by omega
        rw [e]
        rfl
      · intro u e
        have np : a ≠ p := ne_of_none (s1 _ _ e) hp
        exact b6 _ _ (b5 _ _ (b4 _ _ (s3 _ _ (hH u e)) (ne_of_none e n1)) np) np
      · rw [List.drop_drop] at hrd'
        exact hrd'
      · rw [e6, List.map_append, List.map_cons, List.length_map, List.append_assoc]
        rfl
      · rw [List.length_append, List.length_cons]
        omega
end
end Sc

end
section
set_option Elab.async false
set_option linter.all false
set_option maxRecDepth 100000
set_option maxHeartbeats 4000000
namespace Sc
open PySem PySem.Spec PyProof.Rows L2
theorem all_mk {P : Program} {w : World} {K : PySem.W.Frag} {h : Heap} {mg : Str → Option Value} {fa : Addr} (X : K.In h) (G : h.Ns mainGlobals mg) (hfa : mg "answers" = some (.ref fa))
    {t_MILLION : Tok}
    {t_BILLION : Tok}
    {t_MOST_MORE : Tok}
    {t_NEARING_SECONDS : Tok}
    {t_OUT_OF_RANGE : Tok}
    {t_NOTHING_THERE : Tok}
    {t_OUT_OF_TURN : Tok}
    {t_TAKEN : Tok}
    {t_DOUBTED : Tok}
    {t_BELIEVED : Tok}
    {t_MOST_PPM : Tok}
    {t_MOST_COUNTER : Tok}
    {t_MOST_TIME : Tok}
    {t_MOST_OFF : Tok}
    {t_MOST_KEPT : Tok}
    {t_ENOUGH_TO_BELIEVE : Tok}
    {t_BEGIN : Tok}
    {t_REFER : Tok}
    {t_NOW : Tok}
    {t_LOOK : Tok}
    {t_RATE : Tok}
    {t_WHEN : Tok}
    {t_REFS : Tok}
    {d_NUMBERS_OF_CALL : Addr} {e_NUMBERS_OF_CALL : Nat} {u_NUMBERS_OF_CALL_0 w_NUMBERS_OF_CALL_0 : Tok} {u_NUMBERS_OF_CALL_1 w_NUMBERS_OF_CALL_1 : Tok} {u_NUMBERS_OF_CALL_2 w_NUMBERS_OF_CALL_2 : Tok} {u_NUMBERS_OF_CALL_3 w_NUMBERS_OF_CALL_3 : Tok} {u_NUMBERS_OF_CALL_4 w_NUMBERS_OF_CALL_4 : Tok} {u_NUMBERS_OF_CALL_5 w_NUMBERS_OF_CALL_5 : Tok} {u_NUMBERS_OF_CALL_6 w_NUMBERS_OF_CALL_6 : Tok} {u_NUMBERS_OF_CALL_7 w_NUMBERS_OF_CALL_7 : Tok}
    {cT : Addr}
    {cR : Addr}
    {cD : Addr}
    {cS : Addr}
    {f_Tick___init__ : Addr} {od_Tick___init__ an_Tick___init__ : Option Addr} {sl_Tick___init__ : Array (Option Value)} {oc_Tick___init__ kV_Tick___init__ dc_Tick___init__ pm_Tick___init__ cd_Tick___init__ ct_Tick___init__ : Value}
    {f_Reference___init__ : Addr} {od_Reference___init__ an_Reference___init__ : Option Addr} {sl_Reference___init__ : Array (Option Value)} {oc_Reference___init__ kV_Reference___init__ dc_Reference___init__ pm_Reference___init__ cd_Reference___init__ ct_Reference___init__ : Value}
    {f_Told___init__ : Addr} {od_Told___init__ an_Told___init__ : Option Addr} {sl_Told___init__ : Array (Option Value)} {oc_Told___init__ kV_Told___init__ dc_Told___init__ pm_Told___init__ cd_Told___init__ ct_Told___init__ : Value}
    {f_Station___init__ : Addr} {od_Station___init__ an_Station___init__ : Option Addr} {sl_Station___init__ : Array (Option Value)} {oc_Station___init__ kV_Station___init__ dc_Station___init__ pm_Station___init__ cd_Station___init__ ct_Station___init__ : Value}
    {f_Station_start_with : Addr} {od_Station_start_with an_Station_start_with : Option Addr} {sl_Station_start_with : Array (Option Value)} {oc_Station_start_with kV_Station_start_with dc_Station_start_with pm_Station_start_with cd_Station_start_with ct_Station_start_with : Value}
    {f_Station_begin : Addr} {od_Station_begin an_Station_begin : Option Addr} {sl_Station_begin : Array (Option Value)} {oc_Station_begin kV_Station_begin dc_Station_begin pm_Station_begin cd_Station_begin ct_Station_begin : Value}
    {f_Station_refer : Addr} {od_Station_refer an_Station_refer : Option Addr} {sl_Station_refer : Array (Option Value)} {oc_Station_refer kV_Station_refer dc_Station_refer pm_Station_refer cd_Station_refer ct_Station_refer : Value}
    {f_Station_now : Addr} {od_Station_now an_Station_now : Option Addr} {sl_Station_now : Array (Option Value)} {oc_Station_now kV_Station_now dc_Station_now pm_Station_now cd_Station_now ct_Station_now : Value}
    {f_Station_look : Addr} {od_Station_look an_Station_look : Option Addr} {sl_Station_look : Array (Option Value)} {oc_Station_look kV_Station_look dc_Station_look pm_Station_look cd_Station_look ct_Station_look : Value}
    {f_Station_rate : Addr} {od_Station_rate an_Station_rate : Option Addr} {sl_Station_rate : Array (Option Value)} {oc_Station_rate kV_Station_rate dc_Station_rate pm_Station_rate cd_Station_rate ct_Station_rate : Value}
    {f_Station_when : Addr} {od_Station_when an_Station_when : Option Addr} {sl_Station_when : Array (Option Value)} {oc_Station_when kV_Station_when dc_Station_when pm_Station_when cd_Station_when ct_Station_when : Value}
    {f_Station_refs : Addr} {od_Station_refs an_Station_refs : Option Addr} {sl_Station_refs : Array (Option Value)} {oc_Station_refs kV_Station_refs dc_Station_refs pm_Station_refs cd_Station_refs ct_Station_refs : Value}
    {f_Station_counts : Addr} {od_Station_counts an_Station_counts : Option Addr} {sl_Station_counts : Array (Option Value)} {oc_Station_counts kV_Station_counts dc_Station_counts pm_Station_counts cd_Station_counts ct_Station_counts : Value}
    {f_Station_refusal_of_counter : Addr} {od_Station_refusal_of_counter an_Station_refusal_of_counter : Option Addr} {sl_Station_refusal_of_counter : Array (Option Value)} {oc_Station_refusal_of_counter kV_Station_refusal_of_counter dc_Station_refusal_of_counter pm_Station_refusal_of_counter cd_Station_refusal_of_counter ct_Station_refusal_of_counter : Value}
    {f_Station_doubt : Addr} {od_Station_doubt an_Station_doubt : Option Addr} {sl_Station_doubt : Array (Option Value)} {oc_Station_doubt kV_Station_doubt dc_Station_doubt pm_Station_doubt cd_Station_doubt ct_Station_doubt : Value}
    {f_Station_keep : Addr} {od_Station_keep an_Station_keep : Option Addr} {sl_Station_keep : Array (Option Value)} {oc_Station_keep kV_Station_keep dc_Station_keep pm_Station_keep cd_Station_keep ct_Station_keep : Value}
    {f_quotient_up : Addr} {od_quotient_up an_quotient_up : Option Addr} {sl_quotient_up : Array (Option Value)} {oc_quotient_up kV_quotient_up dc_quotient_up pm_quotient_up cd_quotient_up ct_quotient_up : Value}
    {f_within : Addr} {od_within an_within : Option Addr} {sl_within : Array (Option Value)} {oc_within kV_within dc_within pm_within cd_within ct_within : Value}
    {f_cut_to : Addr} {od_cut_to an_cut_to : Option Addr} {sl_cut_to : Array (Option Value)} {oc_cut_to kV_cut_to dc_cut_to pm_cut_to cd_cut_to ct_cut_to : Value}
    {f_earliest_by : Addr} {od_earliest_by an_earliest_by : Option Addr} {sl_earliest_by : Array (Option Value)} {oc_earliest_by kV_earliest_by dc_earliest_by pm_earliest_by cd_earliest_by ct_earliest_by : Value}
    {f_latest_by : Addr} {od_latest_by an_latest_by : Option Addr} {sl_latest_by : Array (Option Value)} {oc_latest_by kV_latest_by dc_latest_by pm_latest_by cd_latest_by ct_latest_by : Value}
    {f_least_time : Addr} {od_least_time an_least_time : Option Addr} {sl_least_time : Array (Option Value)} {oc_least_time kV_least_time dc_least_time pm_least_time cd_least_time ct_least_time : Value}
    {f_greatest_time : Addr} {od_greatest_time an_greatest_time : Option Addr} {sl_greatest_time : Array (Option Value)} {oc_greatest_time kV_greatest_time dc_greatest_time pm_greatest_time cd_greatest_time ct_greatest_time : Value}
    {f_agrees : Addr} {od_agrees an_agrees : Option Addr} {sl_agrees : Array (Option Value)} {oc_agrees kV_agrees dc_agrees pm_agrees cd_agrees ct_agrees : Value}
    {f_least_and_greatest_rate : Addr} {od_least_and_greatest_rate an_least_and_greatest_rate : Option Addr} {sl_least_and_greatest_rate : Array (Option Value)} {oc_least_and_greatest_rate kV_least_and_greatest_rate dc_least_and_greatest_rate pm_least_and_greatest_rate cd_least_and_greatest_rate ct_least_and_greatest_rate : Value}
    {f_rate_by : Addr} {od_rate_by an_rate_by : Option Addr} {sl_rate_by : Array (Option Value)} {oc_rate_by kV_rate_by dc_rate_by pm_rate_by cd_rate_by ct_rate_by : Value}
    {f_parts_in_microsecond : Addr} {od_parts_in_microsecond an_parts_in_microsecond : Option Addr} {sl_parts_in_microsecond : Array (Option Value)} {oc_parts_in_microsecond kV_parts_in_microsecond dc_parts_in_microsecond pm_parts_in_microsecond cd_parts_in_microsecond ct_parts_in_microsecond : Value}
    {f_nearing_step : Addr} {od_nearing_step an_nearing_step : Option Addr} {sl_nearing_step : Array (Option Value)} {oc_nearing_step kV_nearing_step dc_nearing_step pm_nearing_step cd_nearing_step ct_nearing_step : Value}
    {f_later_step : Addr} {od_later_step an_later_step : Option Addr} {sl_later_step : Array (Option Value)} {oc_later_step kV_later_step dc_later_step pm_later_step cd_later_step ct_later_step : Value}
    {f_told_value : Addr} {od_told_value an_told_value : Option Addr} {sl_told_value : Array (Option Value)} {oc_told_value kV_told_value dc_told_value pm_told_value cd_told_value ct_told_value : Value}
    {f_told_time : Addr} {od_told_time an_told_time : Option Addr} {sl_told_time : Array (Option Value)} {oc_told_time kV_told_time dc_told_time pm_told_time cd_told_time ct_told_time : Value}
    {f_told_at_first : Addr} {od_told_at_first an_told_at_first : Option Addr} {sl_told_at_first : Array (Option Value)} {oc_told_at_first kV_told_at_first dc_told_at_first pm_told_at_first cd_told_at_first ct_told_at_first : Value}
    {f_brought_nearer : Addr} {od_brought_nearer an_brought_nearer : Option Addr} {sl_brought_nearer : Array (Option Value)} {oc_brought_nearer kV_brought_nearer dc_brought_nearer pm_brought_nearer cd_brought_nearer ct_brought_nearer : Value}
    {f_first_counter_telling : Addr} {od_first_counter_telling an_first_counter_telling : Option Addr} {sl_first_counter_telling : Array (Option Value)} {oc_first_counter_telling kV_first_counter_telling dc_first_counter_telling pm_first_counter_telling cd_first_counter_telling ct_first_counter_telling : Value}
    {f_answer_to : Addr} {od_answer_to an_answer_to : Option Addr} {sl_answer_to : Array (Option Value)} {oc_answer_to kV_answer_to dc_answer_to pm_answer_to cd_answer_to ct_answer_to : Value}
    {f_answers : Addr} {od_answers an_answers : Option Addr} {sl_answers : Array (Option Value)} {oc_answers kV_answers dc_answers pm_answers cd_answers ct_answers : Value}
    (n_MILLION : PySem.W.nsIn K mainGlobals "MILLION" = some (some (.int (1000000) t_MILLION)))
    (n_BILLION : PySem.W.nsIn K mainGlobals "BILLION" = some (some (.int (1000000000) t_BILLION)))
    (n_MOST_MORE : PySem.W.nsIn K mainGlobals "MOST_MORE" = some (some (.int (500000) t_MOST_MORE)))
    (n_NEARING_SECONDS : PySem.W.nsIn K mainGlobals "NEARING_SECONDS" = some (some (.int (64) t_NEARING_SECONDS)))
    (n_OUT_OF_RANGE : PySem.W.nsIn K mainGlobals "OUT_OF_RANGE" = some (some (.int (-1) t_OUT_OF_RANGE)))
    (n_NOTHING_THERE : PySem.W.nsIn K mainGlobals "NOTHING_THERE" = some (some (.int (-2) t_NOTHING_THERE)))
    (n_OUT_OF_TURN : PySem.W.nsIn K mainGlobals "OUT_OF_TURN" = some (some (.int (-4) t_OUT_OF_TURN)))
    (n_TAKEN : PySem.W.nsIn K mainGlobals "TAKEN" = some (some (.int (0) t_TAKEN)))
    (n_DOUBTED : PySem.W.nsIn K mainGlobals "DOUBTED" = some (some (.int (1) t_DOUBTED)))
    (n_BELIEVED : PySem.W.nsIn K mainGlobals "BELIEVED" = some (some (.int (2) t_BELIEVED)))
    (n_MOST_PPM : PySem.W.nsIn K mainGlobals "MOST_PPM" = some (some (.int (10000) t_MOST_PPM)))
    (n_MOST_COUNTER : PySem.W.nsIn K mainGlobals "MOST_COUNTER" = some (some (.int (4611686018427387904) t_MOST_COUNTER)))
    (n_MOST_TIME : PySem.W.nsIn K mainGlobals "MOST_TIME" = some (some (.int (4611686018427387904) t_MOST_TIME)))
    (n_MOST_OFF : PySem.W.nsIn K mainGlobals "MOST_OFF" = some (some (.int (1099511627776) t_MOST_OFF)))
    (n_MOST_KEPT : PySem.W.nsIn K mainGlobals "MOST_KEPT" = some (some (.int (16) t_MOST_KEPT)))
    (n_ENOUGH_TO_BELIEVE : PySem.W.nsIn K mainGlobals "ENOUGH_TO_BELIEVE" = some (some (.int (3) t_ENOUGH_TO_BELIEVE)))
    (n_BEGIN : PySem.W.nsIn K mainGlobals "BEGIN" = some (some (.int (0) t_BEGIN)))
    (n_REFER : PySem.W.nsIn K mainGlobals "REFER" = some (some (.int (1) t_REFER)))
    (n_NOW : PySem.W.nsIn K mainGlobals "NOW" = some (some (.int (2) t_NOW)))
    (n_LOOK : PySem.W.nsIn K mainGlobals "LOOK" = some (some (.int (3) t_LOOK)))
    (n_RATE : PySem.W.nsIn K mainGlobals "RATE" = some (some (.int (4) t_RATE)))
    (n_WHEN : PySem.W.nsIn K mainGlobals "WHEN" = some (some (.int (5) t_WHEN)))
    (n_REFS : PySem.W.nsIn K mainGlobals "REFS" = some (some (.int (6) t_REFS)))
    (z_max : PySem.W.nsIn K mainGlobals "max" = some none)
    (z_min : PySem.W.nsIn K mainGlobals "min" = some none)
    (z_len : PySem.W.nsIn K mainGlobals "len" = some none)
    (g_NUMBERS_OF_CALL : PySem.W.nsIn K mainGlobals "NUMBERS_OF_CALL" = some (some (.ref d_NUMBERS_OF_CALL)))
    (l_NUMBERS_OF_CALL : K.lookup d_NUMBERS_OF_CALL = some ⟨.type "dict", none, .dict #[⟨0, .int 0 u_NUMBERS_OF_CALL_0, .int 3 w_NUMBERS_OF_CALL_0⟩, ⟨1, .int 1 u_NUMBERS_OF_CALL_1, .int 3 w_NUMBERS_OF_CALL_1⟩, ⟨2, .int 2 u_NUMBERS_OF_CALL_2, .int 1 w_NUMBERS_OF_CALL_2⟩, ⟨3, .int 3 u_NUMBERS_OF_CALL_3, .int 1 w_NUMBERS_OF_CALL_3⟩, ⟨4, .int 4 u_NUMBERS_OF_CALL_4, .int 0 w_NUMBERS_OF_CALL_4⟩, ⟨5, .int 5 u_NUMBERS_OF_CALL_5, .int 1 w_NUMBERS_OF_CALL_5⟩, ⟨6, .int 6 u_NUMBERS_OF_CALL_6, .int 0 w_NUMBERS_OF_CALL_6⟩, ⟨7, .int 7 u_NUMBERS_OF_CALL_7, .int 0 w_NUMBERS_OF_CALL_7⟩] e_NUMBERS_OF_CALL, #[]⟩)
    (g_Tick : PySem.W.nsIn K mainGlobals "Tick" = some (some (.ref cT)))
    (pg_Tick : PySem.W.plainGet K cT Str.empty = true)
    (hd_Tick : PySem.W.hasDictIn K cT = true)
    (po_Tick : PySem.W.plainOver K cT = true)
    (sa_Tick : PySem.W.findIn K (.ref cT) "__setattr__" = some (some (.builtin "object.__setattr__")))
    (mk_Tick : PySem.W.makesIn K cT = true)
    (kc_Tick : PySem.W.keepIn K (.ref cT) = true)
    (no_Tick_num : PySem.W.findIn K (.ref cT) "num" = some none)
    (no_Tick_den : PySem.W.findIn K (.ref cT) "den" = some none)
    (no_Tick_ppm : PySem.W.findIn K (.ref cT) "ppm" = some none)
    (g_Reference : PySem.W.nsIn K mainGlobals "Reference" = some (some (.ref cR)))
    (pg_Reference : PySem.W.plainGet K cR Str.empty = true)
    (hd_Reference : PySem.W.hasDictIn K cR = true)
    (po_Reference : PySem.W.plainOver K cR = true)
    (sa_Reference : PySem.W.findIn K (.ref cR) "__setattr__" = some (some (.builtin "object.__setattr__")))
    (mk_Reference : PySem.W.makesIn K cR = true)
    (kc_Reference : PySem.W.keepIn K (.ref cR) = true)
    (no_Reference_counter : PySem.W.findIn K (.ref cR) "counter" = some none)
    (no_Reference_time : PySem.W.findIn K (.ref cR) "time" = some none)
    (no_Reference_off : PySem.W.findIn K (.ref cR) "off" = some none)
    (g_Told : PySem.W.nsIn K mainGlobals "Told" = some (some (.ref cD)))
    (pg_Told : PySem.W.plainGet K cD Str.empty = true)
    (hd_Told : PySem.W.hasDictIn K cD = true)
    (po_Told : PySem.W.plainOver K cD = true)
    (sa_Told : PySem.W.findIn K (.ref cD) "__setattr__" = some (some (.builtin "object.__setattr__")))
    (mk_Told : PySem.W.makesIn K cD = true)
    (kc_Told : PySem.W.keepIn K (.ref cD) = true)
    (no_Told_counter : PySem.W.findIn K (.ref cD) "counter" = some none)
    (no_Told_value : PySem.W.findIn K (.ref cD) "value" = some none)
    (no_Told_base : PySem.W.findIn K (.ref cD) "base" = some none)
    (no_Told_more : PySem.W.findIn K (.ref cD) "more" = some none)
    (no_Told_till : PySem.W.findIn K (.ref cD) "till" = some none)
    (g_Station : PySem.W.nsIn K mainGlobals "Station" = some (some (.ref cS)))
    (pg_Station : PySem.W.plainGet K cS Str.empty = true)
    (hd_Station : PySem.W.hasDictIn K cS = true)
    (po_Station : PySem.W.plainOver K cS = true)
    (sa_Station : PySem.W.findIn K (.ref cS) "__setattr__" = some (some (.builtin "object.__setattr__")))
    (mk_Station : PySem.W.makesIn K cS = true)
    (kc_Station : PySem.W.keepIn K (.ref cS) = true)
    (no_Station_tick : PySem.W.findIn K (.ref cS) "tick" = some none)
    (no_Station_seen : PySem.W.findIn K (.ref cS) "seen" = some none)
    (no_Station_kept : PySem.W.findIn K (.ref cS) "kept" = some none)
    (no_Station_doubted : PySem.W.findIn K (.ref cS) "doubted" = some none)
    (no_Station_told : PySem.W.findIn K (.ref cS) "told" = some none)
    (no_Station_times_taken : PySem.W.findIn K (.ref cS) "times_taken" = some none)
    (no_Station_times_doubted : PySem.W.findIn K (.ref cS) "times_doubted" = some none)
    (no_Station_times_believed : PySem.W.findIn K (.ref cS) "times_believed" = some none)
    (a_Tick___init__ : PySem.W.findIn K (.ref cT) "__init__" = some (some (.ref f_Tick___init__)))
    (i_Tick___init__ : PySem.W.isFn K (.ref f_Tick___init__) = true)
    (l_Tick___init__ : K.lookup f_Tick___init__ = some ⟨oc_Tick___init__, od_Tick___init__, .func (PySem.W.fnOf "__init__" "Tick.__init__" (defArgs s_Tick___init__) (defBody s_Tick___init__) (defScope s_Tick___init__) .none kV_Tick___init__ dc_Tick___init__ pm_Tick___init__ an_Tick___init__ cd_Tick___init__ ct_Tick___init__), sl_Tick___init__⟩)
    (cd_ok_Tick___init__ : PySem.W.codeIn K cd_Tick___init__ "Tick.__init__" = true)
    (k_Tick___init__ : PySem.W.keepIn K (.ref f_Tick___init__) = true)
    (a_Reference___init__ : PySem.W.findIn K (.ref cR) "__init__" = some (some (.ref f_Reference___init__)))
    (i_Reference___init__ : PySem.W.isFn K (.ref f_Reference___init__) = true)
    (l_Reference___init__ : K.lookup f_Reference___init__ = some ⟨oc_Reference___init__, od_Reference___init__, .func (PySem.W.fnOf "__init__" "Reference.__init__" (defArgs s_Reference___init__) (defBody s_Reference___init__) (defScope s_Reference___init__) .none kV_Reference___init__ dc_Reference___init__ pm_Reference___init__ an_Reference___init__ cd_Reference___init__ ct_Reference___init__), sl_Reference___init__⟩)
    (cd_ok_Reference___init__ : PySem.W.codeIn K cd_Reference___init__ "Reference.__init__" = true)
    (k_Reference___init__ : PySem.W.keepIn K (.ref f_Reference___init__) = true)
    (a_Told___init__ : PySem.W.findIn K (.ref cD) "__init__" = some (some (.ref f_Told___init__)))
    (i_Told___init__ : PySem.W.isFn K (.ref f_Told___init__) = true)
    (l_Told___init__ : K.lookup f_Told___init__ = some ⟨oc_Told___init__, od_Told___init__, .func (PySem.W.fnOf "__init__" "Told.__init__" (defArgs s_Told___init__) (defBody s_Told___init__) (defScope s_Told___init__) .none kV_Told___init__ dc_Told___init__ pm_Told___init__ an_Told___init__ cd_Told___init__ ct_Told___init__), sl_Told___init__⟩)
    (cd_ok_Told___init__ : PySem.W.codeIn K cd_Told___init__ "Told.__init__" = true)
    (k_Told___init__ : PySem.W.keepIn K (.ref f_Told___init__) = true)
    (a_Station___init__ : PySem.W.findIn K (.ref cS) "__init__" = some (some (.ref f_Station___init__)))
    (i_Station___init__ : PySem.W.isFn K (.ref f_Station___init__) = true)
    (l_Station___init__ : K.lookup f_Station___init__ = some ⟨oc_Station___init__, od_Station___init__, .func (PySem.W.fnOf "__init__" "Station.__init__" (defArgs s_Station___init__) (defBody s_Station___init__) (defScope s_Station___init__) .none kV_Station___init__ dc_Station___init__ pm_Station___init__ an_Station___init__ cd_Station___init__ ct_Station___init__), sl_Station___init__⟩)
    (cd_ok_Station___init__ : PySem.W.codeIn K cd_Station___init__ "Station.__init__" = true)
    (k_Station___init__ : PySem.W.keepIn K (.ref f_Station___init__) = true)
    (a_Station_start_with : PySem.W.findIn K (.ref cS) "start_with" = some (some (.ref f_Station_start_with)))
    (i_Station_start_with : PySem.W.isFn K (.ref f_Station_start_with) = true)
    (l_Station_start_with : K.lookup f_Station_start_with = some ⟨oc_Station_start_with, od_Station_start_with, .func (PySem.W.fnOf "start_with" "Station.start_with" (defArgs s_Station_start_with) (defBody s_Station_start_with) (defScope s_Station_start_with) .none kV_Station_start_with dc_Station_start_with pm_Station_start_with an_Station_start_with cd_Station_start_with ct_Station_start_with), sl_Station_start_with⟩)
    (cd_ok_Station_start_with : PySem.W.codeIn K cd_Station_start_with "Station.start_with" = true)
    (k_Station_start_with : PySem.W.keepIn K (.ref f_Station_start_with) = true)
    (a_Station_begin : PySem.W.findIn K (.ref cS) "begin" = some (some (.ref f_Station_begin)))
    (i_Station_begin : PySem.W.isFn K (.ref f_Station_begin) = true)
    (l_Station_begin : K.lookup f_Station_begin = some ⟨oc_Station_begin, od_Station_begin, .func (PySem.W.fnOf "begin" "Station.begin" (defArgs s_Station_begin) (defBody s_Station_begin) (defScope s_Station_begin) .none kV_Station_begin dc_Station_begin pm_Station_begin an_Station_begin cd_Station_begin ct_Station_begin), sl_Station_begin⟩)
    (cd_ok_Station_begin : PySem.W.codeIn K cd_Station_begin "Station.begin" = true)
    (k_Station_begin : PySem.W.keepIn K (.ref f_Station_begin) = true)
    (a_Station_refer : PySem.W.findIn K (.ref cS) "refer" = some (some (.ref f_Station_refer)))
    (i_Station_refer : PySem.W.isFn K (.ref f_Station_refer) = true)
    (l_Station_refer : K.lookup f_Station_refer = some ⟨oc_Station_refer, od_Station_refer, .func (PySem.W.fnOf "refer" "Station.refer" (defArgs s_Station_refer) (defBody s_Station_refer) (defScope s_Station_refer) .none kV_Station_refer dc_Station_refer pm_Station_refer an_Station_refer cd_Station_refer ct_Station_refer), sl_Station_refer⟩)
    (cd_ok_Station_refer : PySem.W.codeIn K cd_Station_refer "Station.refer" = true)
    (k_Station_refer : PySem.W.keepIn K (.ref f_Station_refer) = true)
    (a_Station_now : PySem.W.findIn K (.ref cS) "now" = some (some (.ref f_Station_now)))
    (i_Station_now : PySem.W.isFn K (.ref f_Station_now) = true)
    (l_Station_now : K.lookup f_Station_now = some ⟨oc_Station_now, od_Station_now, .func (PySem.W.fnOf "now" "Station.now" (defArgs s_Station_now) (defBody s_Station_now) (defScope s_Station_now) .none kV_Station_now dc_Station_now pm_Station_now an_Station_now cd_Station_now ct_Station_now), sl_Station_now⟩)
    (cd_ok_Station_now : PySem.W.codeIn K cd_Station_now "Station.now" = true)
    (k_Station_now : PySem.W.keepIn K (.ref f_Station_now) = true)
    (a_Station_look : PySem.W.findIn K (.ref cS) "look" = some (some (.ref f_Station_look)))
    (i_Station_look : PySem.W.isFn K (.ref f_Station_look) = true)
    (l_Station_look : K.lookup f_Station_look = some ⟨oc_Station_look, od_Station_look, .func (PySem.W.fnOf "look" "Station.look" (defArgs s_Station_look) (defBody s_Station_look) (defScope s_Station_look) .none kV_Station_look dc_Station_look pm_Station_look an_Station_look cd_Station_look ct_Station_look), sl_Station_look⟩)
    (cd_ok_Station_look : PySem.W.codeIn K cd_Station_look "Station.look" = true)
    (k_Station_look : PySem.W.keepIn K (.ref f_Station_look) = true)
    (a_Station_rate : PySem.W.findIn K (.ref cS) "rate" = some (some (.ref f_Station_rate)))
    (i_Station_rate : PySem.W.isFn K (.ref f_Station_rate) = true)
    (l_Station_rate : K.lookup f_Station_rate = some ⟨oc_Station_rate, od_Station_rate, .func (PySem.W.fnOf "rate" "Station.rate" (defArgs s_Station_rate) (defBody s_Station_rate) (defScope s_Station_rate) .none kV_Station_rate dc_Station_rate pm_Station_rate an_Station_rate cd_Station_rate ct_Station_rate), sl_Station_rate⟩)
    (cd_ok_Station_rate : PySem.W.codeIn K cd_Station_rate "Station.rate" = true)
    (k_Station_rate : PySem.W.keepIn K (.ref f_Station_rate) = true)
    (a_Station_when : PySem.W.findIn K (.ref cS) "when" = some (some (.ref f_Station_when)))
    (i_Station_when : PySem.W.isFn K (.ref f_Station_when) = true)
    (l_Station_when : K.lookup f_Station_when = some ⟨oc_Station_when, od_Station_when, .func (PySem.W.fnOf "when" "Station.when" (defArgs s_Station_when) (defBody s_Station_when) (defScope s_Station_when) .none kV_Station_when dc_Station_when pm_Station_when an_Station_when cd_Station_when ct_Station_when), sl_Station_when⟩)
    (cd_ok_Station_when : PySem.W.codeIn K cd_Station_when "Station.when" = true)
    (k_Station_when : PySem.W.keepIn K (.ref f_Station_when) = true)
    (a_Station_refs : PySem.W.findIn K (.ref cS) "refs" = some (some (.ref f_Station_refs)))
    (i_Station_refs : PySem.W.isFn K (.ref f_Station_refs) = true)
    (l_Station_refs : K.lookup f_Station_refs = some ⟨oc_Station_refs, od_Station_refs, .func (PySem.W.fnOf "refs" "Station.refs" (defArgs s_Station_refs) (defBody s_Station_refs) (defScope s_Station_refs) .none kV_Station_refs dc_Station_refs pm_Station_refs an_Station_refs cd_Station_refs ct_Station_refs), sl_Station_refs⟩)
    (cd_ok_Station_refs : PySem.W.codeIn K cd_Station_refs "Station.refs" = true)
    (k_Station_refs : PySem.W.keepIn K (.ref f_Station_refs) = true)
    (a_Station_counts : PySem.W.findIn K (.ref cS) "counts" = some (some (.ref f_Station_counts)))
    (i_Station_counts : PySem.W.isFn K (.ref f_Station_counts) = true)
    (l_Station_counts : K.lookup f_Station_counts = some ⟨oc_Station_counts, od_Station_counts, .func (PySem.W.fnOf "counts" "Station.counts" (defArgs s_Station_counts) (defBody s_Station_counts) (defScope s_Station_counts) .none kV_Station_counts dc_Station_counts pm_Station_counts an_Station_counts cd_Station_counts ct_Station_counts), sl_Station_counts⟩)
    (cd_ok_Station_counts : PySem.W.codeIn K cd_Station_counts "Station.counts" = true)
    (k_Station_counts : PySem.W.keepIn K (.ref f_Station_counts) = true)
    (a_Station_refusal_of_counter : PySem.W.findIn K (.ref cS) "refusal_of_counter" = some (some (.ref f_Station_refusal_of_counter)))
    (i_Station_refusal_of_counter : PySem.W.isFn K (.ref f_Station_refusal_of_counter) = true)
    (l_Station_refusal_of_counter : K.lookup f_Station_refusal_of_counter = some ⟨oc_Station_refusal_of_counter, od_Station_refusal_of_counter, .func (PySem.W.fnOf "refusal_of_counter" "Station.refusal_of_counter" (defArgs s_Station_refusal_of_counter) (defBody s_Station_refusal_of_counter) (defScope s_Station_refusal_of_counter) .none kV_Station_refusal_of_counter dc_Station_refusal_of_counter pm_Station_refusal_of_counter an_Station_refusal_of_counter cd_Station_refusal_of_counter ct_Station_refusal_of_counter), sl_Station_refusal_of_counter⟩)
    (cd_ok_Station_refusal_of_counter : PySem.W.codeIn K cd_Station_refusal_of_counter "Station.refusal_of_counter" = true)
    (k_Station_refusal_of_counter : PySem.W.keepIn K (.ref f_Station_refusal_of_counter) = true)
    (a_Station_doubt : PySem.W.findIn K (.ref cS) "doubt" = some (some (.ref f_Station_doubt)))
    (i_Station_doubt : PySem.W.isFn K (.ref f_Station_doubt) = true)
    (l_Station_doubt : K.lookup f_Station_doubt = some ⟨oc_Station_doubt, od_Station_doubt, .func (PySem.W.fnOf "doubt" "Station.doubt" (defArgs s_Station_doubt) (defBody s_Station_doubt) (defScope s_Station_doubt) .none kV_Station_doubt dc_Station_doubt pm_Station_doubt an_Station_doubt cd_Station_doubt ct_Station_doubt), sl_Station_doubt⟩)
    (cd_ok_Station_doubt : PySem.W.codeIn K cd_Station_doubt "Station.doubt" = true)
    (k_Station_doubt : PySem.W.keepIn K (.ref f_Station_doubt) = true)
    (a_Station_keep : PySem.W.findIn K (.ref cS) "keep" = some (some (.ref f_Station_keep)))
    (i_Station_keep : PySem.W.isFn K (.ref f_Station_keep) = true)
    (l_Station_keep : K.lookup f_Station_keep = some ⟨oc_Station_keep, od_Station_keep, .func (PySem.W.fnOf "keep" "Station.keep" (defArgs s_Station_keep) (defBody s_Station_keep) (defScope s_Station_keep) .none kV_Station_keep dc_Station_keep pm_Station_keep an_Station_keep cd_Station_keep ct_Station_keep), sl_Station_keep⟩)
    (cd_ok_Station_keep : PySem.W.codeIn K cd_Station_keep "Station.keep" = true)
    (k_Station_keep : PySem.W.keepIn K (.ref f_Station_keep) = true)
    (a_quotient_up : PySem.W.nsIn K mainGlobals "quotient_up" = some (some (.ref f_quotient_up)))
    (l_quotient_up : K.lookup f_quotient_up = some ⟨oc_quotient_up, od_quotient_up, .func (PySem.W.fnOf "quotient_up" "quotient_up" (defArgs s_quotient_up) (defBody s_quotient_up) (defScope s_quotient_up) .none kV_quotient_up dc_quotient_up pm_quotient_up an_quotient_up cd_quotient_up ct_quotient_up), sl_quotient_up⟩)
    (cd_ok_quotient_up : PySem.W.codeIn K cd_quotient_up "quotient_up" = true)
    (k_quotient_up : PySem.W.keepIn K (.ref f_quotient_up) = true)
    (a_within : PySem.W.nsIn K mainGlobals "within" = some (some (.ref f_within)))
    (l_within : K.lookup f_within = some ⟨oc_within, od_within, .func (PySem.W.fnOf "within" "within" (defArgs s_within) (defBody s_within) (defScope s_within) .none kV_within dc_within pm_within an_within cd_within ct_within), sl_within⟩)
    (cd_ok_within : PySem.W.codeIn K cd_within "within" = true)
    (k_within : PySem.W.keepIn K (.ref f_within) = true)
    (a_cut_to : PySem.W.nsIn K mainGlobals "cut_to" = some (some (.ref f_cut_to)))
    (l_cut_to : K.lookup f_cut_to = some ⟨oc_cut_to, od_cut_to, .func (PySem.W.fnOf "cut_to" "cut_to" (defArgs s_cut_to) (defBody s_cut_to) (defScope s_cut_to) .none kV_cut_to dc_cut_to pm_cut_to an_cut_to cd_cut_to ct_cut_to), sl_cut_to⟩)
    (cd_ok_cut_to : PySem.W.codeIn K cd_cut_to "cut_to" = true)
    (k_cut_to : PySem.W.keepIn K (.ref f_cut_to) = true)
    (a_earliest_by : PySem.W.nsIn K mainGlobals "earliest_by" = some (some (.ref f_earliest_by)))
    (l_earliest_by : K.lookup f_earliest_by = some ⟨oc_earliest_by, od_earliest_by, .func (PySem.W.fnOf "earliest_by" "earliest_by" (defArgs s_earliest_by) (defBody s_earliest_by) (defScope s_earliest_by) .none kV_earliest_by dc_earliest_by pm_earliest_by an_earliest_by cd_earliest_by ct_earliest_by), sl_earliest_by⟩)
    (cd_ok_earliest_by : PySem.W.codeIn K cd_earliest_by "earliest_by" = true)
    (k_earliest_by : PySem.W.keepIn K (.ref f_earliest_by) = true)
    (a_latest_by : PySem.W.nsIn K mainGlobals "latest_by" = some (some (.ref f_latest_by)))
    (l_latest_by : K.lookup f_latest_by = some ⟨oc_latest_by, od_latest_by, .func (PySem.W.fnOf "latest_by" "latest_by" (defArgs s_latest_by) (defBody s_latest_by) (defScope s_latest_by) .none kV_latest_by dc_latest_by pm_latest_by an_latest_by cd_latest_by ct_latest_by), sl_latest_by⟩)
    (cd_ok_latest_by : PySem.W.codeIn K cd_latest_by "latest_by" = true)
    (k_latest_by : PySem.W.keepIn K (.ref f_latest_by) = true)
    (a_least_time : PySem.W.nsIn K mainGlobals "least_time" = some (some (.ref f_least_time)))
    (l_least_time : K.lookup f_least_time = some ⟨oc_least_time, od_least_time, .func (PySem.W.fnOf "least_time" "least_time" (defArgs s_least_time) (defBody s_least_time) (defScope s_least_time) .none kV_least_time dc_least_time pm_least_time an_least_time cd_least_time ct_least_time), sl_least_time⟩)
    (cd_ok_least_time : PySem.W.codeIn K cd_least_time "least_time" = true)
    (k_least_time : PySem.W.keepIn K (.ref f_least_time) = true)
    (a_greatest_time : PySem.W.nsIn K mainGlobals "greatest_time" = some (some (.ref f_greatest_time)))
    (l_greatest_time : K.lookup f_greatest_time = some ⟨oc_greatest_time, od_greatest_time, .func (PySem.W.fnOf "greatest_time" "greatest_time" (defArgs s_greatest_time) (defBody s_greatest_time) (defScope s_greatest_time) .none kV_greatest_time dc_greatest_time pm_greatest_time an_greatest_time cd_greatest_time ct_greatest_time), sl_greatest_time⟩)
    (cd_ok_greatest_time : PySem.W.codeIn K cd_greatest_time "greatest_time" = true)
    (k_greatest_time : PySem.W.keepIn K (.ref f_greatest_time) = true)
    (a_agrees : PySem.W.nsIn K mainGlobals "agrees" = some (some (.ref f_agrees)))
    (l_agrees : K.lookup f_agrees = some ⟨oc_agrees, od_agrees, .func (PySem.W.fnOf "agrees" "agrees" (defArgs s_agrees) (defBody s_agrees) (defScope s_agrees) .none kV_agrees dc_agrees pm_agrees an_agrees cd_agrees ct_agrees), sl_agrees⟩)
    (cd_ok_agrees : PySem.W.codeIn K cd_agrees "agrees" = true)
    (k_agrees : PySem.W.keepIn K (.ref f_agrees) = true)
    (a_least_and_greatest_rate : PySem.W.nsIn K mainGlobals "least_and_greatest_rate" = some (some (.ref f_least_and_greatest_rate)))
    (l_least_and_greatest_rate : K.lookup f_least_and_greatest_rate = some ⟨oc_least_and_greatest_rate, od_least_and_greatest_rate, .func (PySem.W.fnOf "least_and_greatest_rate" "least_and_greatest_rate" (defArgs s_least_and_greatest_rate) (defBody s_least_and_greatest_rate) (defScope s_least_and_greatest_rate) .none kV_least_and_greatest_rate dc_least_and_greatest_rate pm_least_and_greatest_rate an_least_and_greatest_rate cd_least_and_greatest_rate ct_least_and_greatest_rate), sl_least_and_greatest_rate⟩)
    (cd_ok_least_and_greatest_rate : PySem.W.codeIn K cd_least_and_greatest_rate "least_and_greatest_rate" = true)
    (k_least_and_greatest_rate : PySem.W.keepIn K (.ref f_least_and_greatest_rate) = true)
    (a_rate_by : PySem.W.nsIn K mainGlobals "rate_by" = some (some (.ref f_rate_by)))
    (l_rate_by : K.lookup f_rate_by = some ⟨oc_rate_by, od_rate_by, .func (PySem.W.fnOf "rate_by" "rate_by" (defArgs s_rate_by) (defBody s_rate_by) (defScope s_rate_by) .none kV_rate_by dc_rate_by pm_rate_by an_rate_by cd_rate_by ct_rate_by), sl_rate_by⟩)
    (cd_ok_rate_by : PySem.W.codeIn K cd_rate_by "rate_by" = true)
    (k_rate_by : PySem.W.keepIn K (.ref f_rate_by) = true)
    (a_parts_in_microsecond : PySem.W.nsIn K mainGlobals "parts_in_microsecond" = some (some (.ref f_parts_in_microsecond)))
    (l_parts_in_microsecond : K.lookup f_parts_in_microsecond = some ⟨oc_parts_in_microsecond, od_parts_in_microsecond, .func (PySem.W.fnOf "parts_in_microsecond" "parts_in_microsecond" (defArgs s_parts_in_microsecond) (defBody s_parts_in_microsecond) (defScope s_parts_in_microsecond) .none kV_parts_in_microsecond dc_parts_in_microsecond pm_parts_in_microsecond an_parts_in_microsecond cd_parts_in_microsecond ct_parts_in_microsecond), sl_parts_in_microsecond⟩)
    (cd_ok_parts_in_microsecond : PySem.W.codeIn K cd_parts_in_microsecond "parts_in_microsecond" = true)
    (k_parts_in_microsecond : PySem.W.keepIn K (.ref f_parts_in_microsecond) = true)
    (a_nearing_step : PySem.W.nsIn K mainGlobals "nearing_step" = some (some (.ref f_nearing_step)))
    (l_nearing_step : K.lookup f_nearing_step = some ⟨oc_nearing_step, od_nearing_step, .func (PySem.W.fnOf "nearing_step" "nearing_step" (defArgs s_nearing_step) (defBody s_nearing_step) (defScope s_nearing_step) .none kV_nearing_step dc_nearing_step pm_nearing_step an_nearing_step cd_nearing_step ct_nearing_step), sl_nearing_step⟩)
    (cd_ok_nearing_step : PySem.W.codeIn K cd_nearing_step "nearing_step" = true)
    (k_nearing_step : PySem.W.keepIn K (.ref f_nearing_step) = true)
    (a_later_step : PySem.W.nsIn K mainGlobals "later_step" = some (some (.ref f_later_step)))
    (l_later_step : K.lookup f_later_step = some ⟨oc_later_step, od_later_step, .func (PySem.W.fnOf "later_step" "later_step" (defArgs s_later_step) (defBody s_later_step) (defScope s_later_step) .none kV_later_step dc_later_step pm_later_step an_later_step cd_later_step ct_later_step), sl_later_step⟩)
    (cd_ok_later_step : PySem.W.codeIn K cd_later_step "later_step" = true)
    (k_later_step : PySem.W.keepIn K (.ref f_later_step) = true)
    (a_told_value : PySem.W.nsIn K mainGlobals "told_value" = some (some (.ref f_told_value)))
    (l_told_value : K.lookup f_told_value = some ⟨oc_told_value, od_told_value, .func (PySem.W.fnOf "told_value" "told_value" (defArgs s_told_value) (defBody s_told_value) (defScope s_told_value) .none kV_told_value dc_told_value pm_told_value an_told_value cd_told_value ct_told_value), sl_told_value⟩)
    (cd_ok_told_value : PySem.W.codeIn K cd_told_value "told_value" = true)
    (k_told_value : PySem.W.keepIn K (.ref f_told_value) = true)
    (a_told_time : PySem.W.nsIn K mainGlobals "told_time" = some (some (.ref f_told_time)))
    (l_told_time : K.lookup f_told_time = some ⟨oc_told_time, od_told_time, .func (PySem.W.fnOf "told_time" "told_time" (defArgs s_told_time) (defBody s_told_time) (defScope s_told_time) .none kV_told_time dc_told_time pm_told_time an_told_time cd_told_time ct_told_time), sl_told_time⟩)
    (cd_ok_told_time : PySem.W.codeIn K cd_told_time "told_time" = true)
    (k_told_time : PySem.W.keepIn K (.ref f_told_time) = true)
    (a_told_at_first : PySem.W.nsIn K mainGlobals "told_at_first" = some (some (.ref f_told_at_first)))
    (l_told_at_first : K.lookup f_told_at_first = some ⟨oc_told_at_first, od_told_at_first, .func (PySem.W.fnOf "told_at_first" "told_at_first" (defArgs s_told_at_first) (defBody s_told_at_first) (defScope s_told_at_first) .none kV_told_at_first dc_told_at_first pm_told_at_first an_told_at_first cd_told_at_first ct_told_at_first), sl_told_at_first⟩)
    (cd_ok_told_at_first : PySem.W.codeIn K cd_told_at_first "told_at_first" = true)
    (k_told_at_first : PySem.W.keepIn K (.ref f_told_at_first) = true)
    (a_brought_nearer : PySem.W.nsIn K mainGlobals "brought_nearer" = some (some (.ref f_brought_nearer)))
    (l_brought_nearer : K.lookup f_brought_nearer = some ⟨oc_brought_nearer, od_brought_nearer, .func (PySem.W.fnOf "brought_nearer" "brought_nearer" (defArgs s_brought_nearer) (defBody s_brought_nearer) (defScope s_brought_nearer) .none kV_brought_nearer dc_brought_nearer pm_brought_nearer an_brought_nearer cd_brought_nearer ct_brought_nearer), sl_brought_nearer⟩)
    (cd_ok_brought_nearer : PySem.W.codeIn K cd_brought_nearer "brought_nearer" = true)
    (k_brought_nearer : PySem.W.keepIn K (.ref f_brought_nearer) = true)
    (a_first_counter_telling : PySem.W.nsIn K mainGlobals "first_counter_telling" = some (some (.ref f_first_counter_telling)))
    (l_first_counter_telling : K.lookup f_first_counter_telling = some ⟨oc_first_counter_telling, od_first_counter_telling, .func (PySem.W.fnOf "first_counter_telling" "first_counter_telling" (defArgs s_first_counter_telling) (defBody s_first_counter_telling) (defScope s_first_counter_telling) .none kV_first_counter_telling dc_first_counter_telling pm_first_counter_telling an_first_counter_telling cd_first_counter_telling ct_first_counter_telling), sl_first_counter_telling⟩)
    (cd_ok_first_counter_telling : PySem.W.codeIn K cd_first_counter_telling "first_counter_telling" = true)
    (k_first_counter_telling : PySem.W.keepIn K (.ref f_first_counter_telling) = true)
    (a_answer_to : PySem.W.nsIn K mainGlobals "answer_to" = some (some (.ref f_answer_to)))
    (l_answer_to : K.lookup f_answer_to = some ⟨oc_answer_to, od_answer_to, .func (PySem.W.fnOf "answer_to" "answer_to" (defArgs s_answer_to) (defBody s_answer_to) (defScope s_answer_to) .none kV_answer_to dc_answer_to pm_answer_to an_answer_to cd_answer_to ct_answer_to), sl_answer_to⟩)
    (cd_ok_answer_to : PySem.W.codeIn K cd_answer_to "answer_to" = true)
    (k_answer_to : PySem.W.keepIn K (.ref f_answer_to) = true)
    (a_answers : PySem.W.nsIn K mainGlobals "answers" = some (some (.ref f_answers)))
    (l_answers : K.lookup f_answers = some ⟨oc_answers, od_answers, .func (PySem.W.fnOf "answers" "answers" (defArgs s_answers) (defBody s_answers) (defScope s_answers) .none kV_answers dc_answers pm_answers an_answers cd_answers ct_answers), sl_answers⟩)
    (cd_ok_answers : PySem.W.codeIn K cd_answers "answers" = true)
    (k_answers : PySem.W.keepIn K (.ref f_answers) = true) :
    ∃ fd : FuncData, (∀ (s : Shared) (us : List Value), us.length = (["calls"] : List Str).length → BindsTo s fd ⟨us, []⟩ ((["calls"] : List Str).zip us)) ∧ ∀ base : Heap, K.In base → base.Ns mainGlobals mg → FnOk P w K mg base CX0 8 fa fd ["calls"] (spAns K) := by
  have e := hfa.symm.trans (PySem.W.mg_of X G a_answers)
  cases e
  have T : Txt K mg := ⟨⟨_, PySem.W.mg_of X G n_MILLION⟩, ⟨_, PySem.W.mg_of X G n_BILLION⟩, ⟨_, PySem.W.mg_of X G n_MOST_MORE⟩, ⟨_, PySem.W.mg_of X G n_NEARING_SECONDS⟩, ⟨_, PySem.W.mg_of X G n_OUT_OF_RANGE⟩, ⟨_, PySem.W.mg_of X G n_NOTHING_THERE⟩, ⟨_, PySem.W.mg_of X G n_OUT_OF_TURN⟩, ⟨_, PySem.W.mg_of X G n_TAKEN⟩, ⟨_, PySem.W.mg_of X G n_DOUBTED⟩, ⟨_, PySem.W.mg_of X G n_BELIEVED⟩, ⟨_, PySem.W.mg_of X G n_MOST_PPM⟩, ⟨_, PySem.W.mg_of X G n_MOST_COUNTER⟩, ⟨_, PySem.W.mg_of X G n_MOST_TIME⟩, ⟨_, PySem.W.mg_of X G n_MOST_OFF⟩, ⟨_, PySem.W.mg_of X G n_MOST_KEPT⟩, ⟨_, PySem.W.mg_of X G n_ENOUGH_TO_BELIEVE⟩, ⟨_, PySem.W.mg_of X G n_BEGIN⟩, ⟨_, PySem.W.mg_of X G n_REFER⟩, ⟨_, PySem.W.mg_of X G n_NOW⟩, ⟨_, PySem.W.mg_of X G n_LOOK⟩, ⟨_, PySem.W.mg_of X G n_RATE⟩, ⟨_, PySem.W.mg_of X G n_WHEN⟩, ⟨_, PySem.W.mg_of X G n_REFS⟩, PySem.W.mg_none_of X G z_max, PySem.W.mg_none_of X G z_min, PySem.W.mg_none_of X G z_len⟩
  have cls_Tick : Cls K cT := ⟨pg_Tick, hd_Tick, po_Tick, sa_Tick⟩
  have cls_Reference : Cls K cR := ⟨pg_Reference, hd_Reference, po_Reference, sa_Reference⟩
  have cls_Told : Cls K cD := ⟨pg_Told, hd_Told, po_Told, sa_Told⟩
  have cls_Station : Cls K cS := ⟨pg_Station, hd_Station, po_Station, sa_Station⟩
  have F_Tick___init__ := fun_mk (st := s_Tick___init__) l_Tick___init__ cd_ok_Tick___init__ k_Tick___init__
  have b_Tick___init__ := F_Tick___init__.binds (ps := ["self", "num", "den", "ppm"]) fun _ _ _ _ _ _ us hl => by obtain ⟨_, _, _, _, rfl⟩ := of_len4 hl; rfl
  have F_Reference___init__ := fun_mk (st := s_Reference___init__) l_Reference___init__ cd_ok_Reference___init__ k_Reference___init__
  have b_Reference___init__ := F_Reference___init__.binds (ps := ["self", "counter", "time", "off"]) fun _ _ _ _ _ _ us hl => by obtain ⟨_, _, _, _, rfl⟩ := of_len4 hl; rfl
  have F_Told___init__ := fun_mk (st := s_Told___init__) l_Told___init__ cd_ok_Told___init__ k_Told___init__
  have b_Told___init__ := F_Told___init__.binds (ps := ["self", "counter", "value", "base", "more", "till"]) fun _ _ _ _ _ _ us hl => by obtain ⟨_, _, _, _, _, _, rfl⟩ := of_len6 hl; rfl
  have F_Station___init__ := fun_mk (st := s_Station___init__) l_Station___init__ cd_ok_Station___init__ k_Station___init__
  have b_Station___init__ := F_Station___init__.binds (ps := ["self"]) fun _ _ _ _ _ _ us hl => by obtain ⟨_, rfl⟩ := of_len1 hl; rfl
  have F_Station_start_with := fun_mk (st := s_Station_start_with) l_Station_start_with cd_ok_Station_start_with k_Station_start_with
  have b_Station_start_with := F_Station_start_with.binds (ps := ["self", "tick"]) fun _ _ _ _ _ _ us hl => by obtain ⟨_, _, rfl⟩ := of_len2 hl; rfl
  have F_Station_begin := fun_mk (st := s_Station_begin) l_Station_begin cd_ok_Station_begin k_Station_begin
  have b_Station_begin := F_Station_begin.binds (ps := ["self", "num", "den", "ppm"]) fun _ _ _ _ _ _ us hl => by obtain ⟨_, _, _, _, rfl⟩ := of_len4 hl; rfl
  have F_Station_refer := fun_mk (st := s_Station_refer) l_Station_refer cd_ok_Station_refer k_Station_refer
  have b_Station_refer := F_Station_refer.binds (ps := ["self", "c", "t", "u"]) fun _ _ _ _ _ _ us hl => by obtain ⟨_, _, _, _, rfl⟩ := of_len4 hl; rfl
  have F_Station_now := fun_mk (st := s_Station_now) l_Station_now cd_ok_Station_now k_Station_now
  have b_Station_now := F_Station_now.binds (ps := ["self", "c"]) fun _ _ _ _ _ _ us hl => by obtain ⟨_, _, rfl⟩ := of_len2 hl; rfl
  have F_Station_look := fun_mk (st := s_Station_look) l_Station_look cd_ok_Station_look k_Station_look
  have b_Station_look := F_Station_look.binds (ps := ["self", "c"]) fun _ _ _ _ _ _ us hl => by obtain ⟨_, _, rfl⟩ := of_len2 hl; rfl
  have F_Station_rate := fun_mk (st := s_Station_rate) l_Station_rate cd_ok_Station_rate k_Station_rate
  have b_Station_rate := F_Station_rate.binds (ps := ["self"]) fun _ _ _ _ _ _ us hl => by obtain ⟨_, rfl⟩ := of_len1 hl; rfl
  have F_Station_when := fun_mk (st := s_Station_when) l_Station_when cd_ok_Station_when k_Station_when
  have b_Station_when := F_Station_when.binds (ps := ["self", "t"]) fun _ _ _ _ _ _ us hl => by obtain ⟨_, _, rfl⟩ := of_len2 hl; rfl
  have F_Station_refs := fun_mk (st := s_Station_refs) l_Station_refs cd_ok_Station_refs k_Station_refs
  have b_Station_refs := F_Station_refs.binds (ps := ["self"]) fun _ _ _ _ _ _ us hl => by obtain ⟨_, rfl⟩ := of_len1 hl; rfl
  have F_Station_counts := fun_mk (st := s_Station_counts) l_Station_counts cd_ok_Station_counts k_Station_counts
  have b_Station_counts := F_Station_counts.binds (ps := ["self"]) fun _ _ _ _ _ _ us hl => by obtain ⟨_, rfl⟩ := of_len1 hl; rfl
  have F_Station_refusal_of_counter := fun_mk (st := s_Station_refusal_of_counter) l_Station_refusal_of_counter cd_ok_Station_refusal_of_counter k_Station_refusal_of_counter
  have b_Station_refusal_of_counter := F_Station_refusal_of_counter.binds (ps := ["self", "c"]) fun _ _ _ _ _ _ us hl => by obtain ⟨_, _, rfl⟩ := of_len2 hl; rfl
  have F_Station_doubt := fun_mk (st := s_Station_doubt) l_Station_doubt cd_ok_Station_doubt k_Station_doubt
  have b_Station_doubt := F_Station_doubt.binds (ps := ["self", "reference"]) fun _ _ _ _ _ _ us hl => by obtain ⟨_, _, rfl⟩ := of_len2 hl; rfl
  have F_Station_keep := fun_mk (st := s_Station_keep) l_Station_keep cd_ok_Station_keep k_Station_keep
  have b_Station_keep := F_Station_keep.binds (ps := ["self", "references", "c"]) fun _ _ _ _ _ _ us hl => by obtain ⟨_, _, _, rfl⟩ := of_len3 hl; rfl
  have F_quotient_up := fun_mk (st := s_quotient_up) l_quotient_up cd_ok_quotient_up k_quotient_up
  have b_quotient_up := F_quotient_up.binds (ps := ["upper", "lower"]) fun _ _ _ _ _ _ us hl => by obtain ⟨_, _, rfl⟩ := of_len2 hl; rfl
  have F_within := fun_mk (st := s_within) l_within cd_ok_within k_within
  have b_within := F_within.binds (ps := ["number", "low", "high"]) fun _ _ _ _ _ _ us hl => by obtain ⟨_, _, _, rfl⟩ := of_len3 hl; rfl
  have F_cut_to := fun_mk (st := s_cut_to) l_cut_to cd_ok_cut_to k_cut_to
  have b_cut_to := F_cut_to.binds (ps := ["number", "low", "high"]) fun _ _ _ _ _ _ us hl => by obtain ⟨_, _, _, rfl⟩ := of_len3 hl; rfl
  have F_earliest_by := fun_mk (st := s_earliest_by) l_earliest_by cd_ok_earliest_by k_earliest_by
  have b_earliest_by := F_earliest_by.binds (ps := ["tick", "reference", "c"]) fun _ _ _ _ _ _ us hl => by obtain ⟨_, _, _, rfl⟩ := of_len3 hl; rfl
  have F_latest_by := fun_mk (st := s_latest_by) l_latest_by cd_ok_latest_by k_latest_by
  have b_latest_by := F_latest_by.binds (ps := ["tick", "reference", "c"]) fun _ _ _ _ _ _ us hl => by obtain ⟨_, _, _, rfl⟩ := of_len3 hl; rfl
  have F_least_time := fun_mk (st := s_least_time) l_least_time cd_ok_least_time k_least_time
  have b_least_time := F_least_time.binds (ps := ["tick", "references", "c"]) fun _ _ _ _ _ _ us hl => by obtain ⟨_, _, _, rfl⟩ := of_len3 hl; rfl
  have F_greatest_time := fun_mk (st := s_greatest_time) l_greatest_time cd_ok_greatest_time k_greatest_time
  have b_greatest_time := F_greatest_time.binds (ps := ["tick", "references", "c"]) fun _ _ _ _ _ _ us hl => by obtain ⟨_, _, _, rfl⟩ := of_len3 hl; rfl
  have F_agrees := fun_mk (st := s_agrees) l_agrees cd_ok_agrees k_agrees
  have b_agrees := F_agrees.binds (ps := ["tick", "reference", "others"]) fun _ _ _ _ _ _ us hl => by obtain ⟨_, _, _, rfl⟩ := of_len3 hl; rfl
  have F_least_and_greatest_rate := fun_mk (st := s_least_and_greatest_rate) l_least_and_greatest_rate cd_ok_least_and_greatest_rate k_least_and_greatest_rate
  have b_least_and_greatest_rate := F_least_and_greatest_rate.binds (ps := ["tick", "references"]) fun _ _ _ _ _ _ us hl => by obtain ⟨_, _, rfl⟩ := of_len2 hl; rfl
  have F_rate_by := fun_mk (st := s_rate_by) l_rate_by cd_ok_rate_by k_rate_by
  have b_rate_by := F_rate_by.binds (ps := ["tick", "references"]) fun _ _ _ _ _ _ us hl => by obtain ⟨_, _, rfl⟩ := of_len2 hl; rfl
  have F_parts_in_microsecond := fun_mk (st := s_parts_in_microsecond) l_parts_in_microsecond cd_ok_parts_in_microsecond k_parts_in_microsecond
  have b_parts_in_microsecond := F_parts_in_microsecond.binds (ps := ["tick"]) fun _ _ _ _ _ _ us hl => by obtain ⟨_, rfl⟩ := of_len1 hl; rfl
  have F_nearing_step := fun_mk (st := s_nearing_step) l_nearing_step cd_ok_nearing_step k_nearing_step
  have b_nearing_step := F_nearing_step.binds (ps := ["tick", "told"]) fun _ _ _ _ _ _ us hl => by obtain ⟨_, _, rfl⟩ := of_len2 hl; rfl
  have F_later_step := fun_mk (st := s_later_step) l_later_step cd_ok_later_step k_later_step
  have b_later_step := F_later_step.binds (ps := ["tick", "told"]) fun _ _ _ _ _ _ us hl => by obtain ⟨_, _, rfl⟩ := of_len2 hl; rfl
  have F_told_value := fun_mk (st := s_told_value) l_told_value cd_ok_told_value k_told_value
  have b_told_value := F_told_value.binds (ps := ["tick", "told", "c"]) fun _ _ _ _ _ _ us hl => by obtain ⟨_, _, _, rfl⟩ := of_len3 hl; rfl
  have F_told_time := fun_mk (st := s_told_time) l_told_time cd_ok_told_time k_told_time
  have b_told_time := F_told_time.binds (ps := ["tick", "told", "c"]) fun _ _ _ _ _ _ us hl => by obtain ⟨_, _, _, rfl⟩ := of_len3 hl; rfl
  have F_told_at_first := fun_mk (st := s_told_at_first) l_told_at_first cd_ok_told_at_first k_told_at_first
  have b_told_at_first := F_told_at_first.binds (ps := ["tick", "c", "t", "base"]) fun _ _ _ _ _ _ us hl => by obtain ⟨_, _, _, _, rfl⟩ := of_len4 hl; rfl
  have F_brought_nearer := fun_mk (st := s_brought_nearer) l_brought_nearer cd_ok_brought_nearer k_brought_nearer
  have b_brought_nearer := F_brought_nearer.binds (ps := ["tick", "told", "c", "t", "base"]) fun _ _ _ _ _ _ us hl => by obtain ⟨_, _, _, _, _, rfl⟩ := of_len5 hl; rfl
  have F_first_counter_telling := fun_mk (st := s_first_counter_telling) l_first_counter_telling cd_ok_first_counter_telling k_first_counter_telling
  have b_first_counter_telling := F_first_counter_telling.binds (ps := ["tick", "told", "t"]) fun _ _ _ _ _ _ us hl => by obtain ⟨_, _, _, rfl⟩ := of_len3 hl; rfl
  have F_answer_to := fun_mk (st := s_answer_to) l_answer_to cd_ok_answer_to k_answer_to
  have b_answer_to := F_answer_to.binds (ps := ["station", "call", "numbers"]) fun _ _ _ _ _ _ us hl => by obtain ⟨_, _, _, rfl⟩ := of_len3 hl; rfl
  have F_answers := fun_mk (st := s_answers) l_answers cd_ok_answers k_answers
  have b_answers := F_answers.binds (ps := ["calls"]) fun _ _ _ _ _ _ us hl => by obtain ⟨_, rfl⟩ := of_len1 hl; rfl
  refine ⟨PySem.W.fnOf "answers" "answers" (defArgs s_answers) (defBody s_answers) (defScope s_answers) .none kV_answers dc_answers pm_answers an_answers cd_answers ct_answers, fun s us hu => by obtain ⟨_, rfl⟩ := of_len1 hu; exact .of_eq rfl, fun base _ _ => ?_⟩
  have TC : TickC K cT := ⟨cls_Tick, no_Tick_num, no_Tick_den, no_Tick_ppm⟩
  have RC : RefC K cR := ⟨cls_Reference, no_Reference_counter, no_Reference_time, no_Reference_off⟩
  have DC : ToldC K cD := ⟨cls_Told, no_Told_counter, no_Told_value, no_Told_base, no_Told_more, no_Told_till⟩
  have SC : StC K cS := ⟨cls_Station, no_Station_tick, no_Station_seen, no_Station_kept, no_Station_doubted, no_Station_told, no_Station_times_taken, no_Station_times_doubted, no_Station_times_believed⟩
  have MD : MDict K d_NUMBERS_OF_CALL fNum := by
    refine ⟨_, _, _, l_NUMBERS_OF_CALL, ⟨rfl, rfl, rfl⟩, rfl, ?_, ?_⟩
    · intro e he
      simp only [List.mem_toArray, List.mem_cons, List.not_mem_nil, or_false] at he
      rcases he with rfl | rfl | rfl | rfl | rfl | rfl | rfl | rfl
      · exact ⟨0, rfl, rfl⟩
      · exact ⟨1, rfl, rfl⟩
      · exact ⟨2, rfl, rfl⟩
      · exact ⟨3, rfl, rfl⟩
      · exact ⟨4, rfl, rfl⟩
      · exact ⟨5, rfl, rfl⟩
      · exact ⟨6, rfl, rfl⟩
      · exact ⟨7, rfl, rfl⟩
    · intro k v hv
      unfold fNum at hv
      split at hv
      · rename_i hk
        have hk2 : k = 0 ∨ k = 1 ∨ k = 2 ∨ k = 3 ∨ k = 4 ∨ k = 5 ∨ k = 6 ∨ k = 7 := by
          have : MOSTC = 7 := rfl
          omega
        rcases hk2 with rfl | rfl | rfl | rfl | rfl | rfl | rfl | rfl
        · cases hv
          exact ⟨_, rfl, _, rfl⟩
        · cases hv
          exact ⟨_, rfl, _, rfl⟩
        · cases hv
          exact ⟨_, rfl, _, rfl⟩
        · cases hv
          exact ⟨_, rfl, _, rfl⟩
        · cases hv
          exact ⟨_, rfl, _, rfl⟩
        · cases hv
          exact ⟨_, rfl, _, rfl⟩
        · cases hv
          exact ⟨_, rfl, _, rfl⟩
        · cases hv
          exact ⟨_, rfl, _, rfl⟩
      · cases hv
  have f_quotient_up : FnG P w K mg base "quotient_up" 1 ["upper", "lower"] spQup := ⟨_, _, ok_quotient_up F_quotient_up, PySem.W.mg_of X G a_quotient_up, k_quotient_up, b_quotient_up⟩
  have f_within : FnG P w K mg base "within" 1 ["number", "low", "high"] spWithin := ⟨_, _, ok_within F_within, PySem.W.mg_of X G a_within, k_within, b_within⟩
  have f_cut_to : FnG P w K mg base "cut_to" 1 ["number", "low", "high"] spCut := ⟨_, _, ok_cut_to T F_cut_to, PySem.W.mg_of X G a_cut_to, k_cut_to, b_cut_to⟩
  have f_earliest_by : FnG P w K mg base "earliest_by" 1 ["tick", "reference", "c"] (spEarliest K cT cR) := ⟨_, _, ok_earliest_by T F_earliest_by, PySem.W.mg_of X G a_earliest_by, k_earliest_by, b_earliest_by⟩
  have f_latest_by : FnG P w K mg base "latest_by" 2 ["tick", "reference", "c"] (spLatest K cT cR) := ⟨_, _, ok_latest_by T F_latest_by f_quotient_up, PySem.W.mg_of X G a_latest_by, k_latest_by, b_latest_by⟩
  have f_parts_in_microsecond : FnG P w K mg base "parts_in_microsecond" 1 ["tick"] (spParts K cT) := ⟨_, _, ok_parts_in_microsecond T F_parts_in_microsecond, PySem.W.mg_of X G a_parts_in_microsecond, k_parts_in_microsecond, b_parts_in_microsecond⟩
  have f_nearing_step : FnG P w K mg base "nearing_step" 1 ["tick", "told"] (spStep K cT cD Sm.per1) := ⟨_, _, ok_nearing_step T F_nearing_step, PySem.W.mg_of X G a_nearing_step, k_nearing_step, b_nearing_step⟩
  have f_later_step : FnG P w K mg base "later_step" 1 ["tick", "told"] (spStep K cT cD Sm.per2) := ⟨_, _, ok_later_step T F_later_step, PySem.W.mg_of X G a_later_step, k_later_step, b_later_step⟩
  have f_told_value : FnG P w K mg base "told_value" 2 ["tick", "told", "c"] (spValue K cT cD) := ⟨_, _, ok_told_value T F_told_value f_nearing_step f_later_step, PySem.W.mg_of X G a_told_value, k_told_value, b_told_value⟩
  have f_told_time : FnG P w K mg base "told_time" 3 ["tick", "told", "c"] (spTime K cT cD) := ⟨_, _, ok_told_time T F_told_time f_told_value f_parts_in_microsecond, PySem.W.mg_of X G a_told_time, k_told_time, b_told_time⟩
  have f_first_counter_telling : FnG P w K mg base "first_counter_telling" 3 ["tick", "told", "t"] (spFirstC K cT cD) := ⟨_, _, ok_first_counter_telling T F_first_counter_telling f_parts_in_microsecond f_told_value f_quotient_up f_nearing_step f_later_step, PySem.W.mg_of X G a_first_counter_telling, k_first_counter_telling, b_first_counter_telling⟩
  have c_Tick : MkG P w K mg base "Tick" cT 1 ["self", "num", "den", "ppm"] (spNew cT tickG 3) := ⟨_, _, ⟨mk_Tick, a_Tick___init__, i_Tick___init__, kc_Tick⟩, ok_Tick F_Tick___init__ cls_Tick no_Tick_num no_Tick_den no_Tick_ppm, PySem.W.mg_of X G g_Tick, b_Tick___init__⟩
  have c_Reference : MkG P w K mg base "Reference" cR 1 ["self", "counter", "time", "off"] (spNew cR refG 3) := ⟨_, _, ⟨mk_Reference, a_Reference___init__, i_Reference___init__, kc_Reference⟩, ok_Reference F_Reference___init__ cls_Reference no_Reference_counter no_Reference_time no_Reference_off, PySem.W.mg_of X G g_Reference, b_Reference___init__⟩
  have c_Told : MkG P w K mg base "Told" cD 1 ["self", "counter", "value", "base", "more", "till"] (spNew cD toldG 5) := ⟨_, _, ⟨mk_Told, a_Told___init__, i_Told___init__, kc_Told⟩, ok_Told F_Told___init__ cls_Told no_Told_counter no_Told_value no_Told_base no_Told_more no_Told_till, PySem.W.mg_of X G g_Told, b_Told___init__⟩
  have f_least_time : FnG P w K mg base "least_time" 2 ["tick", "references", "c"] (spLeast K cT cR) := ⟨_, _, ok_least_time T F_least_time f_earliest_by, PySem.W.mg_of X G a_least_time, k_least_time, b_least_time⟩
  have f_greatest_time : FnG P w K mg base "greatest_time" 3 ["tick", "references", "c"] (spGreatest K cT cR) := ⟨_, _, ok_greatest_time T F_greatest_time f_latest_by, PySem.W.mg_of X G a_greatest_time, k_greatest_time, b_greatest_time⟩
  have f_agrees : FnG P w K mg base "agrees" 4 ["tick", "reference", "others"] (spAgrees K cT cR) := ⟨_, _, ok_agrees T F_agrees f_least_time f_greatest_time, PySem.W.mg_of X G a_agrees, k_agrees, b_agrees⟩
  have f_least_and_greatest_rate : FnG P w K mg base "least_and_greatest_rate" 2 ["tick", "references"] (spRates K cT cR) := ⟨_, _, ok_least_and_greatest_rate T F_least_and_greatest_rate f_quotient_up f_cut_to, PySem.W.mg_of X G a_least_and_greatest_rate, k_least_and_greatest_rate, b_least_and_greatest_rate⟩
  have f_rate_by : FnG P w K mg base "rate_by" 3 ["tick", "references"] (spRate K cT cR) := ⟨_, _, ok_rate_by T F_rate_by f_least_and_greatest_rate, PySem.W.mg_of X G a_rate_by, k_rate_by, b_rate_by⟩
  have f_told_at_first : FnG P w K mg base "told_at_first" 3 ["tick", "c", "t", "base"] (spFirst K cT cD) := ⟨_, _, ok_told_at_first DC F_told_at_first c_Told f_parts_in_microsecond, PySem.W.mg_of X G a_told_at_first, k_told_at_first, b_told_at_first⟩
  have f_brought_nearer : FnG P w K mg base "brought_nearer" 4 ["tick", "told", "c", "t", "base"] (spNearer K cT cD) := ⟨_, _, ok_brought_nearer T DC F_brought_nearer c_Told f_quotient_up f_cut_to f_told_value f_told_time, PySem.W.mg_of X G a_brought_nearer, k_brought_nearer, b_brought_nearer⟩
  have m_refusal_of_counter : MtG P w K mg base cS "refusal_of_counter" 2 ["self", "c"] (spRefusal K) := ⟨_, _, ⟨a_Station_refusal_of_counter, i_Station_refusal_of_counter, k_Station_refusal_of_counter⟩, ok_refusal T F_Station_refusal_of_counter f_within, b_Station_refusal_of_counter⟩
  have m_start_with : MtG P w K mg base cS "start_with" 1 ["self", "tick"] (spStart cS) := ⟨_, _, ⟨a_Station_start_with, i_Station_start_with, k_Station_start_with⟩, ok_start_with SC F_Station_start_with, b_Station_start_with⟩
  have m_now : MtG P w K mg base cS "now" 4 ["self", "c"] (spNow K cS cT cR cD) := ⟨_, _, ⟨a_Station_now, i_Station_now, k_Station_now⟩, ok_now T SC F_Station_now m_refusal_of_counter f_told_time, b_Station_now⟩
  have m_look : MtG P w K mg base cS "look" 4 ["self", "c"] (spLook K cS cT cR cD) := ⟨_, _, ⟨a_Station_look, i_Station_look, k_Station_look⟩, ok_look T SC F_Station_look m_refusal_of_counter f_told_time f_least_time f_greatest_time, b_Station_look⟩
  have m_begin : MtG P w K mg base cS "begin" 3 ["self", "num", "den", "ppm"] (spBegin K cS cT cR cD) := ⟨_, _, ⟨a_Station_begin, i_Station_begin, k_Station_begin⟩, ok_begin T SC TC F_Station_begin f_within c_Tick m_start_with, b_Station_begin⟩
  have m_doubt : MtG P w K mg base cS "doubt" 5 ["self", "reference"] (spDoubt K cS cT cR cD) := ⟨_, _, ⟨a_Station_doubt, i_Station_doubt, k_Station_doubt⟩, ok_doubt T SC F_Station_doubt f_agrees, b_Station_doubt⟩
  have m_keep : MtG P w K mg base cS "keep" 5 ["self", "references", "c"] (spKeep K cS cT cR cD) := ⟨_, _, ⟨a_Station_keep, i_Station_keep, k_Station_keep⟩, ok_keep T SC F_Station_keep f_rate_by f_least_time f_greatest_time f_told_at_first f_brought_nearer, b_Station_keep⟩
  have m_refer : MtG P w K mg base cS "refer" 6 ["self", "c", "t", "u"] (spRefer K cS cT cR cD) := ⟨_, _, ⟨a_Station_refer, i_Station_refer, k_Station_refer⟩, ok_refer T SC RC F_Station_refer f_within c_Reference f_agrees m_refusal_of_counter m_doubt m_keep, b_Station_refer⟩
  have m_rate : MtG P w K mg base cS "rate" 4 ["self"] (spBare K cS cT cR cD .rate) := ⟨_, _, ⟨a_Station_rate, i_Station_rate, k_Station_rate⟩, ok_rate T SC F_Station_rate f_least_and_greatest_rate f_rate_by, b_Station_rate⟩
  have m_when : MtG P w K mg base cS "when" 4 ["self", "t"] (spWhen K cS cT cR cD) := ⟨_, _, ⟨a_Station_when, i_Station_when, k_Station_when⟩, ok_when T SC F_Station_when f_within f_first_counter_telling, b_Station_when⟩
  have m_refs : MtG P w K mg base cS "refs" 1 ["self"] (spBare K cS cT cR cD .refs) := ⟨_, _, ⟨a_Station_refs, i_Station_refs, k_Station_refs⟩, ok_refs T SC F_Station_refs, b_Station_refs⟩
  have m_counts : MtG P w K mg base cS "counts" 1 ["self"] (spBare K cS cT cR cD .count) := ⟨_, _, ⟨a_Station_counts, i_Station_counts, k_Station_counts⟩, ok_counts T SC F_Station_counts, b_Station_counts⟩
  have c_Station : MkG P w K mg base "Station" cS 2 ["self"] (spNewSt cS) := ⟨_, _, ⟨mk_Station, a_Station___init__, i_Station___init__, kc_Station⟩, ok_Station SC F_Station___init__ m_start_with, PySem.W.mg_of X G g_Station, b_Station___init__⟩
  have f_answer_to : FnG P w K mg base "answer_to" 7 ["station", "call", "numbers"] (spTo K cS cT cR cD) := ⟨_, _, ok_answer_to T SC F_answer_to m_begin m_refer m_now m_look m_rate m_when m_refs m_counts, PySem.W.mg_of X G a_answer_to, k_answer_to, b_answer_to⟩
  exact ok_answers T SC F_answers c_Station f_answer_to (PySem.W.mg_of X G g_NUMBERS_OF_CALL) MD
end Sc

end
section
set_option Elab.async false
set_option linter.all false
open PySem PySem.W PyProof.Rows
set_option maxRecDepth 100000 in
set_option maxHeartbeats 0 in
theorem PySem.Challenge.cw_stationclock_s01_answers_holds : PySem.Challenge.rw_stationclock_s01_answers.Holds := by
  w_on; k_headS; (case hw => exact ⟨[.list [.int 0, .int 1, .int 1, .int 0]], by decide +kernel, by decide +kernel⟩)
  k_fillS
  refine L2.walk_specK (r := PySem.Challenge.rw_stationclock_s01_answers) (k := 8) (CX := L2.CX0) (ps := ["calls"]) (sp := Sc.spAns) (by decide +kernel) rfl rfl ⟨rfl, by decide, by decide⟩ (fun w h Y => PySem.W.kIn_of Y) ?F ?S (fun _ _ _ _ z => z)
  case F =>
    intro w mg fa h Y KX G hmg
    refine' Sc.all_mk KX G hmg ?n_MILLION ?n_BILLION ?n_MOST_MORE ?n_NEARING_SECONDS ?n_OUT_OF_RANGE ?n_NOTHING_THERE ?n_OUT_OF_TURN ?n_TAKEN ?n_DOUBTED ?n_BELIEVED ?n_MOST_PPM ?n_MOST_COUNTER ?n_MOST_TIME ?n_MOST_OFF ?n_MOST_KEPT ?n_ENOUGH_TO_BELIEVE ?n_BEGIN ?n_REFER ?n_NOW ?n_LOOK ?n_RATE ?n_WHEN ?n_REFS ?z_max ?z_min ?z_len ?g_NUMBERS_OF_CALL ?l_NUMBERS_OF_CALL ?g_Tick ?pg_Tick ?hd_Tick ?po_Tick ?sa_Tick ?mk_Tick ?kc_Tick ?no_Tick_num ?no_Tick_den ?no_Tick_ppm ?g_Reference ?pg_Reference ?hd_Reference ?po_Reference ?sa_Reference ?mk_Reference ?kc_Reference ?no_Reference_counter ?no_Reference_time ?no_Reference_off ?g_Told ?pg_Told ?hd_Told ?po_Told ?sa_Told ?mk_Told ?kc_Told ?no_Told_counter ?no_Told_value ?no_Told_base ?no_Told_more ?no_Told_till ?g_Station ?pg_Station ?hd_Station ?po_Station ?sa_Station ?mk_Station ?kc_Station ?no_Station_tick ?no_Station_seen ?no_Station_kept ?no_Station_doubted ?no_Station_told ?no_Station_times_taken ?no_Station_times_doubted ?no_Station_times_believed ?a_Tick___init__ ?i_Tick___init__ ?l_Tick___init__ ?cd_ok_Tick___init__ ?k_Tick___init__ ?a_Reference___init__ ?i_Reference___init__ ?l_Reference___init__ ?cd_ok_Reference___init__ ?k_Reference___init__ ?a_Told___init__ ?i_Told___init__ ?l_Told___init__ ?cd_ok_Told___init__ ?k_Told___init__ ?a_Station___init__ ?i_Station___init__ ?l_Station___init__ ?cd_ok_Station___init__ ?k_Station___init__ ?a_Station_start_with ?i_Station_start_with ?l_Station_start_with ?cd_ok_Station_start_with ?k_Station_start_with ?a_Station_begin ?i_Station_begin ?l_Station_begin ?cd_ok_Station_begin ?k_Station_begin ?a_Station_refer ?i_Station_refer ?l_Station_refer ?cd_ok_Station_refer ?k_Station_refer ?a_Station_now ?i_Station_now ?l_Station_now ?cd_ok_Station_now ?k_Station_now ?a_Station_look ?i_Station_look ?l_Station_look ?cd_ok_Station_look ?k_Station_look ?a_Station_rate ?i_Station_rate ?l_Station_rate ?cd_ok_Station_rate ?k_Station_rate ?a_Station_when ?i_Station_when ?l_Station_when ?cd_ok_Station_when ?k_Station_when ?a_Station_refs ?i_Station_refs ?l_Station_refs ?cd_ok_Station_refs ?k_Station_refs ?a_Station_counts ?i_Station_counts ?l_Station_counts ?cd_ok_Station_counts ?k_Station_counts ?a_Station_refusal_of_counter ?i_Station_refusal_of_counter ?l_Station_refusal_of_counter ?cd_ok_Station_refusal_of_counter ?k_Station_refusal_of_counter ?a_Station_doubt ?i_Station_doubt ?l_Station_doubt ?cd_ok_Station_doubt ?k_Station_doubt ?a_Station_keep ?i_Station_keep ?l_Station_keep ?cd_ok_Station_keep ?k_Station_keep ?a_quotient_up ?l_quotient_up ?cd_ok_quotient_up ?k_quotient_up ?a_within ?l_within ?cd_ok_within ?k_within ?a_cut_to ?l_cut_to ?cd_ok_cut_to ?k_cut_to ?a_earliest_by ?l_earliest_by ?cd_ok_earliest_by ?k_earliest_by ?a_latest_by ?l_latest_by ?cd_ok_latest_by ?k_latest_by ?a_least_time ?l_least_time ?cd_ok_least_time ?k_least_time ?a_greatest_time ?l_greatest_time ?cd_ok_greatest_time ?k_greatest_time ?a_agrees ?l_agrees ?cd_ok_agrees ?k_agrees ?a_least_and_greatest_rate ?l_least_and_greatest_rate ?cd_ok_least_and_greatest_rate ?k_least_and_greatest_rate ?a_rate_by ?l_rate_by ?cd_ok_rate_by ?k_rate_by ?a_parts_in_microsecond ?l_parts_in_microsecond ?cd_ok_parts_in_microsecond ?k_parts_in_microsecond ?a_nearing_step ?l_nearing_step ?cd_ok_nearing_step ?k_nearing_step ?a_later_step ?l_later_step ?cd_ok_later_step ?k_later_step ?a_told_value ?l_told_value ?cd_ok_told_value ?k_told_value ?a_told_time ?l_told_time ?cd_ok_told_time ?k_told_time ?a_told_at_first ?l_told_at_first ?cd_ok_told_at_first ?k_told_at_first ?a_brought_nearer ?l_brought_nearer ?cd_ok_brought_nearer ?k_brought_nearer ?a_first_counter_telling ?l_first_counter_telling ?cd_ok_first_counter_telling ?k_first_counter_telling ?a_answer_to ?l_answer_to ?cd_ok_answer_to ?k_answer_to ?a_answers ?l_answers ?cd_ok_answers ?k_answers
    (case n_MILLION => k_is)
    (case n_BILLION => k_is)
    (case n_MOST_MORE => k_is)
    (case n_NEARING_SECONDS => k_is)
    (case n_OUT_OF_RANGE => k_is)
    (case n_NOTHING_THERE => k_is)
    (case n_OUT_OF_TURN => k_is)
    (case n_TAKEN => k_is)
    (case n_DOUBTED => k_is)
    (case n_BELIEVED => k_is)
    (case n_MOST_PPM => k_is)
    (case n_MOST_COUNTER => k_is)
    (case n_MOST_TIME => k_is)
    (case n_MOST_OFF => k_is)
    (case n_MOST_KEPT => k_is)
    (case n_ENOUGH_TO_BELIEVE => k_is)
    (case n_BEGIN => k_is)
    (case n_REFER => k_is)
    (case n_NOW => k_is)
    (case n_LOOK => k_is)
    (case n_RATE => k_is)
    (case n_WHEN => k_is)
    (case n_REFS => k_is)
    (case z_max => k_is)
    (case z_min => k_is)
    (case z_len => k_is)
    (case g_NUMBERS_OF_CALL => k_is)
    (case l_NUMBERS_OF_CALL => k_is)
    (case g_Tick => k_is)
    (case pg_Tick => k_is)
    (case hd_Tick => k_is)
    (case po_Tick => k_is)
    (case sa_Tick => k_is)
    (case mk_Tick => k_is)
    (case kc_Tick => k_is)
    (case no_Tick_num => k_is)
    (case no_Tick_den => k_is)
    (case no_Tick_ppm => k_is)
    (case g_Reference => k_is)
    (case pg_Reference => k_is)
    (case hd_Reference => k_is)
    (case po_Reference => k_is)
    (case sa_Reference => k_is)
    (case mk_Reference => k_is)
    (case kc_Reference => k_is)
    (case no_Reference_counter => k_is)
    (case no_Reference_time => k_is)
    (case no_Reference_off => k_is)
    (case g_Told => k_is)
    (case pg_Told => k_is)
    (case hd_Told => k_is)
    (case po_Told => k_is)
    (case sa_Told => k_is)
    (case mk_Told => k_is)
    (case kc_Told => k_is)
    (case no_Told_counter => k_is)
    (case no_Told_value => k_is)
    (case no_Told_base => k_is)
    (case no_Told_more => k_is)
    (case no_Told_till => k_is)
    (case g_Station => k_is)
    (case pg_Station => k_is)
    (case hd_Station => k_is)
    (case po_Station => k_is)
    (case sa_Station => k_is)
    (case mk_Station => k_is)
    (case kc_Station => k_is)
    (case no_Station_tick => k_is)
    (case no_Station_seen => k_is)
    (case no_Station_kept => k_is)
    (case no_Station_doubted => k_is)
    (case no_Station_told => k_is)
    (case no_Station_times_taken => k_is)
    (case no_Station_times_doubted => k_is)
    (case no_Station_times_believed => k_is)
    (case a_Tick___init__ => k_is)
    (case i_Tick___init__ => k_is)
    (case l_Tick___init__ => k_is)
    (case cd_ok_Tick___init__ => k_is)
    (case k_Tick___init__ => k_is)
    (case a_Reference___init__ => k_is)
    (case i_Reference___init__ => k_is)
    (case l_Reference___init__ => k_is)
    (case cd_ok_Reference___init__ => k_is)
    (case k_Reference___init__ => k_is)
    (case a_Told___init__ => k_is)
    (case i_Told___init__ => k_is)
    (case l_Told___init__ => k_is)
    (case cd_ok_Told___init__ => k_is)
    (case k_Told___init__ => k_is)
    (case a_Station___init__ => k_is)
    (case i_Station___init__ => k_is)
    (case l_Station___init__ => k_is)
    (case cd_ok_Station___init__ => k_is)
    (case k_Station___init__ => k_is)
    (case a_Station_start_with => k_is)
    (case i_Station_start_with => k_is)
    (case l_Station_start_with => k_is)
    (case cd_ok_Station_start_with => k_is)
    (case k_Station_start_with => k_is)
    (case a_Station_begin => k_is)
    (case i_Station_begin => k_is)
    (case l_Station_begin => k_is)
    (case cd_ok_Station_begin => k_is)
    (case k_Station_begin => k_is)
    (case a_Station_refer => k_is)
    (case i_Station_refer => k_is)
    (case l_Station_refer => k_is)
    (case cd_ok_Station_refer => k_is)
    (case k_Station_refer => k_is)
    (case a_Station_now => k_is)
    (case i_Station_now => k_is)
    (case l_Station_now => k_is)
    (case cd_ok_Station_now => k_is)
    (case k_Station_now => k_is)
    (case a_Station_look => k_is)
    (case i_Station_look => k_is)
    (case l_Station_look => k_is)
    (case cd_ok_Station_look => k_is)
    (case k_Station_look => k_is)
    (case a_Station_rate => k_is)
    (case i_Station_rate => k_is)
    (case l_Station_rate => k_is)
    (case cd_ok_Station_rate => k_is)
    (case k_Station_rate => k_is)
    (case a_Station_when => k_is)
    (case i_Station_when => k_is)
    (case l_Station_when => k_is)
    (case cd_ok_Station_when => k_is)
    (case k_Station_when => k_is)
    (case a_Station_refs => k_is)
    (case i_Station_refs => k_is)
    (case l_Station_refs => k_is)
    (case cd_ok_Station_refs => k_is)
    (case k_Station_refs => k_is)
    (case a_Station_counts => k_is)
    (case i_Station_counts => k_is)
    (case l_Station_counts => k_is)
    (case cd_ok_Station_counts => k_is)
    (case k_Station_counts => k_is)
    (case a_Station_refusal_of_counter => k_is)
    (case i_Station_refusal_of_counter => k_is)
    (case l_Station_refusal_of_counter => k_is)
    (case cd_ok_Station_refusal_of_counter => k_is)
    (case k_Station_refusal_of_counter => k_is)
    (case a_Station_doubt => k_is)
    (case i_Station_doubt => k_is)
    (case l_Station_doubt => k_is)
    (case cd_ok_Station_doubt => k_is)
    (case k_Station_doubt => k_is)
    (case a_Station_keep => k_is)
    (case i_Station_keep => k_is)
    (case l_Station_keep => k_is)
    (case cd_ok_Station_keep => k_is)
    (case k_Station_keep => k_is)
    (case a_quotient_up => k_is)
    (case l_quotient_up => k_is)
    (case cd_ok_quotient_up => k_is)
    (case k_quotient_up => k_is)
    (case a_within => k_is)
    (case l_within => k_is)
    (case cd_ok_within => k_is)
    (case k_within => k_is)
    (case a_cut_to => k_is)
    (case l_cut_to => k_is)
    (case cd_ok_cut_to => k_is)
    (case k_cut_to => k_is)
    (case a_earliest_by => k_is)
    (case l_earliest_by => k_is)
    (case cd_ok_earliest_by => k_is)
    (case k_earliest_by => k_is)
    (case a_latest_by => k_is)
    (case l_latest_by => k_is)
    (case cd_ok_latest_by => k_is)
    (case k_latest_by => k_is)
    (case a_least_time => k_is)
    (case l_least_time => k_is)
    (case cd_ok_least_time => k_is)
    (case k_least_time => k_is)
    (case a_greatest_time => k_is)
    (case l_greatest_time => k_is)
    (case cd_ok_greatest_time => k_is)
    (case k_greatest_time => k_is)
    (case a_agrees => k_is)
    (case l_agrees => k_is)
    (case cd_ok_agrees => k_is)
    (case k_agrees => k_is)
    (case a_least_and_greatest_rate => k_is)
    (case l_least_and_greatest_rate => k_is)
    (case cd_ok_least_and_greatest_rate => k_is)
    (case k_least_and_greatest_rate => k_is)
    (case a_rate_by => k_is)
    (case l_rate_by => k_is)
    (case cd_ok_rate_by => k_is)
    (case k_rate_by => k_is)
    (case a_parts_in_microsecond => k_is)
    (case l_parts_in_microsecond => k_is)
    (case cd_ok_parts_in_microsecond => k_is)
    (case k_parts_in_microsecond => k_is)
    (case a_nearing_step => k_is)
    (case l_nearing_step => k_is)
    (case cd_ok_nearing_step => k_is)
    (case k_nearing_step => k_is)
    (case a_later_step => k_is)
    (case l_later_step => k_is)
    (case cd_ok_later_step => k_is)
    (case k_later_step => k_is)
    (case a_told_value => k_is)
    (case l_told_value => k_is)
    (case cd_ok_told_value => k_is)
    (case k_told_value => k_is)
    (case a_told_time => k_is)
    (case l_told_time => k_is)
    (case cd_ok_told_time => k_is)
    (case k_told_time => k_is)
    (case a_told_at_first => k_is)
    (case l_told_at_first => k_is)
    (case cd_ok_told_at_first => k_is)
    (case k_told_at_first => k_is)
    (case a_brought_nearer => k_is)
    (case l_brought_nearer => k_is)
    (case cd_ok_brought_nearer => k_is)
    (case k_brought_nearer => k_is)
    (case a_first_counter_telling => k_is)
    (case l_first_counter_telling => k_is)
    (case cd_ok_first_counter_telling => k_is)
    (case k_first_counter_telling => k_is)
    (case a_answer_to => k_is)
    (case l_answer_to => k_is)
    (case cd_ok_answer_to => k_is)
    (case k_answer_to => k_is)
    (case a_answers => k_is)
    (case l_answers => k_is)
    (case cd_ok_answers => k_is)
    (case k_answers => k_is)
  case S =>
    intro K H xs a hO hwi hask hx
    cases hx with
    | cons h1 h2 =>
      cases h2
      cases h1 with
      | lst hs ha =>
        have e := L2.ints_dw a.1 _ ha
        subst e
        exact ⟨_, a.1, rfl, hs, hask, fun H' p hp => .lst (L2.SqL.of hp) (L2.dw_ints _)⟩
#print axioms PySem.Challenge.cw_stationclock_s01_answers_holds

end
