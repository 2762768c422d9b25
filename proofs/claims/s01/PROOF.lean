import PyProof.Rows.All
import Wide.All
import OpenK.AllK
import Wide.FinOn
import PyProof.EqAt
import PyProof.EqKinds
import PyProof.TupleCall
import KE.BitLaws
import KE.OsGo
import Open.SpecLaws
import PyFlatLaws
import PySem.Challenge.RW_throwstack_s01_answers
set_option Elab.async false
set_option linter.all false
set_option maxRecDepth 100000
set_option maxHeartbeats 4000000
namespace L2
open PySem PySem.Spec PyProof.Rows
/-- a key: an int or a str -/
abbrev Key := Sum Int Str
def keyIs : Key → Value → Bool
  | .inl k, v => Value.isInt k v
  | .inr x, v => Value.isStrOf x v
def keyH (w : World) : Key → Int
  | .inl k => hashInt k
  | .inr x => hashStr w x
theorem keyIs_shape : ∀ {k : Key} {v : Value}, keyIs k v = true → (∃ i t, k = Sum.inl i ∧ v = Value.int i t) ∨ (∃ x t, k = Sum.inr x ∧ v = Value.str x t)
  | .inl i, v, h => by
    obtain ⟨t, e⟩ := Value.isInt_shape (k := i) (v := v) h
    exact .inl ⟨i, t, rfl, e⟩
  | .inr x, v, h => by
    obtain ⟨t, e⟩ := Value.isStrOf_shape (x := x) (v := v) h
    exact .inr ⟨x, t, rfl, e⟩
theorem key_ll (a b : Int) : decide ((Sum.inl a : Key) = Sum.inl b) = (a == b) := by
  by_cases e : a = b
  · subst e; simp
  · have h : ¬ (Sum.inl a : Key) = Sum.inl b := fun q => e (Sum.inl.inj q)
    rw [decide_eq_false h]
    exact (beq_eq_false_iff_ne.mpr e).symm
theorem key_rr (a b : Str) : decide ((Sum.inr a : Key) = Sum.inr b) = decide (a = b) := by
  by_cases e : a = b
  · subst e; simp
  · have h : ¬ (Sum.inr a : Key) = Sum.inr b := fun q => e (Sum.inr.inj q)
    rw [decide_eq_false h, decide_eq_false e]
theorem key_lr (a : Int) (b : Str) : decide ((Sum.inl a : Key) = Sum.inr b) = false := decide_eq_false (fun q => nomatch q)
theorem key_rl (a : Str) (b : Int) : decide ((Sum.inr a : Key) = Sum.inl b) = false := decide_eq_false (fun q => nomatch q)
def mixKind (prog : Program) (w : World) : PySem.KeyKind prog w Key where
  is := keyIs
  hash := keyH w
  inj := fun v a b ha hb => by
    rcases keyIs_shape ha with ⟨i, t, rfl, rfl⟩ | ⟨x, t, rfl, rfl⟩
    · rcases keyIs_shape hb with ⟨j, u, rfl, e⟩ | ⟨y, u, rfl, e⟩
      · injection e with e1 _; rw [e1]
      · exact nomatch e
    · rcases keyIs_shape hb with ⟨j, u, rfl, e⟩ | ⟨y, u, rfl, e⟩
      · exact nomatch e
      · injection e with e1 _; rw [e1]
  byValue := fun k v h => by
    rcases keyIs_shape h with ⟨i, t, rfl, rfl⟩ | ⟨x, t, rfl, rfl⟩ <;> rfl
  pyHash := fun hv h => by
    rcases keyIs_shape hv with ⟨i, t, rfl, rfl⟩ | ⟨x, t, rfl, rfl⟩
    · exact wpAny_pyHash_int h
    · exact wpAny_pyHash_str h
  eqBool := fun hu hv h => by
    rcases keyIs_shape hu with ⟨i, t, rfl, rfl⟩ | ⟨x, t, rfl, rfl⟩
    · rcases keyIs_shape hv with ⟨j, u, rfl, rfl⟩ | ⟨y, u, rfl, rfl⟩
      · rw [key_ll] at h; exact wpAny_eqBool_int h
      · rw [key_lr] at h; exact SeqAt.EqAt.int_str i t y u _ _ _ _ h
    · rcases keyIs_shape hv with ⟨j, u, rfl, rfl⟩ | ⟨y, u, rfl, rfl⟩
      · rw [key_rl] at h; exact SeqAt.EqAt.str_int x t j u _ _ _ _ h
      · rw [key_rr] at h; exact wpAny_eqBool_str h
  «strs» := fun k x t v h => by
    rcases keyIs_shape h with ⟨i, u, rfl, e⟩ | ⟨y, u, rfl, e⟩
    · exact nomatch e
    · injection e with e1 _
      subst e1
      cases v <;> rfl
end L2
namespace L2
open PySem PySem.Spec PyProof.Rows
/-- a value, without the heap -/
inductive V where
  | non | bl (b : Bool) | int (i : Int) | str (x : Str) | byt (b : Array UInt8) | flt (b : UInt64) | ref (a : Addr) | ty (n : String)
  deriving DecidableEq
def RelV : V → Value → Prop
  | .non, u => u = Value.none
  | .bl b, u => u = Value.bool b
  | .int i, u => ∃ t, u = Value.int i t
  | .str x, u => ∃ t, u = Value.str x t
  | .byt b, u => ∃ t, u = Value.bytes b t
  | .flt b, u => ∃ t, u = Value.float b t
  | .ref a, u => u = Value.ref a
  | .ty n, u => u = Value.type n
abbrev Vals : List V → List Value → Prop := Paired RelV
theorem Vals.length {xs : List V} {us : List Value} (r : Vals xs us) : xs.length = us.length := Paired.length r
theorem Vals.get : ∀ {xs : List V} {us : List Value} {i : Nat} {x : V}, Vals xs us → xs[i]? = some x → ∃ u, us[i]? = some u ∧ RelV x u
  | _, _, _, _, .nil, e => by simp at e
  | _, _, 0, _, .cons r _, e => by simp at e; subst e; exact ⟨_, rfl, r⟩
  | _, _, i + 1, x, .cons _ t, e => by
    obtain ⟨u, h1, h2⟩ := Vals.get (i := i) (x := x) t (by simpa using e)
    exact ⟨u, by simpa using h1, h2⟩
theorem Vals.set {x : V} {u : Value} (r : RelV x u) : ∀ {xs : List V} {us : List Value} (i : Nat), Vals xs us → Vals (xs.set i x) (us.set i u)
  | _, _, _, .nil => .nil
  | _, _, 0, .cons _ t => .cons r t
  | _, _, i + 1, .cons q t => .cons q (Vals.set r i t)
theorem Vals.append : ∀ {xs ys : List V} {us ws : List Value}, Vals xs us → Vals ys ws → Vals (xs ++ ys) (us ++ ws)
  | _, _, _, _, .nil, s => s
  | _, _, _, _, .cons r t, s => .cons r (Vals.append t s)
theorem Vals.take : ∀ {xs : List V} {us : List Value} (n : Nat), Vals xs us → Vals (xs.take n) (us.take n)
  | _, _, 0, _ => .nil
  | _, _, _ + 1, .nil => .nil
  | _, _, n + 1, .cons r t => .cons r (Vals.take n t)
theorem Vals.drop : ∀ {xs : List V} {us : List Value} (n : Nat), Vals xs us → Vals (xs.drop n) (us.drop n)
  | _, _, 0, r => r
  | _, _, _ + 1, .nil => .nil
  | _, _, n + 1, .cons _ t => Vals.drop n t
def RelO : Option V → Option Value → Prop
  | some v, some u => RelV v u
  | none, none => True
  | _, _ => False
def KV {κ : Type} : List (κ × V) → List (κ × Value) → Prop := Paired fun (p : κ × V) (q : κ × Value) => p.1 = q.1 ∧ RelV p.2 q.2
/-- a key of a dict (00_mix): an int or a text -/
def kV : Key → V
  | .inl i => .int i
  | .inr x => .str x
/-- what stands at a tracked address -/
inductive HO where
  /-- a list -/
  | lst (xs : List V)
  /-- a tuple (never changes) -/
  | tup (xs : List V)
  /-- a dict whose keys are ints and texts; one whose keys are tuples of ints and texts (the empty one is both) -/
  | dK (kvs : List (Key × V)) | dT (kvs : List (List Key × V))
  /-- a set of ints: its members, its size -/
  | set (S : Int → Bool) (n : Nat)
  /-- an instance of the class at C, its dict at dx, its attributes -/
  | ins (C dx : Addr) (fs : List (Str × V))
  /-- the dict of the instance at x -/
  | own (x : Addr)
  /-- the dict of an exception -/
  | xd (fs : List (Str × V))
  /-- a bound method, f of x -/
  | met (f x : Addr)
  /-- a range object lo, lo + 1, .. below hi -/
  | rng (lo hi : Int)
  /-- a thing that is known to the object (the script; a dict while a loop walks it): read, never written while it is so -/
  | frz (o : Obj) (u : HO)
  /-- a code object's table -/
  | tbl (ps : Array Value)
  /-- any other thing, by what is true of its one object (a def of one's own: SetO a S n := HO.ext fun h => ..) -/
  | ext (φ : Heap → Prop)
abbrev Hp := Addr → Option HO
def upd (H : Hp) (a : Addr) (o : HO) : Hp := fun b => if b = a then some o else H b
theorem upd_same {H : Hp} {a : Addr} {o : HO} : upd H a o a = some o := by unfold upd; rw [if_pos rfl]
theorem upd_ne {H : Hp} {a b : Addr} {o : HO} (h : b ≠ a) : upd H a o b = H b := by unfold upd; rw [if_neg h]
theorem upd_upd {H : Hp} {a : Addr} {o u : HO} : upd (upd H a o) a u = upd H a u := by
  funext b; unfold upd; split <;> rfl
/-- two objects of different content stand apart -/
theorem ne_of {H : Hp} {a b : Addr} {o u : HO} (h : H a = some o) (h' : H b = some u) (d : o ≠ u) : a ≠ b := by
  intro e; subst e; rw [h] at h'; exact d (Option.some.inj h')
theorem ne_of_none {H : Hp} {a b : Addr} {o : HO} (h : H a = some o) (h' : H b = none) : a ≠ b := by
  intro e; subst e; rw [h] at h'; cases h'
section
variable (P : Program) (w : World)
def ObjOk (H : Hp) (h : Heap) (a : Addr) : HO → Prop
  | .lst xs => xs.length ≤ sizeLine ∧ ∃ (its : List Value) (n : Nat), Vals xs its ∧ h.get? a = some { cls := .type "list", data := .seq its.toArray n }
  | .tup xs => xs.length ≤ sizeLine ∧ ∃ its : List Value, Vals xs its ∧ IsTup h a its.toArray
  | .dK kvs => kvs.length ≤ sizeLine ∧ (a == sysModules) = false ∧ ∃ vs, KV kvs vs ∧ h.DictOf (mixKind P w) a vs
  | .dT kvs => kvs.length ≤ sizeLine ∧ (a == sysModules) = false ∧ ∃ xs : List (List Key × Addr × Value),
      Paired (fun (p : List Key × V) (q : List Key × Addr × Value) => p.1 = q.1 ∧ H q.2.1 = some (.tup (p.1.map kV)) ∧ RelV p.2 q.2.2) kvs xs ∧
      ∃ o es ep, h.get? a = some o ∧ o.ExactDict ∧ o.data = .dict es ep ∧ es.toList = xs.map (entryOfKey (tupleKind (mixKind P w))) ∧ (xs.map (·.1)).Nodup
  | .set S n => h.SetOf (intKind P w) a S n
  | .ins C dx fs => H dx = some (.own a) ∧ fs.length ≤ 1000 ∧ dx ≠ a ∧ h.get? a = some (PySem.W.instObj C dx) ∧
      ∃ mA, h.Ns1 dx mA ∧ (∀ f, RelO (fs.lookup f) (mA f)) ∧ PySem.Within mA (fs.map (·.1))
  | .own _ => ∃ o, h.get? a = some o
  | .xd fs => ∃ mA, h.Ns1 a mA ∧ ∀ f, RelO (fs.lookup f) (mA f)
  | .rng lo hi => ∃ t u v, h.get? a = some { cls := .type "range", data := .fields #[.int lo t, .int hi u, .int 1 v] }
  | .frz o u => h.get? a = some o ∧ ObjOk H h a u
  | .tbl ps => h.get? a = some { cls := .none, data := .fields ps }
  | .met f x => h.get? a = some (PySem.W.methodObj (.ref f) (.ref x))
  | .ext φ => φ h ∧ (∃ o, h.get? a = some o) ∧ ∀ h1 h2 : Heap, φ h1 → (∀ o, h1.get? a = some o → h2.get? a = some o) → φ h2
/-- the abstract heap is held -/
def HOk (H : Hp) (h : Heap) : Prop := ∀ a o, H a = some o → ObjOk P w H h a o
end
section
variable {P : Program} {w : World} {H H' : Hp} {h h' : Heap} {a : Addr} {o : HO}
theorem ObjOk.lt (x : ObjOk P w H h a o) : a < h.objs.size := by
  cases o with
  | lst xs => obtain ⟨_, _, _, _, e⟩ := x; exact Heap.lt_size e
  | tup xs => obtain ⟨_, _, _, p⟩ := x; exact p.lt
  | dK kvs => obtain ⟨_, _, _, _, o, _, _, e, _⟩ := x; exact Heap.lt_size e
  | dT kvs => obtain ⟨_, _, _, _, o, _, _, e, _⟩ := x; exact Heap.lt_size e
  | set S n => obtain ⟨o, _, _, _, e, _⟩ := x; exact Heap.lt_size e
  | ins C dx fs => obtain ⟨_, _, _, e, _⟩ := x; exact Heap.lt_size e
  | own y => obtain ⟨_, e⟩ := x; exact Heap.lt_size e
  | xd fs => obtain ⟨_, ⟨_, _, _, e, _⟩, _⟩ := x; exact Heap.lt_size e
  | rng lo hi => obtain ⟨_, _, _, e⟩ := x; exact Heap.lt_size e
  | frz ob u => obtain ⟨e, _⟩ := x; exact Heap.lt_size e
  | tbl ps => exact Heap.lt_size (show h.get? a = some _ from x)
  | met f y => exact Heap.lt_size (show h.get? a = some _ from x)
  | ext φ => obtain ⟨_, ⟨_, e⟩, _⟩ := x; exact Heap.lt_size e
theorem Paired.mapP {α β : Type} {F G : α → β → Prop} : ∀ {l₁ : List α} {l₂ : List β}, Paired F l₁ l₂ → (∀ a b, F a b → G a b) → Paired G l₁ l₂
  | _, _, .nil, _ => .nil
  | _, _, .cons r t, f => .cons (f _ _ r) (Paired.mapP t f)
/-- what an object's description leans on: its own object, its own dict, the tuples -/
theorem ObjOk.stay (x : ObjOk P w H h a o) (k : ∀ b u, (b = a ∨ H b = some (.own a)) → h.get? b = some u → h'.get? b = some u)
    (ho : ∀ b, H b = some (.own a) → H' b = some (.own a)) (ht : ∀ b xs, H b = some (.tup xs) → H' b = some (.tup xs)) : ObjOk P w H' h' a o := by
  induction o with
  | lst xs => obtain ⟨z, its, n, r, e⟩ := x; exact ⟨z, its, n, r, k _ _ (.inl rfl) e⟩
  | tup xs => obtain ⟨z, its, r, ob, e, c⟩ := x; exact ⟨z, its, r, ob, k _ _ (.inl rfl) e, c⟩
  | dK kvs => obtain ⟨z, y, vs, r, ob, es, ep, e, c⟩ := x; exact ⟨z, y, vs, r, ob, es, ep, k _ _ (.inl rfl) e, c⟩
  | dT kvs =>
    obtain ⟨z, y, xs, r, ob, es, ep, e, c⟩ := x
    exact ⟨z, y, xs, Paired.mapP r fun p q z => ⟨z.1, ht _ _ z.2.1, z.2.2⟩, ob, es, ep, k _ _ (.inl rfl) e, c⟩
  | set S n => obtain ⟨ob, es, ep, t, e, c⟩ := x; exact ⟨ob, es, ep, t, k _ _ (.inl rfl) e, c⟩
  | ins C dx fs =>
    obtain ⟨d, z, ne, e, mA, ⟨od, es, ep, e2, c⟩, r⟩ := x
    exact ⟨ho _ d, z, ne, k _ _ (.inl rfl) e, mA, ⟨od, es, ep, k _ _ (.inr d) e2, c⟩, r⟩
  | own y => obtain ⟨ob, e⟩ := x; exact ⟨ob, k _ _ (.inl rfl) e⟩
  | xd fs => obtain ⟨mA, ⟨od, es, ep, e, c⟩, r⟩ := x; exact ⟨mA, ⟨od, es, ep, k _ _ (.inl rfl) e, c⟩, r⟩
  | rng lo hi => obtain ⟨t, u, v, e⟩ := x; exact ⟨t, u, v, k _ _ (.inl rfl) e⟩
  | frz ob u ih => obtain ⟨e, q⟩ := x; exact ⟨k _ _ (.inl rfl) e, ih q⟩
  | tbl ps =>
    have e : h.get? a = some { cls := .none, data := .fields ps } := x
    show h'.get? a = some { cls := .none, data := .fields ps }
    exact k a _ (.inl rfl) e
  | met f y =>
    have e : h.get? a = some (PySem.W.methodObj (.ref f) (.ref y)) := x
    show h'.get? a = some (PySem.W.methodObj (.ref f) (.ref y))
    exact k a _ (.inl rfl) e
  | ext φ => obtain ⟨p, ⟨o, e⟩, st⟩ := x; exact ⟨st _ _ p fun o q => k _ _ (.inl rfl) q, ⟨o, k _ _ (.inl rfl) e⟩, st⟩
theorem HOk.lt (x : HOk P w H h) (e : H a = some o) : a < h.objs.size := (x a o e).lt
theorem HOk.fresh (x : HOk P w H h) (e : h.objs.size ≤ a) : H a = none := by
  cases q : H a with
  | none => rfl
  | some u => exact absurd (Nat.lt_of_lt_of_le (x.lt q) e) (Nat.lt_irrefl _)
/-- every object of the heap is kept -/
theorem HOk.kept (x : HOk P w H h) (k : ∀ b u, h.get? b = some u → h'.get? b = some u) : HOk P w H h' := fun a o e =>
  (x a o e).stay (fun b u _ q => k b u q) (fun _ q => q) fun _ _ q => q
/-- a new object is laid and tracked -/
theorem HOk.laid (x : HOk P w H h) (k : ∀ b u, h.get? b = some u → h'.get? b = some u) (hp : h.objs.size ≤ a) (new : ObjOk P w (upd H a o) h' a o) : HOk P w (upd H a o) h' := fun b u e => by
  have hn := x.fresh hp
  by_cases hb : b = a
  · subst hb; rw [upd_same] at e; cases e; exact new
  · rw [upd_ne hb] at e
    exact (x b u e).stay (fun c v _ q => k c v q) (fun c q => by rw [upd_ne (ne_of_none q hn)]; exact q) fun c xs q => by rw [upd_ne (ne_of_none q hn)]; exact q
end
/-- what may be read as u: it is u, or a known u -/
def Rd (H : Hp) (a : Addr) (u : HO) : Prop := H a = some u ∨ ∃ o, H a = some (.frz o u)
theorem Rd.ok {P : Program} {w : World} {H : Hp} {h : Heap} {a : Addr} {u : HO} (r : Rd H a u) (x : HOk P w H h) : ObjOk P w H h a u := by
  rcases r with r | ⟨o, r⟩
  · exact x a u r
  · obtain ⟨_, q⟩ := x a _ r
    exact q
/-- what may be written -/
def Mut : Option HO → Prop
  | some (.lst _) => True
  | some (.dK _) => True
  | some (.dT _) => True
  | some (.set _ _) => True
  | some (.ins _ _ _) => True
  | some (.ext _) => True
  | _ => False
section
variable {P : Program} {w : World} {H : Hp} {h h' : Heap} {x e : Addr} {o' : HO}
/-- the object at e is changed: x itself, or the dict of the instance x -/
theorem HOk.write (ok : HOk P w H h) (mu : Mut (H x)) (he : e = x ∨ H e = some (.own x)) (k : ∀ b u, b ≠ e → h.get? b = some u → h'.get? b = some u) (heo : ∃ u, h'.get? e = some u)
    (new : ObjOk P w (upd H x o') h' x o') : HOk P w (upd H x o') h' := fun b u q => by
  have nown : ∀ c y, H c = some (.own y) → c ≠ x := fun c y r z => by subst z; rw [r] at mu; exact mu
  have ntup : ∀ c xs, H c = some (.tup xs) → c ≠ x := fun c xs r z => by subst z; rw [r] at mu; exact mu
  by_cases hb : b = x
  · subst hb; rw [upd_same] at q; cases q; exact new
  · rw [upd_ne hb] at q
    by_cases hbe : b = e
    · have q' : H b = some (.own x) := by
        rcases he with z | z
        · exact absurd (hbe.trans z) hb
        · rw [hbe]; exact z
      rw [q] at q'; cases q'
      obtain ⟨v, hv⟩ := heo
      exact ⟨v, by rw [hbe]; exact hv⟩
    · refine (ok b u q).stay (fun c v hc r => k c v ?_ r) (fun c r => by rw [upd_ne (nown c b r)]; exact r) fun c xs r => by rw [upd_ne (ntup c xs r)]; exact r
      rcases hc with rfl | hc
      · exact hbe
      · rintro rfl
        rcases he with z | z
        · exact nown c b hc z
        · rw [hc] at z; cases z; exact hb rfl
end
structure Un (fs ex : List Addr) (H H' : Hp) (h h' : Heap) : Prop where
  keep : ∀ b o, h.get? b = some o → H b = none → b ∉ fs → b ∉ ex → h'.get? b = some o
  slot : ∀ b o, h.get? b = some o → H b = none → b ∈ fs → b ∉ ex → ∃ sl, h'.get? b = some { o with slots := sl }
  free : ∀ b o, h.get? b = some o → H b = none → b ∉ ex → H' b = none
  there : ∀ b o, h.get? b = some o → b ∉ ex → ∃ o', h'.get? b = some o'
  tups : ∀ b xs, H b = some (.tup xs) → H' b = some (.tup xs)
  frzs : ∀ b o u, H b = some (.frz o u) → H' b = some (.frz o u)
  tbls : ∀ b ps, H b = some (.tbl ps) → ∃ more, H' b = some (.tbl (ps ++ more))
section
variable {fs fs' ex ex' : List Addr} {H H1 H2 : Hp} {h h1 h2 h' : Heap} {a x e : Addr} {o : HO}
theorem Un.any (u : Un fs ex H H1 h h1) {b : Addr} {ob : Obj} (q : h.get? b = some ob) (n : H b = none) (hx : b ∉ ex) : ∃ sl, h1.get? b = some { ob with slots := sl } := by
  by_cases hb : b ∈ fs
  · exact u.slot b ob q n hb hx
  · exact ⟨ob.slots, u.keep b ob q n hb hx⟩
theorem Un.kept (k : ∀ b u, h.get? b = some u → h'.get? b = some u) : Un fs ex H H h h' :=
  ⟨fun b ob q _ _ _ => k b ob q, fun b ob q _ _ _ => ⟨ob.slots, k b ob q⟩, fun _ _ _ n _ => n, fun b ob q _ => ⟨ob, k b ob q⟩, fun _ _ q => q, fun _ _ _ q => q, fun _ ps q => ⟨#[], by rw [q]; simp⟩⟩
theorem Un.refl : Un fs ex H H h h := Un.kept fun _ _ q => q
theorem Un.laid (k : ∀ b u, h.get? b = some u → h'.get? b = some u) (hp : h.objs.size ≤ a) (hn : H a = none) : Un fs ex H (upd H a o) h h' where
  keep := fun b u q _ _ _ => k b u q
  slot := fun b u q _ _ _ => ⟨u.slots, k b u q⟩
  free := fun b u q n _ => by rw [upd_ne (Nat.ne_of_lt (Nat.lt_of_lt_of_le (Heap.lt_size q) hp))]; exact n
  there := fun b u q _ => ⟨u, k b u q⟩
  tups := fun b xs q => by rw [upd_ne (ne_of_none q hn)]; exact q
  frzs := fun b u xs q => by rw [upd_ne (ne_of_none q hn)]; exact q
  tbls := fun b ps q => ⟨#[], by rw [upd_ne (ne_of_none q hn), q]; simp⟩
theorem Un.write (mu : Mut (H x)) (he : e = x ∨ H e = some (.own x)) (k : ∀ b u, b ≠ e → h.get? b = some u → h'.get? b = some u) (heo : ∃ u, h'.get? e = some u) : Un fs ex H (upd H x o) h h' := by
  have hx : ∀ b, H b = none → b ≠ x := fun b n z => by subst z; rw [n] at mu; exact mu
  have hb : ∀ b, H b = none → b ≠ e := fun b n z => by
    subst z
    rcases he with r | r
    · exact hx b n r
    · rw [n] at r; cases r
  have hm : ∀ b u, H b = some u → ¬ Mut (some u) → b ≠ x := fun b u q nm z => by subst z; rw [q] at mu; exact nm mu
  refine ⟨fun b u q n _ _ => k b u (hb b n) q, fun b u q n _ _ => ⟨u.slots, k b u (hb b n) q⟩, fun b u q n _ => by rw [upd_ne (hx b n)]; exact n, fun b u q _ => ?_,
    fun b xs q => by rw [upd_ne (hm b _ q fun z => z)]; exact q, fun b u xs q => by rw [upd_ne (hm b _ q fun z => z)]; exact q, fun b ps q => ⟨#[], by rw [upd_ne (hm b _ q fun z => z), q]; simp⟩⟩
  by_cases hbe : b = e
  · subst hbe; exact heo
  · exact ⟨u, k b u hbe q⟩
end
def trk (h : Heap) (H : Hp) : List Addr := (List.range h.objs.size).filter fun a => (H a).isSome
def hidT (h : Heap) (H : Hp) : Heap := PySem.W.hideAll h (trk h H)
theorem hidT_size (h : Heap) (H : Hp) : (hidT h H).objs.size = h.objs.size := PySem.W.hideAll_size _ _
theorem hidT_get {h : Heap} {H : Hp} {b : Addr} {o : Obj} (e : h.get? b = some o) (n : H b = none) : (hidT h H).get? b = some o :=
  PySem.W.hideAll_get _ e fun hm => by
    have q : (H b).isSome = true := (List.mem_filter.mp hm).2
    rw [n] at q; simp at q
theorem of_hidT {h : Heap} {H : Hp} {b : Addr} {o : Obj} (e : (hidT h H).get? b = some o) : h.get? b = some o ∧ H b = none := by
  have e' : h.get? b = some o := PySem.W.of_hideAll (trk h H) e
  refine ⟨e', ?_⟩
  cases q : H b with
  | none => rfl
  | some x =>
    have hm : b ∈ trk h H := List.mem_filter.mpr ⟨List.mem_range.mpr (Heap.lt_size e'), by simp [q]⟩
    have z : (hidT h H).get? b = none := PySem.W.hideAll_none (trk h H) hm
    rw [z] at e; cases e
end L2
namespace L2
open PySem PySem.Spec PyProof.Rows
/-- the module's facts, over the base: the heap at the law's entry without what is tracked there -/
structure Mod (K : PySem.W.Frag) (mg : Str → Option Value) (base : Heap) : Prop where
  kin : K.In base
  glob : base.Ns mainGlobals mg
  blt : ∃ mb, base.Ns builtinsNs mb ∧ ∀ x : Str, x ≠ "__name__" → mb x = bootBuiltins x
  nolimit : base.NoLimit
/-- the context: a def's body (or a comprehension's block) running. base: fixed through the whole law; s₀, H₀: the entry; outer: the frames whose slots others may change (a def's callers); stack: all frames that run;
   ex: iterators that were made ahead of the entry and are walked here (a comprehension's); fn: the names whose cells were made at the entry (a def: all; a comprehension's block: its own); calm: not within an except suite; pn: pins that every state bears; xe: what is wanted of an exception that leaves the code -/
structure Cx where
  prog : Program
  w : World
  K : PySem.W.Frag
  mg : Str → Option Value
  base : Heap
  A : Around
  N : List Str
  s_0 : Shared
  H_0 : Hp
  env : Env
  outer : List Env
  stack : List Env
  ex : List Addr
  fn : Str → Bool
  calm : Bool
  pn : List (Addr × Obj)
  xe : Value → Shared → Prop
/-- the callers' frames -/
def frs (l : List Env) : List Addr := l.filterMap (·.frame)
abbrev Cx.fs (X : Cx) : List Addr := frs X.outer
def Vis (sc : Scope) (x : Str) : Prop := sc.names.lookup x = some .local ∨ sc.names.lookup x = some .cell ∨ sc.names.lookup x = some .free
def Loc (sc : Scope) (x : Str) : Prop := sc.names.lookup x = some .local ∨ sc.names.lookup x = some .cell
def Look (env : Env) (h : Heap) (m : Str → Option Value) (x : Str) (u : Value) : Prop :=
  (env.kindOf x = some .local ∧ m x = some u) ∨ ((env.kindOf x = some .cell ∨ env.kindOf x = some .free) ∧ ∃ c, env.cells.lookup x = some c ∧ h.IsCell c (some u))
structure Cx.Ok (X : Cx) : Prop where
  mod : Mod X.K X.mg X.base
  kind : X.env.scope.kind = .function
  glob : X.env.globals = mainGlobals
  blt : X.env.builtins = builtinsNs
  above : X.s_0.heap.objs.size ≤ X.env.locals
  inj : ∀ x y c, X.env.cells.lookup x = some c → X.env.cells.lookup y = some c → x = y
  has : ∀ x, (X.env.kindOf x = some .cell ∨ X.env.kindOf x = some .free) → ∃ c, X.env.cells.lookup x = some c
  cab : ∀ x c, X.fn x = true → X.env.cells.lookup x = some c → X.s_0.heap.objs.size ≤ c
  hd : X.calm = true → X.A.handled = none
  frames : X.A.frames = some X.stack
  stk : X.stack = X.outer ∨ (X.stack = X.env :: X.outer ∧ X.env.frame = some X.env.locals)
  exf : ∀ b ∈ X.ex, b ≠ X.env.locals ∧ ∀ x c, X.env.cells.lookup x = some c → c ≠ b
  bs : ∀ b o, X.base.get? b = some o → X.s_0.heap.get? b = some o ∧ X.H_0 b = none
  bsz : X.base.objs.size ≤ X.s_0.heap.objs.size
  noex : ∀ b o, X.base.get? b = some o → b ∉ X.ex
  exfs : ∀ b ∈ X.ex, b ∉ X.fs
  funs : X.s_0.heap.FunFrames X.base X.outer
  frf : ∀ b ∈ X.fs, X.H_0 b = none
structure Inv (X : Cx) (pins : List (Addr × Obj)) (σ : List (Option V)) (H : Hp) (s : Shared) : Prop where
  ok : X.Ok
  os : s.os = X.s_0.os
  bare : AllBare s.gens
  base : Un X.fs X.ex X.H_0 H X.s_0.heap s.heap
  loc : ∃ m, s.heap.Ns X.env.locals m ∧ ∀ (i : Nat) (x : Str) (v : V), X.N[i]? = some x → σ[i]? = some (some v) → Vis X.env.scope x → ∃ u, RelV v u ∧ Look X.env s.heap m x u
  cell : ∀ x c, X.env.cells.lookup x = some c → ∃ v, s.heap.IsCell c v
  free : H X.env.locals = none
  freeC : ∀ x c, X.env.cells.lookup x = some c → H c = none
  pin : ∀ p ∈ X.pn ++ pins, s.heap.get? p.1 = some p.2 ∧ H p.1 = none ∧ p.1 ≠ X.env.locals ∧ p.1 ∉ X.fs ∧ ∀ v, p.2.data ≠ .cell v
  hok : HOk X.prog X.w H s.heap
  len : σ.length = X.N.length
section
variable {X : Cx} {pins : List (Addr × Obj)} {σ : List (Option V)} {H H' : Hp} {s : Shared} {h' : Heap}
theorem Cx.Ok.nofr (ok : X.Ok) {b : Addr} {o : Obj} (e : X.base.get? b = some o) : b ∉ X.fs := fun hb => by
  have := (ok.funs.mem hb).1
  rw [e] at this; cases this
theorem Inv.bs (I : Inv X pins σ H s) : ∀ b o, X.base.get? b = some o → s.heap.get? b = some o ∧ H b = none := fun b o e =>
  ⟨I.base.keep b o (I.ok.bs b o e).1 (I.ok.bs b o e).2 (I.ok.nofr e) (I.ok.noex b o e), I.base.free b o (I.ok.bs b o e).1 (I.ok.bs b o e).2 (I.ok.noex b o e)⟩
theorem Inv.bk (I : Inv X pins σ H s) : ∀ b o, X.base.get? b = some o → s.heap.get? b = some o := fun b o e => (I.bs b o e).1
theorem Inv.mod (I : Inv X pins σ H s) : Mod X.K X.mg X.base := I.ok.mod
theorem Inv.kIn (I : Inv X pins σ H s) : X.K.In s.heap := I.ok.mod.kin.keeps I.bk
theorem Inv.lt (I : Inv X pins σ H s) : X.env.locals < s.heap.objs.size := let ⟨_, hn, _⟩ := I.loc; hn.lt
theorem Inv.sz (I : Inv X pins σ H s) : X.s_0.heap.objs.size ≤ s.heap.objs.size := Nat.le_trans I.ok.above (Nat.le_of_lt I.lt)
theorem Inv.nofs (I : Inv X pins σ H s) {a : Addr} (h : s.heap.objs.size ≤ a) : a ∉ X.fs := fun hb => by
  obtain ⟨_, o, ho, _⟩ := I.ok.funs.mem hb
  exact absurd (Nat.lt_of_lt_of_le (Heap.lt_size ho) (Nat.le_trans I.sz h)) (Nat.lt_irrefl _)
theorem Inv.cne (I : Inv X pins σ H s) : ∀ x c, X.env.cells.lookup x = some c → c ≠ X.env.locals := fun x c e z => by
  obtain ⟨v, o, ho, hd⟩ := I.cell x c e
  obtain ⟨m, ⟨o', es, ep, ho', hd', _⟩, _⟩ := I.loc
  rw [z, ho'] at ho; cases ho; rw [hd'] at hd; cases hd
theorem Inv.funs (I : Inv X pins σ H s) : s.heap.FunFrames X.base X.outer := by
  have all : ∀ (l : List Env), (∀ b ∈ frs l, b ∈ X.fs) → X.s_0.heap.FunFrames X.base l → s.heap.FunFrames X.base l := by
    intro l
    induction l with
    | nil => intro _ _; trivial
    | cons env r ih =>
      intro hs hl
      obtain ⟨hk, ⟨L, o, hf, hn, ho, hd⟩, hr⟩ := hl
      have hL : L ∈ X.fs := hs L (by unfold frs; rw [List.filterMap_cons, hf]; exact List.mem_cons_self)
      obtain ⟨sl, e⟩ := I.base.slot L o ho (I.ok.frf L hL) hL fun z => I.ok.exfs L z hL
      exact ⟨hk, ⟨L, _, hf, hn, e, hd⟩, ih (fun b hb => hs b (by unfold frs; rw [List.filterMap_cons, hf]; exact List.mem_cons_of_mem _ hb)) hr⟩
  exact all X.outer (fun _ hb => hb) I.ok.funs
/-- the frames that run, for a call -/
theorem Inv.stack (I : Inv X pins σ H s) : s.heap.FunFrames X.base X.stack := by
  rcases I.ok.stk with e | ⟨e, hf⟩
  · rw [e]; exact I.funs
  · rw [e]
    obtain ⟨m, hn, _⟩ := I.loc
    refine .cons (by rw [I.ok.kind]; decide) hf hn ?_ I.funs
    exact Heap.get?_none_of_le (Nat.le_trans I.ok.bsz I.ok.above)
theorem Inv.stkSub (I : Inv X pins σ H s) : ∀ b ∈ frs X.stack, b ∈ X.env.locals :: X.fs := fun b hb => by
  rcases I.ok.stk with e | ⟨e, hf⟩
  · rw [e] at hb; exact List.mem_cons_of_mem _ hb
  · rw [e] at hb
    unfold frs at hb
    rw [List.filterMap_cons, hf] at hb
    exact hb
theorem Inv.stkFree (I : Inv X pins σ H s) : ∀ b ∈ frs X.stack, H b = none := fun b hb => by
  rcases List.mem_cons.mp (I.stkSub b hb) with e | hb
  · rw [e]; exact I.free
  · obtain ⟨_, o, ho, _⟩ := I.ok.funs.mem hb
    exact I.base.free b o ho (I.ok.frf b hb) fun z => I.ok.exfs b z hb
/-- THE STEP: the untracked objects but the frame and the records at ch are kept (the callers' frames up to slots), the frame's map is kept, the new abstract heap is held -/
theorem Inv.step {g' : Array GenState} {t' : Nat} {d' : Drawn} {ch : List Addr} (I : Inv X pins σ H s)
    (hch : ∀ b ∈ ch, (b ∈ X.ex ∨ X.s_0.heap.objs.size ≤ b) ∧ b ≠ X.env.locals ∧ (∀ x c, X.env.cells.lookup x = some c → c ≠ b) ∧ ∀ p ∈ X.pn ++ pins, p.1 ≠ b)
    (keep : ∀ b o, b ≠ X.env.locals → b ∉ X.fs → b ∉ ch → s.heap.get? b = some o → H b = none → h'.get? b = some o)
    (slot : ∀ b o, b ≠ X.env.locals → b ∈ X.fs → b ∉ ch → s.heap.get? b = some o → H b = none → ∃ sl, h'.get? b = some { o with slots := sl }) (free : ∀ b o, b ∉ ch → s.heap.get? b = some o → H b = none → H' b = none)
    (there : ∀ b o, b ∉ ch → s.heap.get? b = some o → ∃ o', h'.get? b = some o')
    (tups : ∀ b xs, H b = some (.tup xs) → H' b = some (.tup xs)) (frzs : ∀ b o u, H b = some (.frz o u) → H' b = some (.frz o u)) (tbls : ∀ b ps, H b = some (.tbl ps) → ∃ more, H' b = some (.tbl (ps ++ more)))
    (ns : ∀ m, s.heap.Ns X.env.locals m → h'.Ns X.env.locals m) (hok : HOk X.prog X.w H' h') (hg : AllBare g') :
    Inv X pins σ H' { s with heap := h', gens := g', drawn := d', toks := t' } := by
  have neL : ∀ b o, X.s_0.heap.get? b = some o → b ≠ X.env.locals := fun b o e => Nat.ne_of_lt (Nat.lt_of_lt_of_le (Heap.lt_size e) I.ok.above)
  have neC : ∀ b o, X.s_0.heap.get? b = some o → b ∉ X.ex → b ∉ ch := fun b o e hx hb => by
    rcases (hch b hb).1 with z | z
    · exact hx z
    · exact absurd (Nat.lt_of_lt_of_le (Heap.lt_size e) z) (Nat.lt_irrefl _)
  have cellK : ∀ x c, X.env.cells.lookup x = some c → ∀ v, s.heap.IsCell c v → h'.IsCell c v := fun x c e v ⟨o, ho, hd⟩ => by
    have nch : c ∉ ch := fun z => (hch c z).2.2.1 x c e rfl
    by_cases hc : c ∈ X.fs
    · obtain ⟨sl, q⟩ := slot c o (I.cne x c e) hc nch ho (I.freeC x c e)
      exact ⟨_, q, hd⟩
    · exact ⟨o, keep c o (I.cne x c e) hc nch ho (I.freeC x c e), hd⟩
  refine ⟨I.ok, I.os, hg, ⟨fun b o e n hb hx => ?_, fun b o e n hb hx => ?_, fun b o e n hx => ?_, fun b o e hx => ?_, fun b xs e => tups b xs (I.base.tups b xs e), fun b o xs e => frzs b o xs (I.base.frzs b o xs e), fun b ps e => ?_⟩, ?_, fun x c e => ?_, ?_, fun x c e => ?_, fun p hp => ?_, hok, I.len⟩
  · exact keep b o (neL b o e) hb (neC b o e hx) (I.base.keep b o e n hb hx) (I.base.free b o e n hx)
  · obtain ⟨sl, e1⟩ := I.base.slot b o e n hb hx
    obtain ⟨sl', e2⟩ := slot b _ (neL b o e) hb (neC b o e hx) e1 (I.base.free b o e n hx)
    exact ⟨sl', e2⟩
  · obtain ⟨o', e1⟩ := I.base.there b o e hx
    exact free b o' (neC b o e hx) e1 (I.base.free b o e n hx)
  · obtain ⟨o', e1⟩ := I.base.there b o e hx
    exact there b o' (neC b o e hx) e1
  · obtain ⟨m1, e1⟩ := I.base.tbls b ps e
    obtain ⟨m2, e2⟩ := tbls b _ e1
    exact ⟨m1 ++ m2, by rw [e2, Array.append_assoc]⟩
  · obtain ⟨m, hn, hl⟩ := I.loc
    refine ⟨m, ns m hn, fun i x v e1 e2 e3 => ?_⟩
    obtain ⟨u, r, l⟩ := hl i x v e1 e2 e3
    refine ⟨u, r, ?_⟩
    rcases l with l | ⟨k, c, e, z⟩
    · exact .inl l
    · exact .inr ⟨k, c, e, cellK x c e _ z⟩
  · obtain ⟨v, z⟩ := I.cell x c e
    exact ⟨v, cellK x c e v z⟩
  · obtain ⟨m, ⟨o, _, _, ho, _⟩, _⟩ := I.loc
    exact free _ o (fun z => (hch _ z).2.1 rfl) ho I.free
  · obtain ⟨v, o, ho, hd⟩ := I.cell x c e
    exact free c o (fun z => (hch c z).2.2.1 x c e rfl) ho (I.freeC x c e)
  · obtain ⟨e, n, ne, nf, d⟩ := I.pin p hp
    have nch : p.1 ∉ ch := fun z => (hch p.1 z).2.2.2 p hp rfl
    exact ⟨keep p.1 p.2 ne nf nch e n, free p.1 p.2 nch e n, ne, nf, d⟩
/-- .. where the frame's own object is kept too -/
theorem Inv.un {t' : Nat} (I : Inv X pins σ H s) (u : Un X.fs [] H H' s.heap h') (hok : HOk X.prog X.w H' h') : Inv X pins σ H' { s with heap := h', toks := t' } := by
  obtain ⟨m, ⟨o, es, ep, ho, r⟩, _⟩ := id I.loc
  obtain ⟨sl, hL⟩ := u.any ho I.free (by simp)
  exact I.step (g' := s.gens) (d' := s.drawn) (ch := []) (fun _ z => nomatch z) (fun b o _ hb _ e n => u.keep b o e n hb (by simp)) (fun b o _ hb _ e n => u.slot b o e n hb (by simp)) (fun b o _ e n => u.free b o e n (by simp)) (fun b o _ e => u.there b o e (by simp)) u.tups u.frzs u.tbls (fun m' hm => by
    obtain ⟨o', es', ep', ho', r'⟩ := hm
    rw [ho] at ho'; cases ho'
    exact ⟨_, es', ep', hL, r'⟩) hok I.bare
/-- behind a call (or a comprehension's block): the slots of this frame may have changed too, the records at ch may have turned -/
theorem Inv.call {g' : Array GenState} {t' : Nat} {d' : Drawn} {ch : List Addr} (I : Inv X pins σ H s) (u : Un (frs X.stack) ch H H' s.heap h') (hok : HOk X.prog X.w H' h') (hg : AllBare g')
    (hch : ∀ b ∈ ch, (b ∈ X.ex ∨ X.s_0.heap.objs.size ≤ b) ∧ b ≠ X.env.locals ∧ (∀ x c, X.env.cells.lookup x = some c → c ≠ b) ∧ ∀ p ∈ X.pn ++ pins, p.1 ≠ b) :
    Inv X pins σ H' { s with heap := h', gens := g', drawn := d', toks := t' } := by
  obtain ⟨m, ⟨o, es, ep, ho, r⟩, _⟩ := id I.loc
  obtain ⟨sl, hL⟩ := u.any ho I.free fun z => (hch _ z).2.1 rfl
  exact I.step (ch := ch) hch (fun b o hL hb hc e n => u.keep b o e n (fun z => (List.mem_cons.mp (I.stkSub b z)).elim hL hb) hc) (fun b o _ _ hc e n => u.any e n hc) (fun b o hc e n => u.free b o e n hc) (fun b o hc e => u.there b o e hc) u.tups u.frzs u.tbls (fun m' hm => by
    obtain ⟨o', es', ep', ho', r'⟩ := hm
    rw [ho] at ho'; cases ho'
    exact ⟨_, es', ep', hL, r'⟩) hok hg
/-- an untracked record of ours (an iterator) has turned -/
theorem Inv.turned {t' : Nat} {it : Addr} (I : Inv X pins σ H s) (k : ∀ b o, b ≠ it → s.heap.get? b = some o → h'.get? b = some o) (hn : H it = none) (hL : it ≠ X.env.locals)
    (h1 : it ∈ X.ex ∨ X.s_0.heap.objs.size ≤ it) (h2 : ∀ x c, X.env.cells.lookup x = some c → c ≠ it) (h3 : ∀ p ∈ X.pn ++ pins, p.1 ≠ it) : Inv X pins σ H { s with heap := h', toks := t' } := by
  have nit : ∀ b u, H b = some u → b ≠ it := fun b u e z => by rw [z, hn] at e; cases e
  refine I.step (g' := s.gens) (d' := s.drawn) (ch := [it]) (fun b hb => ?_) (fun b o _ _ hc e _ => k b o (fun z => hc (by simp [z])) e) (fun b o _ _ hc e _ => ⟨o.slots, k b o (fun z => hc (by simp [z])) e⟩) (fun _ _ _ _ n => n)
    (fun b o hc e => ⟨o, k b o (fun z => hc (by simp [z])) e⟩) (fun _ _ e => e) (fun _ _ _ e => e) (fun b ps e => ⟨#[], by rw [e]; simp⟩) (fun m hm => ?_) (fun b u e => ?_) I.bare
  · have e : b = it := by simpa using hb
    subst e
    exact ⟨h1, hL, h2, h3⟩
  · obtain ⟨o, es, ep, ho, r⟩ := hm
    exact ⟨o, es, ep, k _ o (Ne.symm hL) ho, r⟩
  · refine (I.hok b u e).stay (fun c v hc q => k c v ?_ q) (fun _ q => q) fun _ _ q => q
    rcases hc with z | z
    · rw [z]; exact nit b u e
    · exact nit c _ z
theorem Inv.tok (I : Inv X pins σ H s) (t : Nat) : Inv X pins σ H { s with toks := t } := I.un (h' := s.heap) (t' := t) Un.refl I.hok
/-- all objects kept -/
theorem Inv.kept {t' : Nat} (I : Inv X pins σ H s) (k : ∀ b u, s.heap.get? b = some u → h'.get? b = some u) : Inv X pins σ H { s with heap := h', toks := t' } := I.un (Un.kept k) (I.hok.kept k)
/-- a new object laid and tracked -/
theorem Inv.laid {a : Addr} {o : HO} {t' : Nat} (I : Inv X pins σ H s) (k : ∀ b u, s.heap.get? b = some u → h'.get? b = some u) (hp : s.heap.objs.size ≤ a) (new : ObjOk X.prog X.w (upd H a o) h' a o) :
    Inv X pins σ (upd H a o) { s with heap := h', toks := t' } := I.un (Un.laid k hp (I.hok.fresh hp)) (I.hok.laid k hp new)
/-- an object written -/
theorem Inv.write {x e : Addr} {o : HO} {t' : Nat} (I : Inv X pins σ H s) (mu : Mut (H x)) (he : e = x ∨ H e = some (.own x)) (k : ∀ b u, b ≠ e → s.heap.get? b = some u → h'.get? b = some u) (heo : ∃ u, h'.get? e = some u)
    (new : ObjOk X.prog X.w (upd H x o) h' x o) : Inv X pins σ (upd H x o) { s with heap := h', toks := t' } := I.un (Un.write mu he k heo) (I.hok.write mu he k heo new)
/-- forgetting slots, pins -/
theorem Inv.weak {σ' : List (Option V)} (I : Inv X pins σ H s) (hl : σ'.length = σ.length) (w : ∀ (i : Nat) v, σ'[i]? = some (some v) → σ[i]? = some (some v)) : Inv X pins σ' H s :=
  ⟨I.ok, I.os, I.bare, I.base, let ⟨m, hn, hl'⟩ := I.loc; ⟨m, hn, fun i x v e1 e2 e3 => hl' i x v e1 (w i v e2) e3⟩, I.cell, I.free, I.freeC, I.pin, I.hok, hl.trans I.len⟩
theorem Inv.pins_of {pins' : List (Addr × Obj)} (I : Inv X pins σ H s) (h : ∀ p ∈ pins', s.heap.get? p.1 = some p.2 ∧ H p.1 = none ∧ p.1 ≠ X.env.locals ∧ p.1 ∉ X.fs ∧ ∀ v, p.2.data ≠ .cell v) : Inv X pins' σ H s :=
  ⟨I.ok, I.os, I.bare, I.base, I.loc, I.cell, I.free, I.freeC, fun p hp => (List.mem_append.mp hp).elim (fun z => I.pin p (List.mem_append_left _ z)) (h p), I.hok, I.len⟩
theorem nodup_ix {N : List Str} (hN : N.Nodup) {i j : Nat} {x : Str} (a : N[i]? = some x) (b : N[j]? = some x) : i = j := by
  obtain ⟨h1, e1⟩ := List.getElem?_eq_some_iff.mp a
  obtain ⟨h2, e2⟩ := List.getElem?_eq_some_iff.mp b
  exact (List.getElem_inj hN).mp (e1.trans e2.symm)
/-- a name is stored; what changed -/
theorem store_ok2 {M : Model} {A : Around} {E : Value → Shared → Prop} {i : Nat} {x : Str} {v : V} {u : Value} {Q : Unit → Shared → Prop} (I : Inv X pins σ H s) (hN : X.N.Nodup) (hi : X.N[i]? = some x) (hx : Loc X.env.scope x) (r : RelV v u)
    (h : ∀ s', Inv X pins (σ.set i (some v)) H s' → (∃ a, Heap.SameBut a s.heap s'.heap ∧ (a = X.env.locals ∨ X.env.cells.lookup x = some a)) → Q () s') (hf : X.fn x = true ∨ X.env.scope.names.lookup x = some .local := by first | exact .inl rfl | exact .inr rfl | assumption) : wpAny M A (storeName X.env x u) Q E s := by
  obtain ⟨m, hn, hl⟩ := id I.loc
  have hcls : (X.env.scope.kind == .class || (X.env.scope.kind == .module && X.env.locals != X.env.globals)) = false := by rw [I.ok.kind]; rfl
  have hiσ : i < σ.length := by rw [I.len]; exact (List.getElem?_eq_some_iff.mp hi).1
  have cne := I.cne
  have tracked : ∀ {a : Addr} {h' : Heap}, (∃ o, s.heap.get? a = some o ∧ H a = none) → Heap.SameBut a s.heap h' → HOk X.prog X.w H h' := fun {a h'} ha hs b ob e => by
    obtain ⟨_, _, hfree⟩ := ha
    refine (I.hok b ob e).stay (fun c w' hc q => (hs.2 c ?_).trans q) (fun _ q => q) fun _ _ q => q
    rintro rfl
    rcases hc with rfl | hc
    · rw [hfree] at e; cases e
    · rw [hfree] at hc; cases hc
  rcases hx with hk | hk
  · refine wpAny_storeName_local hk hn (fun h' hn' hs => ?_) hcls
    obtain ⟨oL, _, _, hoL, _⟩ := id hn
    refine h _ ⟨I.ok, I.os, I.bare, ⟨fun b o e n hb hx => ?_, fun b o e n hb hx => ?_, I.base.free, fun b o e hx => ?_, I.base.tups, I.base.frzs, I.base.tbls⟩, ⟨_, hn', fun j y v' e1 e2 e3 => ?_⟩, fun y c e => ?_, I.free, I.freeC, fun p hp => ?_, tracked ⟨oL, hoL, I.free⟩ hs, by simpa using I.len⟩ ⟨_, hs, .inl rfl⟩
    · exact (hs.2 b (Nat.ne_of_lt (Nat.lt_of_lt_of_le (Heap.lt_size e) I.ok.above))).trans (I.base.keep b o e n hb hx)
    · obtain ⟨sl, e1⟩ := I.base.slot b o e n hb hx
      exact ⟨sl, (hs.2 b (Nat.ne_of_lt (Nat.lt_of_lt_of_le (Heap.lt_size e) I.ok.above))).trans e1⟩
    · obtain ⟨o', e1⟩ := I.base.there b o e hx
      exact ⟨o', (hs.2 b (Nat.ne_of_lt (Nat.lt_of_lt_of_le (Heap.lt_size e) I.ok.above))).trans e1⟩
    · by_cases hj : j = i
      · subst hj
        rw [hi] at e1; cases e1
        rw [List.getElem?_set_self hiσ] at e2
        cases e2
        exact ⟨u, r, .inl ⟨hk, by simp⟩⟩
      · rw [List.getElem?_set_ne (Ne.symm hj)] at e2
        obtain ⟨u', r', q⟩ := hl j y v' e1 e2 e3
        refine ⟨u', r', ?_⟩
        rcases q with ⟨k, e⟩ | ⟨k, c, e, z⟩
        · refine .inl ⟨k, ?_⟩
          have : y ≠ x := fun e => hj (nodup_ix hN e1 (e ▸ hi))
          simp [this, e]
        · exact .inr ⟨k, c, e, z.sameBut hs (cne y c e)⟩
    · obtain ⟨w', z⟩ := I.cell y c e
      exact ⟨w', z.sameBut hs (cne y c e)⟩
    · obtain ⟨e, n, ne, nf, d⟩ := I.pin p hp
      exact ⟨(hs.2 p.1 ne).trans e, n, ne, nf, d⟩
  · have hfn : X.fn x = true := by
      rcases hf with z | z
      · exact z
      · rw [z] at hk; cases hk
    obtain ⟨c, hc⟩ := I.ok.has x (.inl hk)
    obtain ⟨w', z⟩ := I.cell x c hc
    refine wpAny_storeName_cell I.ok.kind hk hc z (fun h' hc' hs => ?_)
    obtain ⟨oc, hoc, hocd⟩ := id z
    refine h { s with heap := h' } ⟨I.ok, I.os, I.bare, ⟨fun b o e n hb hx => ?_, fun b o e n hb hx => ?_, I.base.free, fun b o e hx => ?_, I.base.tups, I.base.frzs, I.base.tbls⟩, ⟨m, hn.sameBut hs (Ne.symm (cne x c hc)), fun j y v' e1 e2 e3 => ?_⟩, fun y c' e => ?_, I.free, I.freeC, fun p hp => ?_, tracked ⟨oc, hoc, I.freeC x c hc⟩ hs, by simpa using I.len⟩ ⟨c, hs, .inr hc⟩
    · exact (hs.2 b (Nat.ne_of_lt (Nat.lt_of_lt_of_le (Heap.lt_size e) (I.ok.cab x c hfn hc)))).trans (I.base.keep b o e n hb hx)
    · obtain ⟨sl, e1⟩ := I.base.slot b o e n hb hx
      exact ⟨sl, (hs.2 b (Nat.ne_of_lt (Nat.lt_of_lt_of_le (Heap.lt_size e) (I.ok.cab x c hfn hc)))).trans e1⟩
    · obtain ⟨o', e1⟩ := I.base.there b o e hx
      exact ⟨o', (hs.2 b (Nat.ne_of_lt (Nat.lt_of_lt_of_le (Heap.lt_size e) (I.ok.cab x c hfn hc)))).trans e1⟩
    · by_cases hj : j = i
      · subst hj
        rw [hi] at e1; cases e1
        rw [List.getElem?_set_self hiσ] at e2
        cases e2
        exact ⟨u, r, .inr ⟨.inl hk, c, hc, hc'⟩⟩
      · rw [List.getElem?_set_ne (Ne.symm hj)] at e2
        obtain ⟨u', r', q⟩ := hl j y v' e1 e2 e3
        refine ⟨u', r', ?_⟩
        rcases q with q | ⟨k, c', e, z'⟩
        · exact .inl q
        · refine .inr ⟨k, c', e, z'.sameBut hs ?_⟩
          rintro rfl
          exact hj (nodup_ix hN e1 (I.ok.inj _ _ _ e hc ▸ hi))
    · by_cases hcc : c' = c
      · subst hcc; exact ⟨_, hc'⟩
      · obtain ⟨w2, z2⟩ := I.cell y c' e
        exact ⟨w2, z2.sameBut hs hcc⟩
    · obtain ⟨e, n, ne, nf, d⟩ := I.pin p hp
      refine ⟨(hs.2 p.1 ?_).trans e, n, ne, nf, d⟩
      intro q
      rw [q, hoc] at e
      have q' : oc = p.2 := Option.some.inj e
      exact d w' (by rw [← q']; exact hocd)
theorem store_ok {M : Model} {A : Around} {E : Value → Shared → Prop} {i : Nat} {x : Str} {v : V} {u : Value} {Q : Unit → Shared → Prop} (I : Inv X pins σ H s) (hN : X.N.Nodup) (hi : X.N[i]? = some x) (hx : Loc X.env.scope x) (r : RelV v u)
    (h : ∀ s', Inv X pins (σ.set i (some v)) H s' → Q () s') (hf : X.fn x = true ∨ X.env.scope.names.lookup x = some .local := by first | exact .inl rfl | exact .inr rfl | assumption) : wpAny M A (storeName X.env x u) Q E s :=
  store_ok2 I hN hi hx r (fun s' I' _ => h s' I') hf
/-- behind a call or a block, the state as it is -/
theorem Inv.call' {s' : Shared} {ch : List Addr} (I : Inv X pins σ H s) (ho : s'.os = s.os) (u : Un (frs X.stack) ch H H' s.heap s'.heap) (hok : HOk X.prog X.w H' s'.heap) (hg : AllBare s'.gens)
    (hch : ∀ b ∈ ch, (b ∈ X.ex ∨ X.s_0.heap.objs.size ≤ b) ∧ b ≠ X.env.locals ∧ (∀ x c, X.env.cells.lookup x = some c → c ≠ b) ∧ ∀ p ∈ X.pn ++ pins, p.1 ≠ b) : Inv X pins σ H' s' := by
  obtain ⟨h', g', d', t', o'⟩ := s'
  have e : o' = s.os := ho
  subst e
  exact I.call (g' := g') (t' := t') (d' := d') u hok hg hch
end
/-- an exception: its class, its own dict's address (where it has one), the abstract heap behind it -/
abbrev XK := Value → Option Addr → Hp → Prop
abbrev St := List (Option V)
abbrev VK := V → Hp → Prop
/-- an expression's reading; a test's; an argument list's -/
abbrev TE := St → Hp → VK → Prop
abbrev TT := St → Hp → (Bool → Hp → Prop) → Prop
abbrev TA := St → Hp → (List V → Hp → Prop) → Prop
/-- what is wanted behind a statement -/
structure Ends where
  nx : St → Hp → Prop
  rt : VK
  bk : St → Hp → Prop := fun _ _ => False
  ct : St → Hp → Prop := fun _ _ => False
abbrev TS := Ends → St → Hp → Prop
def EP (X : Cx) (pins : List (Addr × Obj)) (σ : St) (Q : VK) (u : Value) (s' : Shared) : Prop := ∃ v H', Inv X pins σ H' s' ∧ RelV v u ∧ Q v H'
def TP (X : Cx) (pins : List (Addr × Obj)) (σ : St) (Q : Bool → Hp → Prop) (b : Bool) (s' : Shared) : Prop := ∃ H', Inv X pins σ H' s' ∧ Q b H'
def AP (X : Cx) (pins : List (Addr × Obj)) (σ : St) (Q : List V → Hp → Prop) (us : List Value) (s' : Shared) : Prop := ∃ vs H', Inv X pins σ H' s' ∧ Vals vs us ∧ Q vs H'
def SP (X : Cx) (pins : List (Addr × Obj)) (D : Ends) (f : Flow) (s' : Shared) : Prop :=
  match f with
  | .next => ∃ σ' H', Inv X pins σ' H' s' ∧ D.nx σ' H'
  | .brk => ∃ σ' H', Inv X pins σ' H' s' ∧ D.bk σ' H'
  | .cont => ∃ σ' H', Inv X pins σ' H' s' ∧ D.ct σ' H'
  | .ret u => ∃ v σ' H', Inv X pins σ' H' s' ∧ RelV v u ∧ D.rt v H'
def PE (X : Cx) (e : Expr) (t : TE) : Prop :=
  ∀ (pins : List (Addr × Obj)) (s : Shared) (σ : St) (H : Hp) (Q : VK), Inv X pins σ H s → t σ H Q → wpAny (model X.prog X.w) X.A (eval e X.env) (EP X pins σ Q) X.xe s
def PT (X : Cx) (e : Expr) (t : TT) : Prop :=
  ∀ (pins : List (Addr × Obj)) (s : Shared) (σ : St) (H : Hp) (Q : Bool → Hp → Prop), Inv X pins σ H s → t σ H Q → wpAny (model X.prog X.w) X.A (isTrue e X.env (eval e X.env)) (TP X pins σ Q) X.xe s
/-- a test whatever its 'whole' is (and, or) -/
def PW (X : Cx) (e : Expr) (t : TT) : Prop :=
  ∀ (whole : Sem Value) (pins : List (Addr × Obj)) (s : Shared) (σ : St) (H : Hp) (Q : Bool → Hp → Prop), Inv X pins σ H s → t σ H Q → wpAny (model X.prog X.w) X.A (isTrue e X.env whole) (TP X pins σ Q) X.xe s
theorem PW.pt {X : Cx} {e : Expr} {t : TT} (h : PW X e t) : PT X e t := h _
/-- an argument list (no star), from the left -/
def PA (X : Cx) (es : List Expr) (t : TA) : Prop :=
  ∀ (pos : Pos) (pins : List (Addr × Obj)) (s : Shared) (σ : St) (H : Hp) (Q : List V → Hp → Prop), Inv X pins σ H s → t σ H Q → wpAny (model X.prog X.w) X.A (spliced (backTo pos (starEach es X.env))) (AP X pins σ Q) X.xe s
def PS (X : Cx) (st : Stmt) (t : TS) : Prop :=
  ∀ (pins : List (Addr × Obj)) (s : Shared) (σ : St) (H : Hp) (D : Ends), Inv X pins σ H s → t D σ H → wpAny (model X.prog X.w) X.A (exec st X.env) (SP X pins D) X.xe s
def PSs (X : Cx) (st : List Stmt) (t : TS) : Prop :=
  ∀ (pins : List (Addr × Obj)) (s : Shared) (σ : St) (H : Hp) (D : Ends), Inv X pins σ H s → t D σ H → wpAny (model X.prog X.w) X.A (execs st X.env) (SP X pins D) X.xe s
/-- weaken the end -/
theorem thn {α : Type} {t : Sem α} {Q Q' : α → Shared → Prop} {M : Model} {A : Around} {E : Value → Shared → Prop} {s : Shared} (h : wpAny M A t Q E s) (hQ : ∀ a s, Q a s → Q' a s) : wpAny M A t Q' E s := wpAny_mono h hQ fun _ _ x => x
end L2
namespace L2
open PySem PySem.Spec PyProof.Rows
section
variable {X : Cx}
def tVar (i : Nat) : TE := fun σ H Q => ∃ v, σ[i]? = some (some v) ∧ Q v H
def tC (v : V) : TE := fun _ H Q => Q v H
theorem pe_var {i : Nat} {x : Str} {pos : Pos} (hN : X.N[i]? = some x) (hv : Vis X.env.scope x) (hd : (x == ("__debug__" : Str)) = false := by decide) (hcd : (x == ("__classdict__" : Str)) = false := by decide) : PE X (.Name x pos) (tVar i) := by
  intro pins s σ H Q I h
  obtain ⟨v, e, h⟩ := h
  obtain ⟨m, hn, hl⟩ := I.loc
  obtain ⟨u, r, l⟩ := hl i x v hN e hv
  have fin : EP X pins σ Q u s := ⟨v, H, I, r, h⟩
  rcases l with ⟨hk, hm⟩ | ⟨hk, c, hc, hcell⟩
  · exact wpAny_Name (wpAny_loadName_local I.ok.kind hk hn hm fin) hd
  · rcases hk with hk | hk
    · exact wpAny_Name (wpAny_loadName_cell I.ok.kind hk hc hcell fin) hd
    · exact wpAny_Name (wpAny_loadName_free I.ok.kind hk hc hcell fin hcd) hd
theorem pe_int {i j pos} : PE X (.Constant (.int i) j pos) (tC (.int i)) := fun _ _ _ H _ I h => wpAny_Constant_int ⟨.int i, H, I.tok _, ⟨_, rfl⟩, h⟩
theorem pe_bl {b j pos} : PE X (.Constant (.bool b) j pos) (tC (.bl b)) := fun _ _ _ H _ I h => Constant_bool ⟨.bl b, H, I, rfl, h⟩
theorem pe_non {j pos} : PE X (.Constant .none j pos) (tC .non) := fun _ _ _ H _ I h => Constant_none ⟨.non, H, I, rfl, h⟩
/-- a global name of the def -/
def Gl (X : Cx) (x : Str) : Prop := X.env.kindOf x = some .globalImplicit
theorem ld_glob {E : Value → Shared → Prop} {pins : List (Addr × Obj)} {s : Shared} {σ : St} {H : Hp} {x : Str} {u : Value} {pos : Pos} {Q : Value → Shared → Prop} (I : Inv X pins σ H s) (hg : Gl X x) (hm : X.mg x = some u) (h : Q u s)
    (hd : (x == ("__debug__" : Str)) = false := by decide) : wpAny (model X.prog X.w) X.A (eval (.Name x pos) X.env) Q E s :=
  Calls.Name_function_global I.ok.kind hg (Calls.loadGlobal_global (by rw [I.ok.glob]; exact I.mod.glob.keeps I.bk) hm h) hd
theorem ld_blt {E : Value → Shared → Prop} {pins : List (Addr × Obj)} {s : Shared} {σ : St} {H : Hp} {x : Str} {u : Value} {pos : Pos} {Q : Value → Shared → Prop} (I : Inv X pins σ H s) (hg : Gl X x) (hm : X.mg x = none) (hv : bootBuiltins x = some u) (h : Q u s)
    (hn : x ≠ "__name__" := by decide) (hd : (x == ("__debug__" : Str)) = false := by decide) : wpAny (model X.prog X.w) X.A (eval (.Name x pos) X.env) Q E s := by
  obtain ⟨mb, h1, h2⟩ := I.mod.blt
  exact Calls.Name_function_global I.ok.kind hg (Calls.loadGlobal_builtin (by rw [I.ok.glob]; exact I.mod.glob.keeps I.bk) hm (by rw [I.ok.blt]; exact h1.keeps I.bk) ((h2 x hn).trans hv) h) hd
/-- a module's constant, a class, a function, as a value -/
theorem pe_glob {x : Str} {v : V} {u : Value} {pos : Pos} (hg : Gl X x) (hm : X.mg x = some u) (r : RelV v u) (hd : (x == ("__debug__" : Str)) = false := by decide) : PE X (.Name x pos) (tC v) :=
  fun _ _ _ H _ I h => ld_glob I hg hm ⟨v, H, I, r, h⟩ hd
variable {a b : Expr} {ta tb : TE} {pos : Pos}
/-- a comparison as a value, as a test -/
def tB (t : TE) : TT := fun σ H Q => t σ H fun x H1 => ∃ c, x = .bl c ∧ Q c H1
/-- an expression whose value is a bool, as a test -/
theorem pt_val {e : Expr} {t : TE} (h : PE X e t) (he : ∀ whole, isTrue e X.env whole = (do let v ← whole; standAt e.pos; holding [v] (truthy v)) := by intro _; rfl) : PT X e (tB t) := by
  intro pins s σ H Q I hw
  refine isTrue_plain (thn (h pins s σ H _ I hw) fun v s1 ⟨x, H1, I1, r1, q1⟩ => ?_) (he _)
  obtain ⟨d, rfl, q⟩ := q1
  cases r1
  exact wpAny_truthy_bool ⟨H1, I1, q⟩
variable {tA tB' : TT} {rest : List Expr}
def tAnd (t u : TT) : TT := fun σ H Q => t σ H fun c H1 => if c = true then u σ H1 Q else Q false H1
def tOr (t u : TT) : TT := fun σ H Q => t σ H fun c H1 => if c = true then Q true H1 else u σ H1 Q
def tNot (t : TT) : TT := fun σ H Q => t σ H fun c H1 => Q (!c) H1
theorem pw_and1 (ha : PT X a tA) : PW X (.BoolOp .And [a] pos) tA := by
  intro wh pins s σ H Q I h
  refine isTrue_and (thn (ha pins s σ H Q I h) fun c s1 e => ?_)
  cases c with
  | true => exact isTrue_and_nil e
  | false => exact e
theorem pw_or1 (ha : PT X a tA) : PW X (.BoolOp .Or [a] pos) tA := by
  intro wh pins s σ H Q I h
  refine isTrue_or (thn (ha pins s σ H Q I h) fun c s1 e => ?_)
  cases c with
  | false => exact isTrue_or_nil e
  | true => exact e
theorem pw_and (ha : PT X a tA) (hb : PW X (.BoolOp .And (b :: rest) pos) tB') : PW X (.BoolOp .And (a :: b :: rest) pos) (tAnd tA tB') := by
  intro wh pins s σ H Q I h
  refine isTrue_and (thn (ha pins s σ H _ I h) fun c s1 ⟨H1, I1, q1⟩ => ?_)
  cases c with
  | true => exact hb wh pins s1 σ H1 Q I1 q1
  | false => exact ⟨H1, I1, q1⟩
theorem pw_or (ha : PT X a tA) (hb : PW X (.BoolOp .Or (b :: rest) pos) tB') : PW X (.BoolOp .Or (a :: b :: rest) pos) (tOr tA tB') := by
  intro wh pins s σ H Q I h
  refine isTrue_or (thn (ha pins s σ H _ I h) fun c s1 ⟨H1, I1, q1⟩ => ?_)
  cases c with
  | true => exact ⟨H1, I1, q1⟩
  | false => exact hb wh pins s1 σ H1 Q I1 q1
theorem pt_not (ha : PT X a tA) : PT X (.UnaryOp .Not a pos) (tNot tA) := by
  intro pins s σ H Q I h
  exact isTrue_not (ha pins s σ H (fun c H1 => Q (!c) H1) I h)
/-- .. as values (bools) -/
def tAndV (ta tb : TE) : TE := fun σ H Q => ta σ H fun x H1 => ∃ c, x = .bl c ∧ if c = true then tb σ H1 Q else Q (.bl false) H1
theorem pe_one {op} {t : TE} (h : PE X a t) : PE X (.BoolOp op [a] pos) t := fun pins s σ H Q I hw => BoolOp_one (h pins s σ H Q I hw)
theorem pe_and (ha : PE X a ta) (hb : PE X (.BoolOp .And (b :: rest) pos) tb) : PE X (.BoolOp .And (a :: b :: rest) pos) (tAndV ta tb) := by
  intro pins s σ H Q I h
  refine BoolOp_and (thn (ha pins s σ H _ I h) fun v s1 ⟨x, H1, I1, r1, q1⟩ => ?_)
  obtain ⟨c, rfl, q1⟩ := q1
  cases r1
  refine wpAny_truthy_bool ?_
  cases c with
  | true => exact hb pins s1 σ H1 Q I1 q1
  | false => exact ⟨.bl false, H1, I1, rfl, q1⟩
/-- a if t else b -/
def tIf (t : TT) (ta tb : TE) : TE := fun σ H Q => t σ H fun c H1 => if c = true then ta σ H1 Q else tb σ H1 Q
theorem pe_ifExp {c : Expr} (hc : PT X c tA) (ha : PE X a ta) (hb : PE X b tb) : PE X (.IfExp c a b pos) (tIf tA ta tb) := by
  intro pins s σ H Q I h
  refine wpAny_IfExp (thn (hc pins s σ H _ I h) fun d s1 ⟨H1, I1, q1⟩ => ?_)
  cases d with
  | true => exact ha pins s1 σ H1 Q I1 q1
  | false => exact hb pins s1 σ H1 Q I1 q1
end
end L2
namespace L2
open PySem PySem.Spec PyProof.Rows
def SqL (K : PySem.W.Frag) (H : Hp) (a : Addr) (xs : List V) : Prop :=
  Rd H a (.lst xs) ∨
    ∃ (o : Obj) (its : Array Value) (n : Nat), K.lookup a = some o ∧ o.cls = .type "list" ∧ o.dict = none ∧ o.data = .seq its n ∧ its.size ≤ sizeLine ∧ Vals xs its.toList
def SqT (K : PySem.W.Frag) (H : Hp) (a : Addr) (xs : List V) : Prop :=
  Rd H a (.tup xs) ∨
    ∃ (o : Obj) (its : Array Value) (n : Nat), K.lookup a = some o ∧ o.cls = .type "tuple" ∧ o.data = .seq its n ∧ its.size ≤ sizeLine ∧ Vals xs its.toList
def absV : Value → Option V
  | .none => some .non
  | .bool b => some (.bl b)
  | .int i _ => some (.int i)
  | .str x _ => some (.str x)
  | .bytes b _ => some (.byt b)
  | .float b _ => some (.flt b)
  | .ref a => some (.ref a)
  | .type n => some (.ty n)
  | _ => none
theorem RelV.abs {x : V} {u : Value} (r : RelV x u) : absV u = some x := by
  cases x with
  | non => cases r; rfl
  | bl _ => cases r; rfl
  | int _ => obtain ⟨t, rfl⟩ := r; rfl
  | str _ => obtain ⟨t, rfl⟩ := r; rfl
  | byt _ => obtain ⟨t, rfl⟩ := r; rfl
  | flt _ => obtain ⟨t, rfl⟩ := r; rfl
  | ref _ => cases r; rfl
  | ty _ => cases r; rfl
theorem RelV.inj {x y : V} {u : Value} (r : RelV x u) (q : RelV y u) : x = y := Option.some.inj (r.abs.symm.trans q.abs)
theorem Vals.inj : ∀ {xs ys : List V} {us : List Value}, Vals xs us → Vals ys us → xs = ys
  | _, _, _, .nil, .nil => rfl
  | _, _, _, .cons r t, .cons r' t' => by rw [r.inj r', Vals.inj t t']
section
variable {X : Cx} {pins : List (Addr × Obj)} {σ : St} {H : Hp} {s : Shared} {a : Addr} {xs ys : List V}
theorem SqL.of {K : PySem.W.Frag} (h : H a = some (.lst xs)) : SqL K H a xs := .inl (.inl h)
theorem SqT.of {K : PySem.W.Frag} (h : H a = some (.tup xs)) : SqT K H a xs := .inl (.inl h)
theorem Inv.list (I : Inv X pins σ H s) (h : SqL X.K H a xs) : ∃ its : List Value, Vals xs its ∧ PlainL s.heap a its.toArray ∧ xs.length ≤ sizeLine := by
  rcases h with h | ⟨o, its, n, hk, hc, hd, hs, hz, r⟩
  · obtain ⟨z, its, n, r, e⟩ := h.ok I.hok
    exact ⟨its, r, ⟨_, n, e, rfl, rfl, rfl⟩, z⟩
  · refine ⟨its.toList, r, ⟨o, n, I.kIn a o hk, hc, hd, by simpa using hs⟩, ?_⟩
    have e := r.length
    simp only [Array.length_toList] at e
    omega
theorem Inv.tuple (I : Inv X pins σ H s) (h : SqT X.K H a xs) : ∃ its : List Value, Vals xs its ∧ IsTup s.heap a its.toArray ∧ xs.length ≤ sizeLine := by
  rcases h with h | ⟨o, its, n, hk, hc, hs, hz, r⟩
  · obtain ⟨z, its, r, p⟩ := h.ok I.hok
    exact ⟨its, r, p, z⟩
  · refine ⟨its.toList, r, ⟨o, I.kIn a o hk, hc, n, by simpa using hs⟩, ?_⟩
    have e := r.length
    simp only [Array.length_toList] at e
    omega
theorem Inv.list_inj (I : Inv X pins σ H s) (h : SqL X.K H a xs) (h' : SqL X.K H a ys) : xs = ys := by
  obtain ⟨its, r, ⟨o, n, e, _, _, d⟩, _⟩ := I.list h
  obtain ⟨its', r', ⟨o', n', e', _, _, d'⟩, _⟩ := I.list h'
  rw [e] at e'; cases e'
  rw [d] at d'
  injection d' with d1 _
  have : its = its' := by simpa using congrArg Array.toList d1
  subst this
  exact r.inj r'
end
abbrev Cx.wish (X : Cx) (E : Value → Shared → Prop) : Cx := { X with xe := E }
/-- no exception leaves -/
abbrev Cx.nox (X : Cx) : Cx := X.wish fun _ _ => False
theorem Cx.Ok.wish {X : Cx} (ok : X.Ok) (E : Value → Shared → Prop) : (X.wish E).Ok :=
  ⟨ok.mod, ok.kind, ok.glob, ok.blt, ok.above, ok.inj, ok.has, ok.cab, ok.hd, ok.frames, ok.stk, ok.exf, ok.bs, ok.bsz, ok.noex, ok.exfs, ok.funs, ok.frf⟩
theorem Cx.Ok.unwish {X : Cx} {E : Value → Shared → Prop} (ok : (X.wish E).Ok) : X.Ok :=
  ⟨ok.mod, ok.kind, ok.glob, ok.blt, ok.above, ok.inj, ok.has, ok.cab, ok.hd, ok.frames, ok.stk, ok.exf, ok.bs, ok.bsz, ok.noex, ok.exfs, ok.funs, ok.frf⟩
section
variable {X : Cx} {pins : List (Addr × Obj)} {σ : St} {H : Hp} {s : Shared} {E : Value → Shared → Prop}
theorem Inv.wish (I : Inv X pins σ H s) (E : Value → Shared → Prop) : Inv (X.wish E) pins σ H s := ⟨I.ok.wish E, I.os, I.bare, I.base, I.loc, I.cell, I.free, I.freeC, I.pin, I.hok, I.len⟩
theorem Inv.unwish (I : Inv (X.wish E) pins σ H s) : Inv X pins σ H s := ⟨I.ok.unwish, I.os, I.bare, I.base, I.loc, I.cell, I.free, I.freeC, I.pin, I.hok, I.len⟩
theorem SP.unwish {D : Ends} {f : Flow} {s' : Shared} (h : SP (X.wish E) pins D f s') : SP X pins D f s' := by
  cases f with
  | next => obtain ⟨σ', H', I, q⟩ := h; exact ⟨σ', H', I.unwish, q⟩
  | brk => obtain ⟨σ', H', I, q⟩ := h; exact ⟨σ', H', I.unwish, q⟩
  | cont => obtain ⟨σ', H', I, q⟩ := h; exact ⟨σ', H', I.unwish, q⟩
  | ret u => obtain ⟨v, σ', H', I, r, q⟩ := h; exact ⟨v, σ', H', I.unwish, r, q⟩
theorem PSs.nox {st : List Stmt} {t : TS} (h : PSs X.nox st t) : PSs X st t := fun pins s σ H D I hw =>
  wpAny_mono (h pins s σ H D (I.wish _) hw) (fun _ _ q => q.unwish) fun _ _ z => False.elim z
end
section
variable {X : Cx} {st : Stmt} {rest : List Stmt} {t u : TS} {e : Expr} {te : TE} {pos : Pos}
def tNext : TS := fun D σ H => D.nx σ H
def tSeq (t u : TS) : TS := fun D σ H => t { D with nx := u D } σ H
theorem pss_nil : PSs X [] tNext := fun _ _ σ H _ I h => wpAny_execs_nil ⟨σ, H, I, h⟩
theorem pss_cons (h1 : PS X st t) (h2 : PSs X rest u) : PSs X (st :: rest) (tSeq t u) := by
  intro pins s σ H D I h
  refine wpAny_execs_cons (thn (h1 pins s σ H { D with nx := u D } I h) fun f s1 q => ?_)
  cases f with
  | next =>
    obtain ⟨σ', H', I', q⟩ := q
    exact h2 pins s1 σ' H' D I' q
  | ret v => exact q
  | brk => exact q
  | cont => exact q
theorem pss_one (h1 : PS X st t) : PSs X [st] t := by
  intro pins s σ H D I h
  refine wpAny_execs_cons (thn (h1 pins s σ H D I h) fun f s1 q => ?_)
  cases f with
  | next => exact wpAny_execs_nil q
  | ret v => exact q
  | brk => exact q
  | cont => exact q
/-- in a def's body nothing is shown -/
theorem Inv.quiet {pins : List (Addr × Obj)} {σ : St} {H : Hp} {s : Shared} (I : Inv X pins σ H s) : interactive X.env = false := by simp [interactive, I.ok.kind]
/-- an expression whose value is dropped -/
def tDrop (te : TE) : TS := fun D σ H => te σ H fun _ H1 => D.nx σ H1
theorem ps_expr (he : PE X e te) (hs : swapsWith e none pos.line X.env = pure false := by rfl) : PS X (.Expr e pos) (tDrop te) := by
  intro pins s σ H D I h
  exact wpAny_Expr_any (thn (he pins s σ H _ I h) fun v s1 ⟨x, H1, I1, r1, q1⟩ => ⟨σ, H1, I1, q1⟩) I.quiet hs
def tRet (te : TE) : TS := fun D σ H => te σ H D.rt
theorem ps_ret (he : PE X e te) : PS X (.Return (some e) pos) (tRet te) := by
  intro pins s σ H D I h
  exact wpAny_Return_some (thn (he pins s σ H _ I h) fun v s1 ⟨x, H1, I1, r1, q1⟩ => ⟨x, σ, H1, I1, r1, q1⟩)
def tIfS (c : TT) (t u : TS) : TS := fun D σ H => c σ H fun b H1 => if b = true then t D σ H1 else u D σ H1
theorem ps_if {c : Expr} {a b : List Stmt} {tc : TT} (hc : PT X c tc) (ha : PSs X a t) (hb : PSs X b u) : PS X (.If c a b pos) (tIfS tc t u) := by
  intro pins s σ H D I h
  refine wpAny_If (thn (hc pins s σ H _ I h) fun d s1 ⟨H1, I1, q1⟩ => ?_)
  cases d with
  | true => exact ha pins s1 σ H1 D I1 q1
  | false => exact hb pins s1 σ H1 D I1 q1
end
abbrev TG := V → St → Hp → (St → Hp → Prop) → Prop
def PG (X : Cx) (target : Expr) (t : TG) : Prop :=
  ∀ (pins : List (Addr × Obj)) (s : Shared) (σ : St) (H : Hp) (v : V) (u : Value) (Q : St → Hp → Prop), Inv X pins σ H s → RelV v u → t v σ H Q →
    wpAny (model X.prog X.w) X.A (assign target X.env u) (fun _ s' => ∃ σ' H', Inv X pins σ' H' s' ∧ Q σ' H') X.xe s
/-- o[i] = v, by values -/
abbrev TSet := V → V → V → Hp → (Hp → Prop) → Prop
def PSet (X : Cx) (t : TSet) : Prop :=
  ∀ (pins : List (Addr × Obj)) (s : Shared) (σ : St) (H : Hp) (o i v : V) (ov iv u : Value) (Q : Hp → Prop), Inv X pins σ H s → RelV o ov → RelV i iv → RelV v u → t o i v H Q →
    wpAny (model X.prog X.w) X.A (setItem ov iv u) (fun _ s' => ∃ H', Inv X pins σ H' s' ∧ Q H') X.xe s
section
variable {X : Cx} {pos : Pos}
def gName (i : Nat) : TG := fun v σ H Q => Q (σ.set i (some v)) H
theorem pg_name {i : Nat} {x : Str} (hN : X.N.Nodup) (hi : X.N[i]? = some x) (hx : Loc X.env.scope x) (hf : X.fn x = true ∨ X.env.scope.names.lookup x = some .local := by first | exact .inl rfl | exact .inr rfl | assumption) : PG X (.Name x pos) (gName i) := by
  intro pins s σ H v u Q I r h
  exact wpAny_assign_Name (store_ok I hN hi hx r (fun s' I' => ⟨_, H, I', h⟩) hf)
/-- o[i] = .. -/
def gSub (to ti : TE) (t : TSet) : TG := fun v σ H Q => to σ H fun o H1 => ti σ H1 fun i H2 => t o i v H2 fun H3 => Q σ H3
theorem pg_sub {o i : Expr} {to ti : TE} {t : TSet} (ho : PE X o to) (hi : PE X i ti) (hs : PSet X t)
    (ha : ∀ v, assign (.Subscript o i pos) X.env v = (do
      let ov ← holding [v] (eval o X.env)
      let iv ← holding [v, ov] (eval i X.env)
      standAt pos
      holding [v, ov, iv] (setItem ov iv v)
      release [v, ov, iv] []) := by intro _; rfl) : PG X (.Subscript o i pos) (gSub to ti t) := by
  intro pins s σ H v u Q I r h
  rw [ha]
  refine wpAny_bind (wpAny_holding (thn (ho pins s σ H _ I h) fun ov s1 ⟨x, H1, I1, r1, q1⟩ => ?_))
  refine wpAny_bind (wpAny_holding (thn (hi pins s1 σ H1 _ I1 q1) fun iv s2 ⟨y, H2, I2, r2, q2⟩ => ?_))
  refine wpAny_bind (wpAny_standAt (wpAny_bind (wpAny_holding (thn (hs pins s2 σ H2 x y v ov iv u _ I2 r1 r2 r q2) fun _ s3 ⟨H3, I3, q3⟩ => ?_))))
  exact wpAny_release ⟨σ, H3, I3, q3⟩
/-- target = value -/
def tAsg (te : TE) (g : TG) : TS := fun D σ H => te σ H fun x H1 => g x σ H1 D.nx
theorem ps_asg {tg e : Expr} {te : TE} {g : TG} (he : PE X e te) (hg : PG X tg g) (hs : swapsWithSole [tg] e pos.line X.env = pure false := by rfl) (hw : swappedStores [tg] e X.env = pure none := by rfl)
    (h1 : (assignEach [tg] X.env).map (·.2) = [assign tg X.env] := by rfl) : PS X (.Assign [tg] e pos) (tAsg te g) := by
  intro pins s σ H D I h
  refine wpAny_Assign_stores (thn (he pins s σ H _ I h) fun v s1 ⟨x, H1, I1, r1, q1⟩ => ?_) hs hw
  rw [h1]
  exact thn (hg pins s1 σ H1 x v _ I1 r1 q1) fun _ s2 q => q
/-- name = value -/
theorem ps_set {i : Nat} {x : Str} {e : Expr} {te : TE} {pos' : Pos} (hN : X.N.Nodup) (hi : X.N[i]? = some x) (hx : Loc X.env.scope x) (he : PE X e te) (hs : swapsWith e (some (.Name x pos')) pos.line X.env = pure false := by rfl) (hf : X.fn x = true ∨ X.env.scope.names.lookup x = some .local := by first | exact .inl rfl | exact .inr rfl | assumption) :
    PS X (.Assign [.Name x pos'] e pos) (tAsg te (gName i)) := by
  intro pins s σ H D I h
  refine wpAny_Assign_Name (thn (he pins s σ H _ I h) fun v s1 ⟨y, H1, I1, r1, q1⟩ => ?_) hs
  exact store_ok I1 hN hi hx r1 (fun s2 I2 => ⟨_, H1, I2, q1⟩) hf
end
section
variable {X : Cx} {pos : Pos}
/-- the invariant W with its measure -/
def tWhile (c : TT) (tb : TS) : TS := fun D σ H => ∃ W : Nat → St → Hp → Prop, (∃ m, W m σ H) ∧ ∀ m σ H, W m σ H →
  c σ H fun b H1 => if b = true then ∃ N : St → Hp → Prop, (∀ σ' H', N σ' H' → ∃ m', m' < m ∧ W m' σ' H') ∧ tb { D with nx := N, ct := N, bk := D.nx } σ H1 else D.nx σ H1
theorem ps_while {c : Expr} {body : List Stmt} {tc : TT} {tb : TS} (hp : PassesOwn (model X.prog X.w) X.A X.env X.xe) (hc : PT X c tc) (hb : PSs X body tb) : PS X (.While c body [] pos) (tWhile tc tb) := by
  intro pins s σ H D I h
  obtain ⟨W, ⟨m0, w0⟩, turn⟩ := h
  refine wpAny_While (codeAny_whileLoop (fun n s' => ∃ σ' H', Inv X pins σ' H' s' ∧ W n σ' H') ?_ m0 ⟨σ, H, I, w0⟩)
  rintro n s1 ⟨σ1, H1, I1, w1⟩
  refine wpAny_passesOwn hp (thn (hc pins s1 σ1 H1 _ I1 (turn n σ1 H1 w1)) fun b s2 ⟨H2, I2, q2⟩ => ?_)
  cases b with
  | true =>
    obtain ⟨N, hN, q2⟩ := q2
    rw [if_pos rfl]
    refine wpAny_passesOwn hp (thn (hb pins s2 σ1 H2 _ I2 q2) fun f s3 q3 => ?_)
    cases f with
    | next =>
      obtain ⟨σ3, H3, I3, n3⟩ := q3
      obtain ⟨m', hm, w3⟩ := hN σ3 H3 n3
      exact ⟨m', hm, σ3, H3, I3, w3⟩
    | cont =>
      obtain ⟨σ3, H3, I3, n3⟩ := q3
      obtain ⟨m', hm, w3⟩ := hN σ3 H3 n3
      exact ⟨m', hm, σ3, H3, I3, w3⟩
    | brk => exact q3
    | ret v => exact q3
  | false =>
    rw [if_neg Bool.false_ne_true]
    exact wpAny_execs_nil ⟨σ1, H2, I2, q2⟩
end
/-- at turn i: it yields x (the heap may grow), or it stops -/
structure It where
  go : Nat → Hp → Prop
  yld : Nat → Hp → V → Hp → Prop
  stop : Nat → Hp → Prop
/-- the iterator's own objects may turn: they are not the frame's, not pinned, younger than the entry (or a comprehension's own) -/
def FpOk (X : Cx) (pins : List (Addr × Obj)) (H : Hp) (b : Addr) : Prop :=
  H b = none ∧ b ≠ X.env.locals ∧ b ∉ X.fs ∧ (b ∈ X.ex ∨ X.s_0.heap.objs.size ≤ b) ∧ (∀ x c, X.env.cells.lookup x = some c → c ≠ b) ∧ ∀ p ∈ X.pn ++ pins, p.1 ≠ b
theorem Inv.fpOk {X : Cx} {pins : List (Addr × Obj)} {σ : St} {H H' : Hp} {s : Shared} {b : Addr} (I : Inv X pins σ H s) (hb : s.heap.objs.size ≤ b) (hn : H' b = none) : FpOk X pins H' b := by
  refine ⟨hn, Nat.ne_of_gt (Nat.lt_of_lt_of_le I.lt hb), I.nofs hb, .inr (Nat.le_trans I.sz hb), fun x c e z => ?_, fun p hp z => ?_⟩
  · obtain ⟨v, q⟩ := I.cell x c e
    exact absurd (Nat.lt_of_lt_of_le q.lt (by rw [z]; exact hb)) (Nat.lt_irrefl _)
  · exact absurd (Nat.lt_of_lt_of_le (Heap.lt_size (I.pin p hp).1) (by rw [z]; exact hb)) (Nat.lt_irrefl _)
structure Turn (P : Program) (w : World) (K : PySem.W.Frag) (tg : Expr) (J : It) (fp : List Addr) (it : Addr) (tn : Nat → Heap → Prop) : Prop where
  mem : it ∈ fp
  obj : ∀ i h, tn i h → ∀ b ∈ fp, ∃ o, h.get? b = some o ∧ ∀ v, o.data ≠ .cell v
  keep : ∀ i h h', tn i h → (∀ b ∈ fp, ∀ o, h.get? b = some o → h'.get? b = some o) → tn i h'
  item : ∀ (X : Cx), X.prog = P → X.w = w → X.K = K → X.calm = true → ∀ (i : Nat) (pins : List (Addr × Obj)) (s : Shared) (σ : St) (H : Hp) (E : Value → Shared → Prop), Inv X pins σ H s → (∀ b ∈ fp, FpOk X pins H b) → tn i s.heap → J.go i H →
    wpAny (model P w) X.A (pyNext (.ref it)) (fun r s1 => ∃ u, r = some u ∧
      wpAny (model P w) X.A (letOwnedTupleGo tg (.ref it) u) (fun _ s2 => ∃ x H', Inv X pins σ H' s2 ∧ RelV x u ∧ J.yld i H x H' ∧ tn (i + 1) s2.heap ∧ ∀ b ∈ fp, H' b = none) E s1) E s
  done : ∀ (X : Cx), X.prog = P → X.w = w → X.K = K → X.calm = true → ∀ (i : Nat) (pins : List (Addr × Obj)) (s : Shared) (σ : St) (H : Hp) (E : Value → Shared → Prop), Inv X pins σ H s → (∀ b ∈ fp, FpOk X pins H b) → tn i s.heap → J.stop i H →
    wpAny (model P w) X.A (pyNext (.ref it)) (fun r s1 => r = none ∧ Inv X pins σ H s1) E s
  self : ∀ (A : Around) (i : Nat) (s : Shared) (Q : Value → Shared → Prop) (E : Value → Shared → Prop), tn i s.heap → Q (.ref it) s → wpAny (model P w) A (pyIter (.ref it)) Q E s
abbrev TI := St → Hp → (It → Hp → Prop) → Prop
/-- an iterator has come -/
def PIE (X : Cx) (pins : List (Addr × Obj)) (σ : St) (tg : Expr) (R : It → Hp → Prop) (itv : Value) (s2 : Shared) : Prop :=
  ∃ (it : Addr) (fp : List Addr) (tn : Nat → Heap → Prop) (J : It) (H' : Hp), itv = .ref it ∧ Inv X pins σ H' s2 ∧ Turn X.prog X.w X.K tg J fp it tn ∧ tn 0 s2.heap ∧ (∀ b ∈ fp, FpOk X pins H' b) ∧ R J H'
def PI (X : Cx) (tg iter : Expr) (wi : TI) : Prop :=
  ∀ (pins : List (Addr × Obj)) (s : Shared) (σ : St) (H : Hp) (R : It → Hp → Prop), Inv X pins σ H s → wi σ H R →
    wpAny (model X.prog X.w) X.A (eval iter X.env) (fun v s1 => wpAny (model X.prog X.w) X.A (pyIter v) (PIE X pins σ tg R) X.xe s1) X.xe s
/-- the step ahead of the store is nothing for an iterator that keeps no tuple -/
theorem go_of {M : Model} {A : Around} {E : Value → Shared → Prop} {s : Shared} {tg : Expr} {it : Addr} {u : Value} {o : Obj} {n : String} {vs : Array Value} {Q : Unit → Shared → Prop} (ho : s.heap.get? it = some o) (hc : o.cls = .type n) (hd : o.data = .fields vs)
    (hn : ["enumerate", "zip", "dict_itemiterator", "dict_reverseitemiterator", "odict_iterator", "itertools.zip_longest", "itertools.pairwise"].contains n = false) (hQ : Q () s) : wpAny M A (letOwnedTupleGo tg (.ref it) u) Q E s := by
  unfold letOwnedTupleGo
  cases tg <;> first
    | exact wpAny_pure hQ
    | (cases u <;> first
        | exact wpAny_pure hQ
        | (refine wpAny_bind (wpAny_load ho ?_)
           rw [hc, hd]
           show wpAny M A (if (["enumerate", "zip", "dict_itemiterator", "dict_reverseitemiterator", "odict_iterator", "itertools.zip_longest", "itertools.pairwise"].contains n && vs[0]? == some (rawInt _)) = true then _ else _) Q E s
           rw [if_neg (by intro h; rw [hn, Bool.false_and] at h; cases h)]
           exact wpAny_pure hQ))
/-- the list at a, as it stands at each turn (a loop may append to it) -/
def Itl (K : PySem.W.Frag) (a : Addr) : It :=
  ⟨fun i H => ∃ xs x, SqL K H a xs ∧ xs[i]? = some x, fun i H x H' => H' = H ∧ ∀ xs, SqL K H a xs → xs[i]? = some x, fun i H => ∃ xs, SqL K H a xs ∧ xs.length ≤ i⟩
/-- lo, lo + 1, .. (n of them) -/
def Itr (lo : Int) (n : Nat) : It := ⟨fun i _ => i < n, fun i H x H' => H' = H ∧ x = .int (lo + i), fun i _ => n ≤ i⟩
theorem turn_list {P : Program} {w : World} {K : PySem.W.Frag} {tg : Expr} (a it : Addr) : Turn P w K tg (Itl K a) [it] it (fun i h => h.IsListIter it a i) where
  mem := by simp
  obj := fun i h st b hb => by
    have e : b = it := by simpa using hb
    subst e
    obtain ⟨o, e, c, d⟩ := st
    exact ⟨o, e, fun v z => by rw [d] at z; cases z⟩
  keep := fun i h h' st k => st.at fun o e => k it (by simp) o e
  item := by
    intro X hP hw hK hc i pins s σ H E I hf st hg
    subst hP hw hK
    obtain ⟨xs, x, hq, hx⟩ := hg
    obtain ⟨its, rv, p, hz⟩ := I.list hq
    obtain ⟨u, hu, ru⟩ := rv.get hx
    obtain ⟨f0, f1, f2, f3, f4, f5⟩ := hf it (by simp)
    refine wpAny_pyNext_list_item st p.isList (x := u) (by simpa using hu) fun h' st' sb => ?_
    have I1 : Inv X pins σ H { s with heap := h' } := I.turned (t' := s.toks) (fun b o hb e => (sb.2 b hb).trans e) f0 f1 f3 f4 f5
    obtain ⟨o, e, c, d⟩ := id st'
    exact ⟨u, rfl, go_of (s := { s with heap := h' }) e c d (by decide) ⟨x, H, I1, ru, ⟨rfl, fun ys hy => by rw [I.list_inj hy hq]; exact hx⟩, st', fun b hb => (hf b hb).1⟩⟩
  done := by
    intro X hP hw hK hc i pins s σ H E I hf st hg
    subst hP hw hK
    obtain ⟨xs, hq, hx⟩ := hg
    obtain ⟨its, rv, p, hz⟩ := I.list hq
    obtain ⟨f0, f1, f2, f3, f4, f5⟩ := hf it (by simp)
    have hl := rv.length
    exact wpAny_pyNext_list_end (I.ok.hd hc) st p.isList (by simp; omega) fun h' eb => ⟨rfl, I.turned (t' := s.toks) (fun b o hb e => eb b o hb e) f0 f1 f3 f4 f5⟩
  self := fun _ _ _ _ _ st h => wpAny_pyIter_listiter st h
theorem turn_range {P : Program} {w : World} {K : PySem.W.Frag} {tg : Expr} (it : Addr) (lo : Int) (n : Nat) : Turn P w K tg (Itr lo n) [it] it (fun i h => IsRangeIter h it (lo + (i : Nat) * 1) ((n : Int) - (i : Nat)) 1) where
  mem := by simp
  obj := fun i h st b hb => by
    have e : b = it := by simpa using hb
    subst e
    exact ⟨_, st, fun v z => by
      have z' : Data.fields _ = Data.cell v := z
      cases z'⟩
  keep := fun i h h' st k => k it (by simp) _ st
  item := by
    intro X hP hw hK hc i pins s σ H E I hf st hg
    subst hP hw hK
    obtain ⟨f0, f1, f2, f3, f4, f5⟩ := hf it (by simp)
    have W := Walks.range (prog := X.prog) (w := X.w) (I.ok.hd hc) it lo 1 n
    refine W.item i s _ _ hg st fun v h' tk hv st' kk => ?_
    obtain ⟨t, rfl⟩ := hv
    have I1 : Inv X pins σ H { s with heap := h', toks := tk } := I.turned (fun b o hb e => kk b o (by simpa using hb) e) f0 f1 f3 f4 f5
    refine ⟨_, rfl, go_of (s := { s with heap := h', toks := tk }) (n := "range_iterator") st' rfl rfl (by decide) ⟨.int (lo + i), H, I1, ⟨t, ?_⟩, ⟨rfl, rfl⟩, st', fun b hb => (hf b hb).1⟩⟩
    rw [Int.mul_one]
  done := by
    intro X hP hw hK hc i pins s σ H E I hf st hg
    subst hP hw hK
    obtain ⟨f0, f1, f2, f3, f4, f5⟩ := hf it (by simp)
    exact wpAny_pyNext_range_end (I.ok.hd hc) st (by have : n ≤ i := hg; omega) fun h' eb => ⟨rfl, I.turned (t' := s.toks) (fun b o hb e => eb b o hb e) f0 f1 f3 f4 f5⟩
  self := fun _ _ _ _ _ st h => wpAny_pyIter_rangeiter st h
end L2
namespace L2
open PySem PySem.Spec PyProof.Rows
section
variable {X : Cx} {tg : Expr}
def iList (K : PySem.W.Frag) (tl : TE) : TI := fun σ H R => tl σ H fun x H1 => ∃ a, x = .ref a ∧ (∃ xs, SqL K H1 a xs) ∧ R (Itl K a) H1
theorem pi_list {l : Expr} {tl : TE} (hl : PE X l tl) : PI X tg l (iList X.K tl) := by
  intro pins s σ H R I h
  refine thn (hl pins s σ H _ I h) fun v s1 ⟨x, H1, I1, r1, q1⟩ => ?_
  obtain ⟨a, e, ⟨xs, hq⟩, q⟩ := q1
  subst e
  cases r1
  obtain ⟨its, rv, p, hz⟩ := I1.list hq
  refine wpAny_pyIter_list p.isList ?_
  refine ⟨s1.heap.objs.size, [s1.heap.objs.size], _, _, H1, rfl, I1.kept (t' := s1.toks) fun b o e => Heap.get?_push_of_some _ e, turn_list a _, ⟨_, Heap.get?_push_size _ rfl, rfl, rfl⟩, fun b hb => ?_, q⟩
  have e : b = s1.heap.objs.size := by simpa using hb
  subst e
  exact I1.fpOk (Nat.le_refl _) (I1.hok.fresh (Nat.le_refl _))
/-- a range object just made, walked -/
theorem range_it {pins : List (Addr × Obj)} {σ : St} {H : Hp} {s : Shared} {R : It → Hp → Prop} {E : Value → Shared → Prop} {lo hi : Int} {t u v : Tok} {tk : Nat} (I : Inv X pins σ H s) (h1 : -(2 ^ 62) ≤ lo) (h2 : lo < 2 ^ 62) (h3 : -(2 ^ 62) ≤ hi) (h4 : hi < 2 ^ 62)
    (q : R (Itr lo (hi - lo).toNat) H) : wpAny (model X.prog X.w) X.A (pyIter (.ref s.heap.objs.size)) (PIE X pins σ tg R) E { s with heap := s.heap.push { cls := .type "range", data := .fields #[.int lo t, .int hi u, .int 1 v] }, toks := tk } := by
  refine wpAny_pyIter_range (IsRange.new ..) (small_one h1 h2 h3 h4) ?_
  have I1 : Inv X pins σ H { s with heap := s.heap.push { cls := .type "range", data := .fields #[.int lo t, .int hi u, .int 1 v] }, toks := tk } := I.kept fun b o e => Heap.get?_push_of_some _ e
  refine ⟨(s.heap.push { cls := .type "range", data := .fields #[.int lo t, .int hi u, .int 1 v] }).objs.size, [(s.heap.push { cls := .type "range", data := .fields #[.int lo t, .int hi u, .int 1 v] }).objs.size], _, _, H, rfl,
    I1.kept (t' := tk) fun b o e => Heap.get?_push_of_some _ e, turn_range _ lo (hi - lo).toNat, ?_, fun b hb => ?_, q⟩
  · have e1 : lo + ((0 : Nat) : Int) * 1 = lo := by simp
    have e2 : (((hi - lo).toNat : Nat) : Int) - ((0 : Nat) : Int) = Builtin.Range.rangeSize lo hi 1 := by rw [rangeSize_one]; split <;> omega
    show IsRangeIter _ _ (lo + ((0 : Nat) : Int) * 1) ((((hi - lo).toNat : Nat) : Int) - ((0 : Nat) : Int)) 1
    rw [e1, e2]
    exact Heap.get?_push_size _ rfl
  · have e : b = (s.heap.push { cls := .type "range", data := .fields #[.int lo t, .int hi u, .int 1 v] }).objs.size := by simpa using hb
    subst e
    exact I1.fpOk (Nat.le_refl _) (I1.hok.fresh (Nat.le_refl _))
def iRng1 (ta : TA) : TI := fun σ H R => ta σ H fun vs H1 => ∃ j : Int, vs = [.int j] ∧ -(2 ^ 62) ≤ j ∧ j < 2 ^ 62 ∧ R (Itr 0 j.toNat) H1
theorem pi_range1 {a : Expr} {ta : TA} {p pos : Pos} (hg : Gl X "range") (hm : X.mg "range" = none) (ha : PA X [a] ta) (hs : starEach [a] X.env = [(false, eval a X.env)] := by rfl) : PI X tg (.Call (.Name "range" p) [a] [] pos) (iRng1 ta) := by
  intro pins s σ H R I h
  refine Call_ (ld_blt I hg hm boot_range (PyProof.Rows.callWith_type1 (thn (ha pos pins s σ H _ I h) fun us s1 ⟨vs, H1, I1, r1, q1⟩ => ?_) hs rfl))
  obtain ⟨j, e, q1, q2, q⟩ := q1
  subst e
  cases r1 with
  | cons r rr =>
    cases rr
    obtain ⟨t, rfl⟩ := r
    exact call_range_1 (range_it I1 (by omega) (by omega) q1 q2 (by simpa using q))
/-- W: the invariant by the turn and a measure; N: what the body is to reach -/
def tFor (wi : TI) (g : TG) (tb : TS) : TS := fun D σ H => wi σ H fun J H1 => ∃ W : Nat → Nat → St → Hp → Prop, (∃ m, W 0 m σ H1) ∧ ∀ i m σ H, W i m σ H →
  (J.stop i H ∧ D.nx σ H) ∨ (J.go i H ∧ ∃ N : St → Hp → Prop, (∀ σ' H', N σ' H' → ∃ m', m' < m ∧ W (i + 1) m' σ' H') ∧ ∀ x H', J.yld i H x H' → g x σ H' fun σ2 H2 => tb { D with nx := N, ct := N, bk := D.nx } σ2 H2)
/-- the records at fp as they stand -/
def pinsAt (fp : List Addr) (h : Heap) : List (Addr × Obj) := fp.filterMap fun b => (h.get? b).map fun o => (b, o)
theorem mem_pinsAt {fp : List Addr} {h : Heap} {b : Addr} {o : Obj} (hb : b ∈ fp) (e : h.get? b = some o) : (b, o) ∈ pinsAt fp h := List.mem_filterMap.mpr ⟨b, hb, by rw [e]; rfl⟩
theorem of_pinsAt {fp : List Addr} {h : Heap} {p : Addr × Obj} (hp : p ∈ pinsAt fp h) : p.1 ∈ fp ∧ h.get? p.1 = some p.2 := by
  obtain ⟨b, hb, e⟩ := List.mem_filterMap.mp hp
  cases q : h.get? b with
  | none => rw [q] at e; cases e
  | some o =>
    rw [q] at e
    have e' : (b, o) = p := Option.some.inj e
    subst e'
    exact ⟨hb, q⟩
theorem Inv.pinned {pins : List (Addr × Obj)} {σ : St} {H : Hp} {s : Shared} {fp : List Addr} (I : Inv X pins σ H s) (hf : ∀ b ∈ fp, FpOk X pins H b) (ho : ∀ b ∈ fp, ∃ o, s.heap.get? b = some o ∧ ∀ v, o.data ≠ .cell v) : Inv X (pins ++ pinsAt fp s.heap) σ H s :=
  I.pins_of fun p hp => (List.mem_append.mp hp).elim (fun z => I.pin p (List.mem_append_right _ z)) fun z => by
    obtain ⟨hb, e⟩ := of_pinsAt z
    obtain ⟨f0, f1, f2, _⟩ := hf p.1 hb
    obtain ⟨o, e', d⟩ := ho p.1 hb
    rw [e] at e'; cases e'
    exact ⟨e, f0, f1, f2, d⟩
theorem Inv.unpinned {pins pl : List (Addr × Obj)} {σ : St} {H : Hp} {s : Shared} (I : Inv X (pins ++ pl) σ H s) : Inv X pins σ H s := I.pins_of fun p hp => I.pin p (List.mem_append_right _ (List.mem_append_left _ hp))
theorem ps_for {iter : Expr} {body : List Stmt} {wi : TI} {g : TG} {tb : TS} {pos : Pos} (hp : PassesOwn (model X.prog X.w) X.A X.env X.xe) (hc : X.calm = true) (hi : PI X tg iter wi) (hg : PG X tg g) (hb : PSs X body tb)
    (hs : ∀ x, foldedSetIterable iter X.env x = pure x := by intro _; rfl) : PS X (.For tg iter body [] pos) (tFor wi g tb) := by
  intro pins s σ H D I h
  refine wpAny_For (thn (hi pins s σ H _ I h) fun v s1 h1 => thn h1 fun itv s2 h2 => ?_) hs
  obtain ⟨it, fp, tn, J, H2, e, I2, T, st2, f2, W, ⟨m0, w0⟩, turn⟩ := h2
  subst e
  -- what stays true of the iterator's objects through the loop
  have stat : ∀ {H' : Hp}, (∀ b ∈ fp, H' b = none) → ∀ b ∈ fp, FpOk X pins H' b := fun hn b hb => ⟨hn b hb, (f2 b hb).2⟩
  refine codeAny_forLoop_any (fun n s' => ∃ i σ' H', Inv X pins σ' H' s' ∧ tn i s'.heap ∧ (∀ b ∈ fp, H' b = none) ∧ W i n σ' H') ?_ m0 ⟨0, σ, H2, I2, st2, fun b hb => (f2 b hb).1, w0⟩
  rintro n s3 ⟨i, σ3, H3, I3, st3, fr3, w3⟩
  rcases turn i n σ3 H3 w3 with ⟨stop, qn⟩ | ⟨go, N, hN, step⟩
  · refine wpAny_passesOwn hp (thn (T.done X rfl rfl rfl hc i pins s3 σ3 H3 X.xe I3 (stat fr3) st3 stop) fun r s4 ⟨hr, I4⟩ => ?_)
    subst hr
    exact wpAny_execs_nil ⟨σ3, H3, I4, qn⟩
  · refine wpAny_passesOwn hp (thn (T.item X rfl rfl rfl hc i pins s3 σ3 H3 X.xe I3 (stat fr3) st3 go) fun r s4 ⟨u, hr, h4⟩ => ?_)
    subst hr
    refine wpAny_passesOwn hp (thn h4 fun _ s5 ⟨x, H5, I5, r5, y5, st5, fr5⟩ => ?_)
    have I5' := I5.pinned (stat fr5) (T.obj _ _ st5)
    refine wpAny_passesOwn hp (thn (hg _ s5 σ3 H5 x u _ I5' r5 (step x H5 y5)) fun _ s6 ⟨σ6, H6, I6, q6⟩ => ?_)
    refine wpAny_passesOwn hp (thn (hb _ s6 σ6 H6 _ I6 q6) fun f s7 q7 => ?_)
    have again : ∀ {σ7 : St} {H7 : Hp}, Inv X (pins ++ pinsAt fp s5.heap) σ7 H7 s7 → N σ7 H7 → ∃ m, m < n ∧ ∃ i σ' H', Inv X pins σ' H' s7 ∧ tn i s7.heap ∧ (∀ b ∈ fp, H' b = none) ∧ W i m σ' H' := fun {σ7 H7} I7 n7 => by
      obtain ⟨m', hm, w7⟩ := hN σ7 H7 n7
      refine ⟨m', hm, i + 1, σ7, H7, I7.unpinned, T.keep _ _ _ st5 fun b hb o e => (I7.pin (b, o) (List.mem_append_right _ (List.mem_append_right _ (mem_pinsAt hb e)))).1, fun b hb => ?_, w7⟩
      obtain ⟨o, e, d⟩ := T.obj _ _ st5 b hb
      exact (I7.pin (b, o) (List.mem_append_right _ (List.mem_append_right _ (mem_pinsAt hb e)))).2.1
    cases f with
    | next => obtain ⟨σ7, H7, I7, n7⟩ := q7; exact again I7 n7
    | cont => obtain ⟨σ7, H7, I7, n7⟩ := q7; exact again I7 n7
    | brk => obtain ⟨σ7, H7, I7, q7⟩ := q7; exact ⟨σ7, H7, I7.unpinned, q7⟩
    | ret v => obtain ⟨x7, σ7, H7, I7, r7, q7⟩ := q7; exact ⟨x7, σ7, H7, I7.unpinned, r7, q7⟩
end
/-- over a list that the body leaves as it is -/
theorem for_list {K : PySem.W.Frag} {a : Addr} {xs : List V} {g : TG} {tb : TS} {D : Ends} {σ : St} {H : Hp} (Pv : Nat → St → Hp → Prop) (h0 : Pv 0 σ H) (hl : ∀ i σ H, i ≤ xs.length → Pv i σ H → SqL K H a xs)
    (hs : ∀ i x σ H, xs[i]? = some x → Pv i σ H → g x σ H fun σ2 H2 => tb { D with nx := Pv (i + 1), ct := Pv (i + 1), bk := D.nx } σ2 H2) (hd : ∀ σ H, Pv xs.length σ H → D.nx σ H) :
    ∃ W : Nat → Nat → St → Hp → Prop, (∃ m, W 0 m σ H) ∧ ∀ i m σ H, W i m σ H →
      ((Itl K a).stop i H ∧ D.nx σ H) ∨ ((Itl K a).go i H ∧ ∃ N : St → Hp → Prop, (∀ σ' H', N σ' H' → ∃ m', m' < m ∧ W (i + 1) m' σ' H') ∧ ∀ x H', (Itl K a).yld i H x H' → g x σ H' fun σ2 H2 => tb { D with nx := N, ct := N, bk := D.nx } σ2 H2) := by
  refine ⟨fun i m σ H => m = xs.length - i ∧ i ≤ xs.length ∧ Pv i σ H, ⟨xs.length, by simp, Nat.zero_le _, h0⟩, ?_⟩
  rintro i m σ H ⟨rfl, hi, p⟩
  have q := hl i σ H hi p
  by_cases hlt : i < xs.length
  · refine .inr ⟨⟨xs, xs[i], q, by simp [hlt]⟩, Pv (i + 1), fun σ' H' p' => ⟨xs.length - (i + 1), by omega, rfl, hlt, p'⟩, fun x H' y => ?_⟩
    obtain ⟨e, y⟩ := y
    subst e
    exact hs i x σ _ (y xs q) p
  · have e : i = xs.length := by omega
    subst e
    exact .inl ⟨⟨xs, q, Nat.le_refl _⟩, hd σ H p⟩
theorem for_range {lo : Int} {n : Nat} {g : TG} {tb : TS} {D : Ends} {σ : St} {H : Hp} (Pv : Nat → St → Hp → Prop) (h0 : Pv 0 σ H)
    (hs : ∀ i σ H, i < n → Pv i σ H → g (.int (lo + i)) σ H fun σ2 H2 => tb { D with nx := Pv (i + 1), ct := Pv (i + 1), bk := D.nx } σ2 H2) (hd : ∀ σ H, Pv n σ H → D.nx σ H) :
    ∃ W : Nat → Nat → St → Hp → Prop, (∃ m, W 0 m σ H) ∧ ∀ i m σ H, W i m σ H →
      ((Itr lo n).stop i H ∧ D.nx σ H) ∨ ((Itr lo n).go i H ∧ ∃ N : St → Hp → Prop, (∀ σ' H', N σ' H' → ∃ m', m' < m ∧ W (i + 1) m' σ' H') ∧ ∀ x H', (Itr lo n).yld i H x H' → g x σ H' fun σ2 H2 => tb { D with nx := N, ct := N, bk := D.nx } σ2 H2) := by
  refine ⟨fun i m σ H => m = n - i ∧ i ≤ n ∧ Pv i σ H, ⟨n, by simp, Nat.zero_le _, h0⟩, ?_⟩
  rintro i m σ H ⟨rfl, hi, p⟩
  by_cases hlt : i < n
  · refine .inr ⟨hlt, Pv (i + 1), fun σ' H' p' => ⟨n - (i + 1), by omega, rfl, hlt, p'⟩, fun x H' y => ?_⟩
    obtain ⟨e, y⟩ := y
    subst e y
    exact hs i σ _ hlt p
  · have e : i = n := by omega
    subst e
    exact .inl ⟨Nat.le_refl _, hd σ H p⟩
end L2
namespace L2
open PySem PySem.Spec PyProof.Rows
abbrev R2 := V → V → Hp → VK → Prop
/-- a two-place operation on values: f is binaryOp op, inplaceOp op or compareOp op -/
def OpR (X : Cx) (f : Value → Value → Sem Value) (r : R2) : Prop :=
  ∀ (pins : List (Addr × Obj)) (s : Shared) (σ : St) (H : Hp) (x y : V) (v u : Value) (Q : VK), Inv X pins σ H s → RelV x v → RelV y u → r x y H Q →
    wpAny (model X.prog X.w) X.A (f v u) (EP X pins σ Q) X.xe s
/-- a one-place operation -/
def UnR (X : Cx) (f : Value → Sem Value) (r : V → Hp → VK → Prop) : Prop :=
  ∀ (pins : List (Addr × Obj)) (s : Shared) (σ : St) (H : Hp) (x : V) (v : Value) (Q : VK), Inv X pins σ H s → RelV x v → r x H Q →
    wpAny (model X.prog X.w) X.A (f v) (EP X pins σ Q) X.xe s
/-- a call of a value that is known (a builtin, a type) with values -/
def CallR (X : Cx) (f : Value) (r : List V → Hp → VK → Prop) : Prop :=
  ∀ (pins : List (Addr × Obj)) (s : Shared) (σ : St) (H : Hp) (xs : List V) (us : List Value) (Q : VK), Inv X pins σ H s → Vals xs us → r xs H Q →
    wpAny (model X.prog X.w) X.A (call f us) (EP X pins σ Q) X.xe s
/-- a value's truth -/
def TruR (X : Cx) (r : V → Hp → (Bool → Hp → Prop) → Prop) : Prop :=
  ∀ (pins : List (Addr × Obj)) (s : Shared) (σ : St) (H : Hp) (x : V) (v : Value) (Q : Bool → Hp → Prop), Inv X pins σ H s → RelV x v → r x H Q →
    wpAny (model X.prog X.w) X.A (truthy v) (TP X pins σ Q) X.xe s
def tOp (r : R2) (ta tb : TE) : TE := fun σ H Q => ta σ H fun x H1 => tb σ H1 fun y H2 => r x y H2 Q
def tUn (r : V → Hp → VK → Prop) (ta : TE) : TE := fun σ H Q => ta σ H fun x H1 => r x H1 Q
/-- ints in, under C, and a value out -/
def rI (C : Int → Int → Prop) (g : Int → Int → V) : R2 := fun x y H Q => ∃ i j, x = .int i ∧ y = .int j ∧ C i j ∧ Q (g i j) H
def rI0 (g : Int → Int → V) : R2 := fun x y H Q => ∃ i j, x = .int i ∧ y = .int j ∧ Q (g i j) H
def rU (g : Int → V) : V → Hp → VK → Prop := fun x H Q => ∃ i, x = .int i ∧ Q (g i) H
section
variable {X : Cx} {a b c : Expr} {ta tb tc : TE} {pos : Pos}
theorem binT (ha : PE X a ta) (hb : PE X b tb) {pins : List (Addr × Obj)} {s : Shared} {σ : St} {H : Hp} {R : V → V → Hp → Prop} (I : Inv X pins σ H s)
    (h : ta σ H fun x H1 => tb σ H1 fun y H2 => R x y H2) {Q : Value → Shared → Prop} {f : Value → Value → Sem Value}
    (hf : ∀ v u s2 x y H2, Inv X pins σ H2 s2 → RelV x v → RelV y u → R x y H2 → wpAny (model X.prog X.w) X.A (f v u) Q X.xe s2) :
    wpAny (model X.prog X.w) X.A (eval a X.env) (fun v s₁ => wpAny (model X.prog X.w) X.A (eval b X.env) (fun u s₂ => wpAny (model X.prog X.w) X.A (f v u) Q X.xe s₂) X.xe s₁) X.xe s := by
  refine thn (ha pins s σ H _ I h) fun v s1 ⟨x, H1, I1, r1, q1⟩ => ?_
  refine thn (hb pins s1 σ H1 _ I1 q1) fun u s2 ⟨y, H2, I2, r2, q2⟩ => ?_
  exact hf v u s2 x y H2 I2 r1 r2 q2
theorem pe_op {op : Operator} {r : R2} (ho : OpR X (binaryOp op) r) (ha : PE X a ta) (hb : PE X b tb) : PE X (.BinOp a op b pos) (tOp r ta tb) := by
  intro pins s σ H Q I h
  exact wpAny_BinOp (binT ha hb I h fun v u s2 x y H2 I2 rx ry q => ho pins s2 σ H2 x y v u Q I2 rx ry q)
theorem pe_un {op : UnaryOp} {r : V → Hp → VK → Prop} (ho : UnR X (unaryOp op) r) (ha : PE X a ta) : PE X (.UnaryOp op a pos) (tUn r ta) := by
  intro pins s σ H Q I h
  exact UnaryOp_ (thn (ha pins s σ H _ I h) fun v s1 ⟨x, H1, I1, r1, q1⟩ => ho pins s1 σ H1 x v Q I1 r1 q1)
theorem opI {f : Value → Value → Sem Value} {C : Int → Int → Prop} {g : Int → Int → Int}
    (rule : ∀ (i j : Int) (t u : Tok) (s : Shared) (Q : Value → Shared → Prop) (E : Value → Shared → Prop), C i j → Q (.int (g i j) s.toks) { s with toks := s.toks + 1 } → wpAny (model X.prog X.w) X.A (f (.int i t) (.int j u)) Q E s) :
    OpR X f (rI C fun i j => .int (g i j)) := by
  intro pins s σ H x y v u Q I rx ry h
  obtain ⟨i, j, rfl, rfl, hc, q⟩ := h
  obtain ⟨t, rfl⟩ := rx
  obtain ⟨t', rfl⟩ := ry
  exact rule i j t t' s _ _ hc ⟨.int (g i j), H, I.tok _, ⟨_, rfl⟩, q⟩
theorem opI0 {f : Value → Value → Sem Value} {g : Int → Int → Int}
    (rule : ∀ (i j : Int) (t u : Tok) (s : Shared) (Q : Value → Shared → Prop) (E : Value → Shared → Prop), Q (.int (g i j) s.toks) { s with toks := s.toks + 1 } → wpAny (model X.prog X.w) X.A (f (.int i t) (.int j u)) Q E s) :
    OpR X f (rI0 fun i j => .int (g i j)) := by
  intro pins s σ H x y v u Q I rx ry h
  obtain ⟨i, j, rfl, rfl, q⟩ := h
  obtain ⟨t, rfl⟩ := rx
  obtain ⟨t', rfl⟩ := ry
  exact rule i j t t' s _ _ ⟨.int (g i j), H, I.tok _, ⟨_, rfl⟩, q⟩
theorem opB0 {f : Value → Value → Sem Value} {g : Int → Int → Bool}
    (rule : ∀ (i j : Int) (t u : Tok) (s : Shared) (Q : Value → Shared → Prop) (E : Value → Shared → Prop), Q (.bool (g i j)) s → wpAny (model X.prog X.w) X.A (f (.int i t) (.int j u)) Q E s) :
    OpR X f (rI0 fun i j => .bl (g i j)) := by
  intro pins s σ H x y v u Q I rx ry h
  obtain ⟨i, j, rfl, rfl, q⟩ := h
  obtain ⟨t, rfl⟩ := rx
  obtain ⟨t', rfl⟩ := ry
  exact rule i j t t' s _ _ ⟨.bl (g i j), H, I, rfl, q⟩
def CDiv (i j : Int) : Prop := 0 < j ∧ j < 1073741824
def CMul (i j : Int) : Prop := (-(2 ^ 64) < i ∧ i < 2 ^ 64) ∨ (-(2 ^ 64) < j ∧ j < 2 ^ 64)
theorem CMul.ok {i j : Int} (h : CMul i j) : IntMulOk i j := by
  rcases h with ⟨h1, h2⟩ | ⟨h1, h2⟩
  · exact .of_left (intBits_le_64 h1 h2)
  · exact .of_right (intBits_le_64 h1 h2)
theorem op_add : OpR X (binaryOp .Add) (rI0 fun i j => .int (i + j)) := opI0 fun _ _ _ _ _ _ _ q => add_int q
theorem op_sub : OpR X (binaryOp .Sub) (rI0 fun i j => .int (i - j)) := opI0 fun _ _ _ _ _ _ _ q => sub_int q
theorem op_mul : OpR X (binaryOp .Mult) (rI CMul fun i j => .int (i * j)) := opI fun _ _ _ _ _ _ _ hc q => mul_int q hc.ok
/-- // by a positive divisor -/
theorem op_fdiv : OpR X (binaryOp .FloorDiv) (rI CDiv fun i j => .int (i / j)) := opI fun i j _ _ _ _ _ hc q => by
  have h1 : (0 : Int) < j := hc.1
  have h2 : j < 1073741824 := hc.2
  exact floordiv_int (by omega) (by rw [Int.fdiv_eq_ediv_of_nonneg i (by omega)]; exact q) (.inl (PyProof.noPylong_small (by omega)))
/-- % by a positive divisor of any size -/
theorem op_mod : OpR X (binaryOp .Mod) (rI (fun _ j => 0 < j) fun i j => .int (i % j)) := opI fun i j _ _ _ _ _ hc q => by
  have h1 : (0 : Int) < j := hc
  exact mod_int' (by omega) (by rw [Int.fmod_eq_emod_of_nonneg i (by omega)]; exact q)
theorem unI {f : Value → Sem Value} {g : Int → Int}
    (rule : ∀ (i : Int) (t : Tok) (s : Shared) (Q : Value → Shared → Prop) (E : Value → Shared → Prop), Q (.int (g i) s.toks) { s with toks := s.toks + 1 } → wpAny (model X.prog X.w) X.A (f (.int i t)) Q E s) :
    UnR X f (rU fun i => .int (g i)) := by
  intro pins s σ H x v Q I rx h
  obtain ⟨i, rfl, q⟩ := h
  obtain ⟨t, rfl⟩ := rx
  exact rule i t s _ _ ⟨.int (g i), H, I.tok _, ⟨_, rfl⟩, q⟩
theorem un_neg : UnR X (unaryOp .USub) (rU fun i => .int (-i)) := unI fun _ _ _ _ _ q => neg_int q
end
/-- the scalars that == tells apart as data does -/
def scal : V → V → Bool
  | .non, .non => true | .non, .int _ => true | .int _, .non => true | .non, .bl _ => true | .bl _, .non => true | .non, .str _ => true | .str _, .non => true
  | .int _, .int _ => true | .bl _, .bl _ => true | .str _, .str _ => true | .byt _, .byt _ => true
  | .int _, .str _ => true | .str _, .int _ => true | .bl _, .str _ => true | .str _, .bl _ => true
  | _, _ => false
def rEq : R2 := fun x y H Q => scal x y = true ∧ Q (.bl (decide (x = y))) H
def rNe : R2 := fun x y H Q => scal x y = true ∧ Q (.bl (!decide (x = y))) H
theorem dec_int {i j : Int} : decide (V.int i = V.int j) = (i == j) := by
  rw [Bool.eq_iff_iff]
  simp
theorem dec_bl {i j : Bool} : decide (V.bl i = V.bl j) = (i == j) := by
  rw [Bool.eq_iff_iff]
  simp
theorem dec_str {i j : Str} : decide (V.str i = V.str j) = (i == j) := by
  rw [Bool.eq_iff_iff]
  simp
theorem dec_byt {i j : Array UInt8} : decide (V.byt i = V.byt j) = (i.toList == j.toList) := by
  rw [Bool.eq_iff_iff]
  cases i
  cases j
  simp
section
variable {X : Cx} {a b c : Expr} {ta tb tc : TE} {pos : Pos}
theorem fin_bl {pins : List (Addr × Obj)} {σ : St} {H : Hp} {s : Shared} {Q : VK} {k k' : Bool} (I : Inv X pins σ H s) (q : Q (.bl k) H) (e : k = k') : EP X pins σ Q (.bool k') s := by
  subst e
  exact ⟨.bl k, H, I, rfl, q⟩
theorem op_eq : OpR X (compareOp .Eq) rEq := by
  intro pins s σ H x y v u Q I rx ry h
  obtain ⟨hs, q⟩ := h
  cases x with
  | non =>
    cases rx
    cases y with
    | non => cases ry; exact PySem.EqNone.eq_none_none (fin_bl I q (by simp))
    | bl j => cases ry; exact PySem.EqNone.eq_none_bool (fin_bl I q (by simp))
    | int j => obtain ⟨t', rfl⟩ := ry; exact PySem.EqNone.eq_none_int (fin_bl I q (by simp))
    | str j => obtain ⟨t', rfl⟩ := ry; exact PySem.EqNone.eq_none_str (fin_bl I q (by simp))
    | _ => exact absurd (show false = true from hs) Bool.false_ne_true
  | bl i =>
    cases rx
    cases y with
    | non => cases ry; exact PySem.EqNone.eq_bool_none (fin_bl I q (by simp))
    | bl j => cases ry; exact eq_bool (fin_bl I q dec_bl)
    | str j => obtain ⟨t', rfl⟩ := ry; exact PySem.EqMixed.eq_bool_str (fin_bl I q (by simp))
    | _ => exact absurd (show false = true from hs) Bool.false_ne_true
  | int i =>
    obtain ⟨t, rfl⟩ := rx
    cases y with
    | non => cases ry; exact PySem.EqNone.eq_int_none (fin_bl I q (by simp))
    | int j => obtain ⟨t', rfl⟩ := ry; exact eq_int (fin_bl I q dec_int)
    | str j => obtain ⟨t', rfl⟩ := ry; exact PySem.EqMixed.eq_int_str (fin_bl I q (by simp))
    | _ => exact absurd (show false = true from hs) Bool.false_ne_true
  | str i =>
    obtain ⟨t, rfl⟩ := rx
    cases y with
    | non => cases ry; exact PySem.EqNone.eq_str_none (fin_bl I q (by simp))
    | bl j => cases ry; exact PySem.EqMixed.eq_str_bool (fin_bl I q (by simp))
    | int j => obtain ⟨t', rfl⟩ := ry; exact PySem.EqMixed.eq_str_int (fin_bl I q (by simp))
    | str j => obtain ⟨t', rfl⟩ := ry; exact eq_str (fin_bl I q dec_str)
    | _ => exact absurd (show false = true from hs) Bool.false_ne_true
  | byt i =>
    obtain ⟨t, rfl⟩ := rx
    cases y with
    | byt j => obtain ⟨t', rfl⟩ := ry; exact PySem.W.eq_bytes (fin_bl I q dec_byt)
    | _ => exact absurd (show false = true from hs) Bool.false_ne_true
  | _ => cases y <;> exact absurd (show false = true from hs) Bool.false_ne_true
theorem op_ne : OpR X (compareOp .NotEq) rNe := by
  intro pins s σ H x y v u Q I rx ry h
  obtain ⟨hs, q⟩ := h
  cases x with
  | non =>
    cases rx
    cases y with
    | non => cases ry; exact PySem.EqNone.ne_none_none (fin_bl I q (by simp))
    | bl j => cases ry; exact PySem.EqNone.ne_none_bool (fin_bl I q (by simp))
    | int j => obtain ⟨t', rfl⟩ := ry; exact PySem.EqNone.ne_none_int (fin_bl I q (by simp))
    | str j => obtain ⟨t', rfl⟩ := ry; exact PySem.EqNone.ne_none_str (fin_bl I q (by simp))
    | _ => exact absurd (show false = true from hs) Bool.false_ne_true
  | bl i =>
    cases rx
    cases y with
    | non => cases ry; exact PySem.EqNone.ne_bool_none (fin_bl I q (by simp))
    | bl j => cases ry; exact ne_bool (fin_bl I q (congrArg not dec_bl))
    | str j => obtain ⟨t', rfl⟩ := ry; exact PySem.EqMixed.ne_bool_str (fin_bl I q (by simp))
    | _ => exact absurd (show false = true from hs) Bool.false_ne_true
  | int i =>
    obtain ⟨t, rfl⟩ := rx
    cases y with
    | non => cases ry; exact PySem.EqNone.ne_int_none (fin_bl I q (by simp))
    | int j => obtain ⟨t', rfl⟩ := ry; exact ne_int (fin_bl I q (congrArg not dec_int))
    | str j => obtain ⟨t', rfl⟩ := ry; exact PySem.EqMixed.ne_int_str (fin_bl I q (by simp))
    | _ => exact absurd (show false = true from hs) Bool.false_ne_true
  | str i =>
    obtain ⟨t, rfl⟩ := rx
    cases y with
    | non => cases ry; exact PySem.EqNone.ne_str_none (fin_bl I q (by simp))
    | bl j => cases ry; exact PySem.EqMixed.ne_str_bool (fin_bl I q (by simp))
    | int j => obtain ⟨t', rfl⟩ := ry; exact PySem.EqMixed.ne_str_int (fin_bl I q (by simp))
    | str j => obtain ⟨t', rfl⟩ := ry; exact ne_str (fin_bl I q (congrArg not dec_str))
    | _ => exact absurd (show false = true from hs) Bool.false_ne_true
  | byt i =>
    obtain ⟨t, rfl⟩ := rx
    cases y with
    | byt j => obtain ⟨t', rfl⟩ := ry; exact PySem.W.ne_bytes (fin_bl I q (congrArg not dec_byt))
    | _ => exact absurd (show false = true from hs) Bool.false_ne_true
  | _ => cases y <;> exact absurd (show false = true from hs) Bool.false_ne_true
theorem op_lt : OpR X (compareOp .Lt) (rI0 fun i j => .bl (decide (i < j))) := opB0 fun _ _ _ _ _ _ _ q => lt_int q
theorem op_le : OpR X (compareOp .LtE) (rI0 fun i j => .bl (decide (i ≤ j))) := opB0 fun _ _ _ _ _ _ _ q => le_int q
theorem op_gt : OpR X (compareOp .Gt) (rI0 fun i j => .bl (decide (j < i))) := opB0 fun _ _ _ _ _ _ _ q => gt_int q
theorem op_ge : OpR X (compareOp .GtE) (rI0 fun i j => .bl (decide (j ≤ i))) := opB0 fun _ _ _ _ _ _ _ q => ge_int q
/-- is None, is not None: the right side a value none -/
theorem op_isN : OpR X (compareOp .Is) (fun x y H Q => y = .non ∧ Q (.bl (decide (x = .non))) H) := by
  intro pins s σ H x y v u Q I rx ry h
  obtain ⟨rfl, q⟩ := h
  cases ry
  refine is_none_gen (fin_bl I q ?_)
  cases x <;> first
    | (cases rx; rfl)
    | (obtain ⟨t, rfl⟩ := rx; rfl)
theorem op_notN : OpR X (compareOp .IsNot) (fun x y H Q => y = .non ∧ Q (.bl (!decide (x = .non))) H) := by
  intro pins s σ H x y v u Q I rx ry h
  obtain ⟨rfl, q⟩ := h
  cases ry
  refine isnot_none_gen (fin_bl I q ?_)
  cases x <;> first
    | (cases rx; rfl)
    | (obtain ⟨t, rfl⟩ := rx; rfl)
theorem nomark (b : Expr) {op : CmpOp} (h : op ≠ .In := by decide) (h2 : op ≠ .NotIn := by decide) : behindInMarks op b = false := by
  have e1 : (op == CmpOp.In) = false := by cases op <;> first | rfl | exact absurd rfl h
  have e2 : (op == CmpOp.NotIn) = false := by cases op <;> first | rfl | exact absurd rfl h2
  cases b <;> simp [behindInMarks, e1, e2]
/-- a comparison as a value; hm: nomark b, or (for in, not in) by with_unfolding_all rfl -/
theorem pe_cmpR {op : CmpOp} {r : R2} (ho : OpR X (compareOp op) r) (ha : PE X a ta) (hb : PE X b tb) (hm : behindInMarks op b = false) : PE X (.Compare a [op] [b] pos) (tOp r ta tb) := by
  intro pins s σ H Q I h
  exact wpAny_Compare1 (binT ha hb I h fun v u s2 x y H2 I2 rx ry q => ho pins s2 σ H2 x y v u Q I2 rx ry q) hm
/-- a reading of a value as a test -/
def tTest (t : TE) : TT := fun σ H Q => t σ H fun x H' => ∃ k, x = .bl k ∧ Q k H'
theorem pt_cmpR {op : CmpOp} {r : R2} (ho : OpR X (compareOp op) r) (ha : PE X a ta) (hb : PE X b tb) (hm : behindInMarks op b = false) : PT X (.Compare a [op] [b] pos) (tTest (tOp r ta tb)) := by
  intro pins s σ H Q I h
  refine wpAny_isTrue_Compare1 (thn (ha pins s σ H _ I h) fun v s1 ⟨x, H1, I1, r1, q1⟩ => thn (hb pins s1 σ H1 _ I1 q1) fun u s2 ⟨y, H2, I2, r2, q2⟩ =>
    thn (ho pins s2 σ H2 x y v u _ I2 r1 r2 q2) fun c s3 ⟨z, H3, I3, r3, k, e, q3⟩ => ?_) hm
  subst e
  cases r3
  exact wpAny_truthy_bool ⟨H3, I3, q3⟩
/-- a op1 b op2 c -/
def tChain (r r' : R2) (ta tb tc : TE) : TE := fun σ H Q => ta σ H fun x H1 => tb σ H1 fun y H2 => r x y H2 fun z H3 => ∃ k, z = .bl k ∧
  (if k = true then tc σ H3 fun w' H4 => r' y w' H4 Q else Q (.bl false) H3)
theorem pe_chain {op op' : CmpOp} {r r' : R2} (ho : OpR X (compareOp op) r) (ho' : OpR X (compareOp op') r') (ha : PE X a ta) (hb : PE X b tb) (hc : PE X c tc)
    (hm : lastMarks [op, op'] [b, c] = false := by with_unfolding_all rfl) : PE X (.Compare a [op, op'] [b, c] pos) (tChain r r' ta tb tc) := by
  intro pins s σ H Q I h
  refine Compare_chain (thn (ha pins s σ H _ I h) fun v s1 ⟨x, H1, I1, r1, q1⟩ => chain_link (thn (hb pins s1 σ H1 _ I1 q1) fun u s2 ⟨y, H2, I2, r2, q2⟩ =>
    thn (ho pins s2 σ H2 x y v u _ I2 r1 r2 q2) fun d s3 ⟨z, H3, I3, r3, k, e, q3⟩ => ?_)) hm
  subst e
  cases r3
  refine wpAny_truthy_bool ?_
  cases k with
  | false => exact ite_ff ⟨.bl false, H3, I3, rfl, q3⟩
  | true => exact ite_tt (chain_last (thn (hc pins s3 σ H3 _ I3 q3) fun w' s4 ⟨z', H4, I4, r4, q4⟩ => ho' pins s4 σ H4 y z' u w' Q I4 r2 r4 q4))
/-- a value's truth by the abstract heap -/
def TruV (K : PySem.W.Frag) (x : V) (H : Hp) (k : Bool) : Prop :=
  match x with
  | .non => k = false
  | .bl b => k = b
  | .int i => k = (i != 0)
  | .str y => y.length ≤ sizeLine ∧ k = ((y.length : Int) != 0)
  | .byt y => y.size ≤ sizeLine ∧ k = ((y.size : Int) != 0)
  | .ref p => (∃ xs, SqL K H p xs ∧ k = !xs.isEmpty) ∨ (∃ xs, SqT K H p xs ∧ k = !xs.isEmpty) ∨ ∃ kvs, H p = some (.dK kvs) ∧ k = !kvs.isEmpty
  | _ => False
theorem isEmpty_kv {κ : Type} {kvs : List (κ × V)} {vs : List (κ × Value)} (r : KV kvs vs) : (!vs.isEmpty) = !kvs.isEmpty := by
  cases r <;> rfl
theorem isEmpty_of {xs : List V} {its : List Value} (r : Vals xs its) : (!its.toArray.isEmpty) = !xs.isEmpty := by
  cases r <;> simp
theorem line63 : (sizeLine : Nat) < 2 ^ 63 := by rw [sizeLine_eq]; decide
theorem tru_ok : TruR X (fun x H Q => ∃ k, TruV X.K x H k ∧ Q k H) := by
  intro pins s σ H x v Q I rx h
  obtain ⟨k, e, q⟩ := h
  have hl := line63
  have hs : sizeLine = 16777216 := sizeLine_eq
  cases x with
  | non =>
    cases rx
    have e' : k = false := e
    subst e'
    exact truthy_none ⟨H, I, q⟩
  | bl b =>
    cases rx
    have e' : k = b := e
    subst e'
    exact wpAny_truthy_bool ⟨H, I, q⟩
  | int i =>
    obtain ⟨t, rfl⟩ := rx
    have e' : k = (i != 0) := e
    subst e'
    exact PySem.P.truthy_int ⟨H, I, q⟩
  | str y =>
    obtain ⟨t, rfl⟩ := rx
    obtain ⟨hy, e'⟩ : y.length ≤ sizeLine ∧ k = ((y.length : Int) != 0) := e
    subst e'
    exact PySem.P.truthy_str (by omega) ⟨H, I.tok _, q⟩
  | byt y =>
    obtain ⟨t, rfl⟩ := rx
    obtain ⟨hy, e'⟩ : y.size ≤ sizeLine ∧ k = ((y.size : Int) != 0) := e
    subst e'
    exact PySem.W.truthy_bytes (by omega) ⟨H, I.tok _, q⟩
  | ref p =>
    cases rx
    have e' : (∃ xs, SqL X.K H p xs ∧ k = !xs.isEmpty) ∨ (∃ xs, SqT X.K H p xs ∧ k = !xs.isEmpty) ∨ ∃ kvs, H p = some (.dK kvs) ∧ k = !kvs.isEmpty := e
    rcases e' with ⟨xs, hx, e'⟩ | ⟨xs, hx, e'⟩ | ⟨kvs, hx, e'⟩
    · subst e'
      obtain ⟨its, r, pl, hz⟩ := I.list hx
      have hlen := r.length
      exact wpAny_truthy_list pl.isList (by simp only [List.size_toArray]; omega) ⟨H, I.tok _, by rw [isEmpty_of r]; exact q⟩
    · subst e'
      obtain ⟨its, r, pl, hz⟩ := I.tuple hx
      have hlen := r.length
      exact truthy_tuple pl (by simp only [List.size_toArray]; omega) ⟨H, I.tok _, by rw [isEmpty_of r]; exact q⟩
    · subst e'
      obtain ⟨hz, hS, vs, r, m⟩ : kvs.length ≤ sizeLine ∧ (p == sysModules) = false ∧ ∃ vs, KV kvs vs ∧ s.heap.DictOf (mixKind X.prog X.w) p vs := I.hok p _ hx
      have hlen : kvs.length = vs.length := Paired.length r
      exact wpAny_truthy_dict hS m (by omega) ⟨H, I.tok _, by rw [isEmpty_kv r]; exact q⟩
  | _ => exact (show False from e).elim
/-- any expression whose test is its value's truth (a name, a call, a subscript, a field ..: he by fun _ => rfl) -/
theorem pt_truth (ha : PE X a ta) (he : ∀ whole, isTrue a X.env whole = (do let v ← whole; standAt a.pos; holding [v] (truthy v))) :
    PT X a (fun σ H Q => ta σ H fun x H' => ∃ k, TruV X.K x H' k ∧ Q k H') := by
  intro pins s σ H Q I h
  exact isTrue_plain (thn (ha pins s σ H _ I h) fun v s1 ⟨x, H1, I1, r1, q1⟩ => tru_ok pins s1 σ H1 x v Q I1 r1 q1) (he _)
theorem vals1 {x : V} {us : List Value} (r : Vals [x] us) : ∃ u, us = [u] ∧ RelV x u := by
  cases r with
  | cons r1 r2 => cases r2; exact ⟨_, rfl, r1⟩
theorem vals2 {x y : V} {us : List Value} (r : Vals [x, y] us) : ∃ u w', us = [u, w'] ∧ RelV x u ∧ RelV y w' := by
  cases r with
  | cons r1 r2 =>
    cases r2 with
    | cons r3 r4 => cases r4; exact ⟨_, _, rfl, r1, r3⟩
theorem call_min2 (hc : X.calm = true) : CallR X (.builtin "min") (fun xs H Q => ∃ i j, xs = [.int i, .int j] ∧ Q (.int (if j < i then j else i)) H) := by
  intro pins s σ H xs us Q I r h
  obtain ⟨i, j, rfl, q⟩ := h
  obtain ⟨u, w', rfl, ⟨t, rfl⟩, ⟨t', rfl⟩⟩ := vals2 r
  refine min_two_ints (I.ok.hd hc) fun h' tk k => ⟨_, H, I.kept k, ?_, q⟩
  by_cases hj : j < i
  · rw [if_pos hj, if_pos hj]; exact ⟨_, rfl⟩
  · rw [if_neg hj, if_neg hj]; exact ⟨_, rfl⟩
end
end L2
namespace L2
open PySem PySem.Spec PyProof.Rows
structure ObjM (h : Heap) (x dx C : Addr) (mA : Str → Option Value) : Prop where
  obj : h.get? x = some (PySem.W.instObj C dx)
  ns : h.Ns1 dx mA
  ne : dx ≠ x
theorem lookIn_ns {h : Heap} {dx : Addr} {mA : Str → Option Value} (n : h.Ns1 dx mA) : ∃ od, h.get? dx = some od ∧ ∀ name, PySem.W.lookIn name od = some (mA name) := by
  obtain ⟨o, es, ep, ho, hd, hk, _, hm⟩ := n
  refine ⟨o, ho, fun name => ?_⟩
  have e := hm name
  unfold nsFind findBy at e
  rw [← Array.find?_toList] at e
  unfold PySem.W.lookIn
  rw [hd]
  dsimp only
  split
  · rename_i y q
    rw [q] at e
    exact congrArg some e
  · rename_i q
    rw [q] at e
    have a : es.toList.any (·.refKey) = false := by
      rw [List.any_eq_false]
      intro y hy
      obtain ⟨z, t, hkey⟩ := hk y (Array.mem_toList_iff.mp hy)
      simp [DictEntry.refKey, hkey]
    have a' : ¬ es.toList.any (·.refKey) = true := by rw [a]; exact Bool.false_ne_true
    rw [if_neg a']
    exact congrArg some e
theorem ObjM.look {h : Heap} {x dx C : Addr} {mA : Str → Option Value} (I : ObjM h x dx C mA) : ∃ od, PySem.W.InstAt h x (PySem.W.instObj C dx) C (some od) ∧ ∀ name, PySem.W.lookIn name od = some (mA name) :=
  let ⟨od, ho, hl⟩ := lookIn_ns I.ns
  ⟨od, ⟨I.obj, rfl, rfl, ho⟩, hl⟩
section
variable {prog : Program} {w : World} {A : Around} {E : Value → Shared → Prop} {s : Shared} {K : PySem.W.Frag} {x dx C f : Addr} {mA : Str → Option Value} {name : Str} {v : Value}
theorem get_map {expr : Bool} {Q : Value → Shared → Prop} (X : K.In s.heap) (I : ObjM s.heap x dx C mA) (hg : PySem.W.plainGet K C name = true) (hh : PySem.W.hasDictIn K C = true)
    (ha : PySem.W.findIn K (.ref C) name = some none) (hv : mA name = some v) (hv' : PySem.W.handedIn v = true) (h : Q v { s with toks := s.toks + 1 }) :
    wpAny (model prog w) A (getAttr (.ref x) name expr) Q E s := by
  obtain ⟨od, J, hl⟩ := I.look
  exact PySem.W.get_value X J (PySem.W.plainGet_of hg).1 (PySem.W.findObj_own hh ha rfl (by rw [hl, hv])) hv' h
theorem get_meth {pl : Sem Bool} {Q : Value × List Value → Shared → Prop} (X : K.In s.heap) (I : ObjM s.heap x dx C mA) (hg : PySem.W.plainGet K C name = true)
    (hf : PySem.W.findIn K (.ref C) name = some (some (.ref f))) (ht : PySem.W.isFn K (.ref f) = true) (hv : mA name = none) (h : Q (.ref f, [.ref x]) s) :
    wpAny (model prog w) A (getMethod (.ref x) name pl) Q E s := by
  obtain ⟨od, J, hl⟩ := I.look
  exact PySem.W.method_fn X J (PySem.W.plainGet_of hg).1 (PySem.W.plainGet_of hg).2 hf (beq_iff_eq.mp ht) (by show (PySem.W.lookIn name od).map (·.isSome) = some false; rw [hl, hv]; rfl) h
theorem set_map {ns : List Str} {Q : Unit → Shared → Prop} (X : K.In s.heap) (I : ObjM s.heap x dx C mA)
    (hs : PySem.W.findIn K (.ref C) "__setattr__" = some (some (.builtin "object.__setattr__"))) (hp : PySem.W.plainOver K C = true) (ht : PySem.W.takerIn K C name = some none) (hh : PySem.W.hasDictIn K C = true)
    (hw : PySem.Within mA ns) (hsz : ns.length ≤ sizeLine)
    (h : ∀ h', ObjM h' x dx C (fun y => if y = name then some v else mA y) → Heap.SameBut dx s.heap h' → Q () { s with heap := h', toks := s.toks + 2 }) :
    wpAny (model prog w) A (setAttr (.ref x) name v) Q E s := by
  obtain ⟨od, J, hl⟩ := I.look
  refine PySem.W.set_plain X J hs (PySem.W.osa_open (s := { s with toks := s.toks + 1 }) (r := none) X J hp ht fun b => ?_)
  obtain ⟨cd, hc, hd'⟩ := PySem.W.any_some hh
  have hx : s.heap.get? x = some ⟨.ref C, some dx, .plain, #[]⟩ := I.obj
  refine wpAny_bind (wpAny_pure (wpAny_bind (wpAny_bind (wpAny_loadPart hx (wpAny_bind (PySem.W.Looks.here (s := { s with toks := s.toks + 1 }) (PySem.W.looks_clsIn X hc) ?_))))))
  rw [hd']
  refine wpAny_pure (a := some dx) (wpAny_bind (wpAny_pure (wpAny_bind ?_)))
  refine wpAny_nsSet1 (s := { s with toks := s.toks + 1 }) I.ns fun h' hn2 hs2 => ?_
  obtain ⟨oD, esD, epD, hoD, hdD, hcD⟩ := hn2.count (PySem.Within.cons name v hw)
  refine wpAny_bind (wpAny_lookBehind hoD (by rw [hdD]; exact pastItsLine_dict (Nat.le_trans hcD (by rw [List.length_cons]; omega))) ?_)
  exact wpAny_pure (h _ ⟨(hs2.2 _ (Ne.symm I.ne)).trans I.obj, hn2, I.ne⟩ hs2)
/-- C(..): the dict at the heap's end, the instance behind it; then its __init__ -/
theorem make_map {R : Result → Shared → Prop} {vs : List Value} {kw : List (Str × Value)} (X : K.In s.heap) (hm : PySem.W.makesIn K C = true)
    (hi : PySem.W.findIn K (.ref C) "__init__" = some (some (.ref f))) (hf : PySem.W.typeIn K (.ref f) = some (.type "function"))
    (h : codeAny (model prog w) (A.under (.builtin "type.__call__" ⟨.ref C :: vs, kw⟩)) (.call (.ref f) ⟨.ref (s.heap.objs.size + 1) :: vs, kw⟩) (PySem.W.InitBack (s.heap.objs.size + 1) R)
      { s with heap := (s.heap.push PySem.W.emptyDict).push (PySem.W.instObj C s.heap.objs.size) }) :
    codeAny (model prog w) A (.call (.ref C) ⟨vs, kw⟩) R s := by
  obtain ⟨hh, g, d, t, os⟩ := s
  exact PySem.W.make_core (PySem.W.makes_of X hm) (PySem.W.looks_findIn X hi) (fun self => PySem.W.bind_fn X self hf) (.inl rfl) h
end
def putF (f : Str) (v : V) : List (Str × V) → List (Str × V)
  | [] => [(f, v)]
  | (g, x) :: r => if g = f then (g, v) :: r else (g, x) :: putF f v r
theorem lookup_putF (f g : Str) (v : V) : ∀ fs : List (Str × V), (putF f v fs).lookup g = if g = f then some v else fs.lookup g
  | [] => by
    show List.lookup g [(f, v)] = _
    by_cases h : g = f
    · have hb : (g == f) = true := beq_iff_eq.mpr h
      simp only [List.lookup, hb, if_pos h]
    · have hb : (g == f) = false := beq_eq_false_iff_ne.mpr h
      simp only [List.lookup, hb, if_neg h]
  | (k, x) :: r => by
    have ih := lookup_putF f g v r
    rw [show putF f v ((k, x) :: r) = (if k = f then (k, v) :: r else (k, x) :: putF f v r) from rfl]
    by_cases hk : k = f
    · rw [if_pos hk]
      by_cases h : g = k
      · have hb : (g == k) = true := beq_iff_eq.mpr h
        simp only [List.lookup, hb, if_pos (h.trans hk)]
      · have hb : (g == k) = false := beq_eq_false_iff_ne.mpr h
        simp only [List.lookup, hb, if_neg (fun e : g = f => h (e.trans hk.symm))]
    · rw [if_neg hk]
      by_cases h : g = k
      · have hb : (g == k) = true := beq_iff_eq.mpr h
        simp only [List.lookup, hb, if_neg (fun e : g = f => hk (h.symm.trans e))]
      · have hb : (g == k) = false := beq_eq_false_iff_ne.mpr h
        simp only [List.lookup, hb]
        exact ih
theorem keys_putF (f : Str) (v : V) : ∀ fs : List (Str × V), f ∈ (putF f v fs).map (·.1) ∧ ∀ g, g ∈ fs.map (·.1) → g ∈ (putF f v fs).map (·.1)
  | [] => ⟨by simp [putF], fun g h => by simp at h⟩
  | (k, x) :: r => by
    obtain ⟨i1, i2⟩ := keys_putF f v r
    rw [show putF f v ((k, x) :: r) = (if k = f then (k, v) :: r else (k, x) :: putF f v r) from rfl]
    by_cases hk : k = f
    · rw [if_pos hk]
      subst hk
      exact ⟨by simp, fun g h => by simpa using h⟩
    · rw [if_neg hk]
      refine ⟨?_, fun g h => ?_⟩
      · rw [List.map_cons]
        exact List.mem_cons_of_mem _ i1
      · rw [List.map_cons] at h ⊢
        rcases List.mem_cons.mp h with e | e
        · exact List.mem_cons.mpr (.inl e)
        · exact List.mem_cons_of_mem _ (i2 g e)
theorem length_putF (f : Str) (v : V) : ∀ fs : List (Str × V), (putF f v fs).length ≤ fs.length + 1
  | [] => by simp [putF]
  | (k, x) :: r => by
    have ih := length_putF f v r
    rw [show putF f v ((k, x) :: r) = (if k = f then (k, v) :: r else (k, x) :: putF f v r) from rfl]
    by_cases hk : k = f
    · rw [if_pos hk, List.length_cons, List.length_cons]; omega
    · rw [if_neg hk, List.length_cons, List.length_cons]; omega
theorem RelO.some_of {v : V} {o : Option Value} (r : RelO (some v) o) : ∃ u, o = some u ∧ RelV v u := by
  cases o with
  | none => exact (show False from r).elim
  | some u => exact ⟨u, rfl, r⟩
theorem RelO.none_of {o : Option Value} (r : RelO none o) : o = none := by
  cases o with
  | none => rfl
  | some u => exact (show False from r).elim
theorem handed_of {v : V} {u : Value} (r : RelV v u) : PySem.W.handedIn u = true := by
  cases v with
  | non => cases (show u = Value.none from r); rfl
  | bl b => cases (show u = Value.bool b from r); rfl
  | int i => obtain ⟨t, e⟩ := (show ∃ t, u = Value.int i t from r); cases e; rfl
  | str x => obtain ⟨t, e⟩ := (show ∃ t, u = Value.str x t from r); cases e; rfl
  | byt b => obtain ⟨t, e⟩ := (show ∃ t, u = Value.bytes b t from r); cases e; rfl
  | flt b => obtain ⟨t, e⟩ := (show ∃ t, u = Value.float b t from r); cases e; rfl
  | ref a => cases (show u = Value.ref a from r); rfl
  | ty n => cases (show u = Value.type n from r); rfl
section
variable {P : Program} {w : World} {H H' : Hp} {h h' : Heap} {a C dx : Addr} {fs fs' : List (Str × V)}
theorem ins_get (hok : HOk P w H h) (e : H a = some (.ins C dx fs)) : ∃ mA, ObjM h a dx C mA ∧ (∀ f, RelO (fs.lookup f) (mA f)) ∧ PySem.Within mA (fs.map (·.1)) ∧ fs.length ≤ 1000 ∧ H dx = some (.own a) := by
  obtain ⟨d, z, ne, ob, mA, n, r, q⟩ := (show ObjOk P w H h a (.ins C dx fs) from hok a _ e)
  exact ⟨mA, ⟨ob, n, ne⟩, r, q, z, d⟩
end
structure Cls (K : PySem.W.Frag) (C : Addr) : Prop where
  pg : PySem.W.plainGet K C Str.empty = true
  hd : PySem.W.hasDictIn K C = true
  po : PySem.W.plainOver K C = true
  sa : PySem.W.findIn K (.ref C) "__setattr__" = some (some (.builtin "object.__setattr__"))
theorem Cls.get {K : PySem.W.Frag} {C : Addr} (c : Cls K C) (f : Str) : PySem.W.plainGet K C f = true := c.pg
/-- no class of it has the name -/
def NoAttr (K : PySem.W.Frag) (C : Addr) (f : Str) : Prop := PySem.W.findIn K (.ref C) f = some none
theorem NoAttr.taker {K : PySem.W.Frag} {C : Addr} {f : Str} (n : NoAttr K C f) : PySem.W.takerIn K C f = some none := by
  unfold PySem.W.takerIn
  rw [show PySem.W.findIn K (.ref C) f = some none from n]
  rfl
/-- a method: a plain def of the class or of one above it -/
structure Meth (K : PySem.W.Frag) (C : Addr) (m : Str) (f : Addr) : Prop where
  at_ : PySem.W.findIn K (.ref C) m = some (some (.ref f))
  fn : PySem.W.isFn K (.ref f) = true
  kp : PySem.W.keepIn K (.ref f) = true
section
variable {X : Cx} {pins : List (Addr × Obj)} {σ : St} {H : Hp} {s : Shared} {a C dx : Addr} {fs : List (Str × V)} {f : Str} {v : V} {A : Around} {E : Value → Shared → Prop}
theorem getattr_ok {b : Bool} {Q : Value → Shared → Prop} (I : Inv X pins σ H s) (e : H a = some (.ins C dx fs)) (c : Cls X.K C) (n : NoAttr X.K C f) (l : fs.lookup f = some v)
    (h : ∀ u s', Inv X pins σ H s' → RelV v u → Q u s') : wpAny (model X.prog X.w) A (getAttr (.ref a) f b) Q E s := by
  obtain ⟨mA, O, r, _, _, _⟩ := ins_get I.hok e
  obtain ⟨u, hu, ru⟩ := RelO.some_of (v := v) (o := mA f) (by rw [← l]; exact r f)
  exact get_map I.kIn O (c.get f) c.hd n hu (handed_of ru) (h u _ (I.tok _) ru)
theorem getmeth_ok {m : Str} {g : Addr} {pl : Sem Bool} {Q : Value × List Value → Shared → Prop} (I : Inv X pins σ H s) (e : H a = some (.ins C dx fs)) (c : Cls X.K C) (k : Meth X.K C m g) (l : fs.lookup m = none)
    (h : Q (.ref g, [.ref a]) s) : wpAny (model X.prog X.w) A (getMethod (.ref a) m pl) Q E s := by
  obtain ⟨mA, O, r, _, _, _⟩ := ins_get I.hok e
  have hn : mA m = none := RelO.none_of (by rw [← l]; exact r m)
  exact get_meth I.kIn O (c.get m) k.at_ k.fn hn h
theorem setattr_ok {y : V} {u : Value} {Q : Unit → Shared → Prop} (I : Inv X pins σ H s) (e : H a = some (.ins C dx fs)) (c : Cls X.K C) (n : NoAttr X.K C f) (hl : fs.length < 1000) (ry : RelV y u)
    (h : ∀ s', Inv X pins σ (upd H a (.ins C dx (putF f y fs))) s' → Q () s') : wpAny (model X.prog X.w) A (setAttr (.ref a) f u) Q E s := by
  obtain ⟨mA, O, r, wi, _, ho⟩ := ins_get I.hok e
  have hz : (fs.map (·.1)).length ≤ sizeLine := by rw [List.length_map, sizeLine_eq]; omega
  refine set_map I.kIn O c.sa c.po n.taker c.hd wi hz fun h' O' sb => h _ ?_
  have hd : ∃ o, h'.get? dx = some o := let ⟨o, _, _, e', _⟩ := O'.ns; ⟨o, e'⟩
  refine I.write (x := a) (e := dx) (by rw [e]; exact True.intro) (.inr ho) (fun b q hb z => (sb.2 b hb).trans z) hd ?_
  refine ⟨by rw [upd_ne O.ne]; exact ho, ?_, O.ne, O'.obj, _, O'.ns, fun g => ?_, fun g hg => ?_⟩
  · have := length_putF f y fs; omega
  · show RelO ((putF f y fs).lookup g) (if g = f then some u else mA g)
    rw [lookup_putF]
    by_cases q : g = f
    · rw [if_pos q, if_pos q]; exact ry
    · rw [if_neg q, if_neg q]; exact r g
  · by_cases q : g = f
    · rw [q]; exact (keys_putF f y fs).1
    · refine (keys_putF f y fs).2 g (wi g fun z => hg ?_)
      show (if g = f then some u else mA g) = none
      rw [if_neg q]; exact z
/-- a new instance, tracked, without attributes -/
theorem Inv.made (I : Inv X pins σ H s) : Inv X pins σ (upd (upd H s.heap.objs.size (.own (s.heap.objs.size + 1))) (s.heap.objs.size + 1) (.ins C s.heap.objs.size []))
    { s with heap := (s.heap.push PySem.W.emptyDict).push (PySem.W.instObj C s.heap.objs.size) } := by
  have e1 : (s.heap.push PySem.W.emptyDict).get? s.heap.objs.size = some PySem.W.emptyDict := Heap.get?_push_size s.heap rfl
  have e2 : ((s.heap.push PySem.W.emptyDict).push (PySem.W.instObj C s.heap.objs.size)).get? (s.heap.objs.size + 1) = some (PySem.W.instObj C s.heap.objs.size) := by
    have := Heap.get?_push_size (s.heap.push PySem.W.emptyDict) (o := PySem.W.instObj C s.heap.objs.size) rfl
    rwa [Heap.size_push] at this
  have e3 : (s.heap.push PySem.W.emptyDict).Ns s.heap.objs.size (fun _ => none) := ⟨PySem.W.emptyDict, #[], _, e1, rfl, (fun e he => absurd he (by simp)), fun _ => rfl⟩
  have I1 := I.laid (a := s.heap.objs.size) (o := .own (s.heap.objs.size + 1)) (h' := s.heap.push PySem.W.emptyDict) (t' := s.toks) (fun b u q => Heap.get?_push_of_some _ q) (Nat.le_refl _) ⟨_, e1⟩
  refine I1.laid (a := s.heap.objs.size + 1) (o := .ins C s.heap.objs.size []) (t' := s.toks) (fun b u q => Heap.get?_push_of_some _ q) (Nat.le_of_eq (Heap.size_push _ _)) ?_
  have ne : s.heap.objs.size ≠ s.heap.objs.size + 1 := Nat.ne_of_lt (Nat.lt_succ_self _)
  refine ⟨by rw [upd_ne ne, upd_same], Nat.zero_le _, ne, e2, fun _ => none, (Heap.Ns1.of_empty e3).at fun o q => Heap.get?_push_of_some _ q, fun _ => True.intro, fun y hy => absurd rfl hy⟩
/-- e.f where nothing but the object is asked: through attributeBase (super) and the last hold -/
theorem attr_of {prog : Program} {w : World} {env : Env} {e : Expr} {f : Str} {pos : Pos} {s : Shared} {Q : Value → Shared → Prop} (hb : attributeBase e f env (eval e env) = eval e env)
    (h : wpAny (model prog w) A (eval e env) (fun o s₁ => wpAny (model prog w) A (getAttr o f true) Q E s₁) E s) : wpAny (model prog w) A (eval (.Attribute e f pos) env) Q E s :=
  Attribute_any_ h (by rw [arm_eval_Attribute, hb])
end
/-- e.f, an attribute of the instance -/
def tFld (K : PySem.W.Frag) (ta : TE) (f : Str) : TE := fun σ H Q => ta σ H fun x H1 => ∃ a C dx fs v, x = .ref a ∧ H1 a = some (.ins C dx fs) ∧ Cls K C ∧ NoAttr K C f ∧ fs.lookup f = some v ∧ Q v H1
/-- e.f = value -/
def sFld (K : PySem.W.Frag) (ta tv : TE) (f : Str) : TS := fun D σ H => tv σ H fun y H1 => ta σ H1 fun x H2 => ∃ a C dx fs, x = .ref a ∧ H2 a = some (.ins C dx fs) ∧ Cls K C ∧ NoAttr K C f ∧ fs.length < 1000 ∧
  D.nx σ (upd H2 a (.ins C dx (putF f y fs)))
section
variable {X : Cx} {o e value : Expr} {f : Str} {pos pos' tpos : Pos} {ta tv : TE}
theorem pe_fld (he : PE X e ta) (hb : attributeBase e f X.env (eval e X.env) = eval e X.env) : PE X (.Attribute e f pos) (tFld X.K ta f) := by
  intro pins s σ H Q I h
  refine attr_of hb (thn (he pins s σ H _ I h) fun u s1 ⟨x, H1, I1, rx, a, C, dx, fs, v, ex, ea, c, n, l, q⟩ => ?_)
  subst ex
  obtain rfl : u = Value.ref a := rx
  exact getattr_ok I1 ea c n l fun u' s2 I2 ru => ⟨v, H1, I2, ru, q⟩
theorem ps_fld (ha : PE X o ta) (hv : PE X value tv) (hs : swapsWith value (some (.Attribute o f pos')) pos.line X.env = pure false) : PS X (.Assign [.Attribute o f pos'] value pos) (sFld X.K ta tv f) := by
  intro pins s σ H D I h
  refine plainObj_wpAny_Assign_Attribute (thn (hv pins s σ H _ I h) fun u s1 ⟨y, H1, I1, ry, q⟩ => thn (ha pins s1 σ H1 _ I1 q) fun ov s2 ⟨x, H2, I2, rx, a, C, dx, fs, ex, ea, c, n, l, q2⟩ => ?_) hs
  subst ex
  obtain rfl : ov = Value.ref a := rx
  exact setattr_ok I2 ea c n l ry fun s3 I3 => ⟨σ, _, I3, q2⟩
end
end L2
namespace L2
open PySem PySem.Spec PyProof.Rows
structure Room (k : Nat) (A : Around) : Prop where
  hd : A.handled = none
  dp : A.depth + 3 * k + 5 < recursionLimit
  un : A.units + 16 * k + 200 < cLine
theorem Room.mono {j k : Nat} {A : Around} (r : Room k A) (h : j ≤ k) : Room j A := ⟨r.hd, by have := r.dp; omega, by have := r.un; omega⟩
theorem Room.deeper {k : Nat} {A : Around} (r : Room (k + 1) A) (env : Env) : Room k (A.deeper env) :=
  ⟨r.hd, by have := r.dp; show A.depth + 1 + 3 * k + 5 < _; omega, by have := r.un; show A.units + 3 + 16 * k + 200 < _; omega⟩
theorem make_depth {A : Around} {C : Addr} {us : List Value} {kw : List (Str × Value)} : (A.under (.builtin "type.__call__" ⟨.ref C :: us, kw⟩)).depth = A.depth + 1 := by
  first | rfl | simp [Around.under, Code.weight, Code.isCreation, Code.isGuard, Code.isCaller, Code.frames, Code.isFrame, guardIds]
theorem make_units {A : Around} {C : Addr} {us : List Value} {kw : List (Str × Value)} : (A.under (.builtin "type.__call__" ⟨.ref C :: us, kw⟩)).units = A.units + 1 := by
  first | rfl | simp [Around.under, Code.cUnits, Code.frames, Code.isFrame]
theorem Room.make {k : Nat} {A : Around} (r : Room (k + 1) A) (C : Addr) (us : List Value) (kw : List (Str × Value)) : Room k (A.under (.builtin "type.__call__" ⟨.ref C :: us, kw⟩)) :=
  ⟨r.hd, by have := r.dp; rw [make_depth]; omega, by have := r.un; rw [make_units]; omega⟩
theorem Room.depth {k : Nat} {A : Around} (r : Room k A) : A.depth < recursionLimit := by have := r.dp; omega
theorem Room.units {k : Nat} {A : Around} (r : Room k A) : A.units + 64 < cLine := by have := r.un; omega
def tNil : TA := fun _ H Q => Q [] H
def tCons (ta : TE) (tr : TA) : TA := fun σ H Q => ta σ H fun x H1 => tr σ H1 fun xs H2 => Q (x :: xs) H2
section
variable {X : Cx} {e : Expr} {es : List Expr} {te : TE} {t : TA} {pos : Pos}
theorem pa_nil : PA X [] tNil := fun _ _ _ _ H Q I h => Calls.spliced_nil ⟨[], H, I, .nil, h⟩
theorem pa_cons (ha : PE X e te) (hr : PA X es t) (hs : starEach (e :: es) X.env = (false, eval e X.env) :: starEach es X.env := by rfl) : PA X (e :: es) (tCons te t) := by
  intro pos pins s σ H Q I h
  rw [hs]
  show wpAny _ _ (spliced ((false, eval e X.env) :: backTo pos (starEach es X.env))) _ _ s
  refine Calls.spliced_cons (thn (ha pins s σ H _ I h) fun u s1 ⟨x, H1, I1, r1, q1⟩ => ?_)
  exact thn (hr pos pins s1 σ H1 _ I1 q1) fun us s2 ⟨xs, H2, I2, r2, q2⟩ => ⟨x :: xs, H2, I2, .cons r1 r2, q2⟩
/-- a tuple, a list of written items -/
def tTup (t : TA) : TE := fun σ H Q => t σ H fun xs H1 => xs.length ≤ sizeLine ∧ ∀ p, H1 p = none → Q (.ref p) (upd H1 p (.tup xs))
def tLst (t : TA) : TE := fun σ H Q => t σ H fun xs H1 => xs.length ≤ sizeLine ∧ ∀ p, H1 p = none → Q (.ref p) (upd H1 p (.lst xs))
theorem pe_tup {x1} (h : PA X es t) : PE X (.Tuple es x1 pos) (tTup t) := by
  intro pins s σ H Q I hq
  refine wpAny_Tuple_spliced (thn (h pos pins s σ H _ I hq) fun us s1 ⟨xs, H1, I1, r, z, q⟩ => ⟨by rw [← r.length]; exact z, ?_⟩)
  have hf : H1 s1.heap.objs.size = none := I1.hok.fresh (Nat.le_refl _)
  refine ⟨.ref s1.heap.objs.size, upd H1 s1.heap.objs.size (.tup xs), I1.laid (t' := s1.toks) (fun b u e => Heap.get?_push_of_some _ e) (Nat.le_refl _) ?_, rfl, q _ hf⟩
  exact ⟨z, us, r, ⟨_, Heap.get?_push_size _ rfl, rfl, _, rfl⟩⟩
theorem pe_lst (h : PA X es t) : PE X (.List es pos) (tLst t) := by
  intro pins s σ H Q I hq
  refine wpAny_List_spliced (thn (h pos pins s σ H _ I hq) fun us s1 ⟨xs, H1, I1, r, z, q⟩ => ⟨by rw [← r.length]; exact z, ?_⟩)
  have hf : H1 s1.heap.objs.size = none := I1.hok.fresh (Nat.le_refl _)
  refine ⟨.ref s1.heap.objs.size, upd H1 s1.heap.objs.size (.lst xs), I1.laid (t' := s1.toks) (fun b u e => Heap.get?_push_of_some _ e) (Nat.le_refl _) ?_, rfl, q _ hf⟩
  exact ⟨z, us, 0, r, Heap.get?_push_size _ rfl⟩
end
/-- a def's promise: the bound arguments in the parameters' order, the heap, the wanted end, the wanted exception -/
abbrev Sp := List V → Hp → VK → XK → Prop
/-- how an exception lies behind a call (file 08 gives it): the callers' frames, abstract heap and state ahead of the call, the wish, the exception, the state -/
abbrev CXT := List Env → Hp → Shared → XK → Value → Shared → Prop
/-- the state at a call -/
structure Env0 (P : Program) (w : World) (K : PySem.W.Frag) (mg : Str → Option Value) (base : Heap) (A : Around) (outer : List Env) (s : Shared) (H : Hp) : Prop where
  frames : A.frames = some outer
  mod : Mod K mg base
  bs : ∀ b o, base.get? b = some o → s.heap.get? b = some o ∧ H b = none
  bsz : base.objs.size ≤ s.heap.objs.size
  funs : s.heap.FunFrames base outer
  frf : ∀ b ∈ frs outer, H b = none
  hok : HOk P w H s.heap
  bare : AllBare s.gens
/-- a call's end -/
def CE (outer : List Env) (P : Program) (w : World) (H : Hp) (s : Shared) (Q : VK) (u : Value) (s' : Shared) : Prop :=
  ∃ v H', s'.os = s.os ∧ AllBare s'.gens ∧ Un (frs outer) [] H H' s.heap s'.heap ∧ HOk P w H' s'.heap ∧ RelV v u ∧ Q v H'
def CR (CX : CXT) (outer : List Env) (P : Program) (w : World) (H : Hp) (s : Shared) (Q : VK) (E : XK) (r : Result) (s' : Shared) : Prop :=
  match r with
  | .ok (.ret u) => CE outer P w H s Q u s'
  | .ok _ => False
  | .error e => CX outer H s E e s'
structure FnOk (P : Program) (w : World) (K : PySem.W.Frag) (mg : Str → Option Value) (base : Heap) (CX : CXT) (k : Nat) (f : Addr) (fd : FuncData) (ps : List Str) (sp : Sp) : Prop where
  len : ∀ vs H Q E, sp vs H Q E → vs.length = ps.length
  run : ∀ (A : Around) (outer : List Env) (s : Shared) (H : Hp) (args : Args) (us : List Value) (vs : List V) (Q : VK) (E : XK), Room k A → Env0 P w K mg base A outer s H → BindsTo s fd args (ps.zip us) → Vals vs us → sp vs H Q E →
    codeAny (model P w) A (.call (.ref f) args) (CR CX outer P w H s Q E) s
theorem FnOk.mono {P : Program} {w : World} {K : PySem.W.Frag} {mg : Str → Option Value} {base : Heap} {CX : CXT} {j k : Nat} {f : Addr} {fd : FuncData} {ps : List Str} {sp : Sp} (F : FnOk P w K mg base CX j f fd ps sp) (h : j ≤ k) :
    FnOk P w K mg base CX k f fd ps sp := ⟨F.len, fun A outer s H args us vs Q E hr => F.run A outer s H args us vs Q E (hr.mono h)⟩
theorem Env0.make {P : Program} {w : World} {K : PySem.W.Frag} {mg : Str → Option Value} {base : Heap} {A : Around} {outer : List Env} {s : Shared} {H : Hp} (e : Env0 P w K mg base A outer s H) (C : Addr) (us : List Value) (kw : List (Str × Value)) :
    Env0 P w K mg base (A.under (.builtin "type.__call__" ⟨.ref C :: us, kw⟩)) outer s H := ⟨by first | exact e.frames | (simpa [Around.under, Code.envs, Code.isFrame, pushEnvs] using e.frames), e.mod, e.bs, e.bsz, e.funs, e.frf, e.hok, e.bare⟩
section
variable {X : Cx} {pins : List (Addr × Obj)} {σ : St} {H : Hp} {s s' : Shared}
/-- from a body: what a callee wants -/
theorem Inv.env0 (I : Inv X pins σ H s) : Env0 X.prog X.w X.K X.mg X.base X.A X.stack s H :=
  ⟨I.ok.frames, I.ok.mod, I.bs, Nat.le_trans I.ok.bsz I.sz, I.stack, I.stkFree, I.hok, I.bare⟩
/-- behind a call -/
theorem Inv.after {Q : VK} {u : Value} (I : Inv X pins σ H s) (h : CE X.stack X.prog X.w H s Q u s') : EP X pins σ Q u s' := by
  obtain ⟨v, H', os, bare, un, hok, r, q⟩ := h
  obtain ⟨hh, g, d, t, os'⟩ := s'
  obtain rfl : os' = s.os := os
  exact ⟨v, H', I.call (h' := hh) (g' := g) (d' := d) (t' := t) (ch := []) un hok bare (fun b z => absurd z (by simp)), r, q⟩
end
/-- f(..): the written arguments, then the defaults dvs; E: what is wanted of an exception -/
def tCall (sp : Sp) (dvs : List V) (E : XK) (t : TA) : TE := fun σ H Q => t σ H fun vs H1 => sp (vs ++ dvs) H1 Q E
/-- o.m(..) of an instance of the class at C -/
def tMeth (C : Addr) (m : Str) (sp : Sp) (dvs : List V) (E : XK) (ta : TE) (t : TA) : TE := fun σ H Q => ta σ H fun x H1 => ∃ a dx fs, x = .ref a ∧ H1 a = some (.ins C dx fs) ∧ fs.lookup m = none ∧
  t σ H1 fun vs H2 => sp (x :: (vs ++ dvs)) H2 Q E
/-- C(..): a new instance and its dict, then __init__ -/
def tMake (C : Addr) (sp : Sp) (dvs : List V) (E : XK) (t : TA) : TE := fun σ H Q => t σ H fun vs H1 => ∀ x dx, H1 x = none → H1 dx = none → dx ≠ x →
  sp (.ref x :: (vs ++ dvs)) (upd (upd H1 dx (.own x)) x (.ins C dx [])) (fun v H2 => v = .non ∧ Q (.ref x) H2) E
/-- how the parameters are bound: us the positional arguments, kw the keywords' values by name, ds the defaults that fill up -/
def Binds (K : PySem.W.Frag) (fd : FuncData) (ps : List Str) (ds : List Value) : Prop :=
  ∀ (s : Shared) (us : List Value), K.In s.heap → (us ++ ds).length = ps.length → BindsTo s fd ⟨us, []⟩ (ps.zip (us ++ ds))
/-- every parameter is given -/
theorem Binds.all {K : PySem.W.Frag} {fd : FuncData} {ps : List Str} (h : ∀ us : List Value, us.length = ps.length → bindArgs fd ⟨us, []⟩ = pure (ps.zip us)) : Binds K fd ps [] := fun s us _ hl => by
  rw [List.append_nil] at hl ⊢
  exact .of_eq (h us hl)
/-- an exception of a callee reaches what this body wants of exceptions -/
def Passes (CX : CXT) (X : Cx) (E : XK) : Prop := ∀ (pins : List (Addr × Obj)) (σ : St) (H : Hp) (s : Shared) (e : Value) (s' : Shared), Inv X pins σ H s → CX X.stack H s E e s' → X.xe e s'
section
variable {X : Cx} {CX : CXT} {k : Nat} {f C : Addr} {fd : FuncData} {ps : List Str} {sp : Sp} {dvs : List V} {ds : List Value} {E : XK} {x m : Str} {p pos apos : Pos} {e o : Expr} {es : List Expr} {ta : TE} {t : TA}
/-- the callee runs -/
theorem run_fn {pins : List (Addr × Obj)} {σ : St} {H : Hp} {s : Shared} {Q : VK} {us : List Value} {vs : List V} (F : FnOk X.prog X.w X.K X.mg X.base CX k f fd ps sp) (hr : Room k X.A) (hb : Binds X.K fd ps ds) (hd : Vals dvs ds) (hx : Passes CX X E)
    (I : Inv X pins σ H s) (r : Vals vs us) (h : sp (vs ++ dvs) H Q E) : wpAny (model X.prog X.w) X.A (call (.ref f) us) (EP X pins σ Q) X.xe s := by
  have r2 : Vals (vs ++ dvs) (us ++ ds) := r.append hd
  have hl : (us ++ ds).length = ps.length := by rw [← r2.length]; exact F.len _ _ _ _ h
  refine wpAny_call (codeAny_mono (F.run X.A X.stack s H ⟨us, []⟩ (us ++ ds) (vs ++ dvs) Q E hr I.env0 (hb s us I.kIn hl) r2 h) fun r s' hq => ?_)
  cases r with
  | error e => exact hx pins σ H s e s' I hq
  | ok fl =>
    cases fl with
    | ret u => exact I.after hq
    | next => exact False.elim hq
    | brk => exact False.elim hq
    | cont => exact False.elim hq
theorem pe_call (F : FnOk X.prog X.w X.K X.mg X.base CX k f fd ps sp) (hr : Room k X.A) (hg : Gl X x) (hm : X.mg x = some (.ref f)) (hk : PySem.W.keepIn X.K (.ref f) = true) (hb : Binds X.K fd ps ds) (hd : Vals dvs ds) (hx : Passes CX X E)
    (ha : PA X (e :: es) t) (hdb : (x == ("__debug__" : Str)) = false := by decide) (he : starEach (e :: es) X.env = (false, eval e X.env) :: starEach es X.env := by rfl) (hpl : (backTo pos (starEach es X.env)).any (·.1) = false := by rfl) :
    PE X (.Call (.Name x p) (e :: es) [] pos) (tCall sp dvs E t) := by
  intro pins s σ H Q I h
  refine wpAny_Call_Name_kw (ld_glob I hg hm ?_ hdb)
  refine PySem.W.callWith_K (h₀ := X.base) I.ok.mod.kin hk (thn (ha pos pins s σ H _ I h) fun us s1 ⟨vs, H1, I1, r, q⟩ => ⟨I1.kIn, ?_⟩) he hpl
  exact run_fn F hr hb hd hx I1 r q
/-- o.m(e, ..) -/
theorem pe_meth {pl : Sem Bool} (he : PE X o ta) (c : Cls X.K C) (hm : Meth X.K C m f) (F : FnOk X.prog X.w X.K X.mg X.base CX k f fd ps sp) (hr : Room k X.A) (hb : Binds X.K fd ps ds) (hd : Vals dvs ds) (hx : Passes CX X E) (ha : PA X (e :: es) t)
    (hst : starEach (e :: es) X.env = (false, eval e X.env) :: starEach es X.env := by rfl) (hpl : (backTo pos (starEach es X.env)).any (·.1) = false := by rfl)
    (ht : eval (.Call (.Attribute o m apos) (e :: es) [] pos) X.env = (do
      let ov ← eval o X.env
      standAt apos.atName
      let (f, first) ← holding [ov] (getMethod ov m pl)
      callWith pos f first (backTo pos (starEach (e :: es) X.env)) (backToKw pos (keywordEach [] X.env))) := by rfl) :
    PE X (.Call (.Attribute o m apos) (e :: es) [] pos) (tMeth C m sp dvs E ta t) := by
  intro pins s σ H Q I h
  refine PySem.W.methodCall_KW (pl := pl) (thn (he pins s σ H _ I h) fun u s1 ⟨x, H1, I1, rx, a, dx, fs, ex, ea, l, q⟩ => ?_) ht
  subst ex
  obtain rfl : u = Value.ref a := rx
  refine getmeth_ok I1 ea c hm l ?_
  refine PySem.W.callWith_K (first := [.ref a]) (h₀ := X.base) I.ok.mod.kin hm.kp (thn (ha pos pins s1 σ H1 _ I1 q) fun us s2 ⟨vs, H2, I2, r, q2⟩ => ⟨I2.kIn, ?_⟩) hst hpl
  exact run_fn (us := .ref a :: us) (vs := .ref a :: vs) F hr hb hd hx I2 (.cons rfl r) q2
/-- o.m() -/
theorem pe_meth0 {pl : Sem Bool} (he : PE X o ta) (c : Cls X.K C) (hm : Meth X.K C m f) (F : FnOk X.prog X.w X.K X.mg X.base CX k f fd ps sp) (hr : Room k X.A) (hb : Binds X.K fd ps ds) (hd : Vals dvs ds) (hx : Passes CX X E)
    (ht : eval (.Call (.Attribute o m apos) [] [] pos) X.env = (do
      let ov ← eval o X.env
      standAt apos.atName
      let (f, first) ← holding [ov] (getMethod ov m pl)
      callWith pos f first (backTo pos (starEach [] X.env)) (backToKw pos (keywordEach [] X.env))) := by rfl) :
    PE X (.Call (.Attribute o m apos) [] [] pos) (tMeth C m sp dvs E ta tNil) := by
  intro pins s σ H Q I h
  refine PySem.W.methodCall_KW (pl := pl) (thn (he pins s σ H _ I h) fun u s1 ⟨x, H1, I1, rx, a, dx, fs, ex, ea, l, q⟩ => ?_) ht
  subst ex
  obtain rfl : u = Value.ref a := rx
  refine getmeth_ok I1 ea c hm l ?_
  exact PySem.W.callWith_K0 (first := [.ref a]) I1.kIn hm.kp (run_fn (us := [.ref a]) (vs := [.ref a]) F hr hb hd hx I1 (.cons rfl .nil) q)
/-- what a class must have to be made -/
structure Mk (K : PySem.W.Frag) (C f : Addr) : Prop where
  makes : PySem.W.makesIn K C = true
  init : PySem.W.findIn K (.ref C) "__init__" = some (some (.ref f))
  fn : PySem.W.isFn K (.ref f) = true
  kp : PySem.W.keepIn K (.ref C) = true
theorem run_make {pins : List (Addr × Obj)} {σ : St} {H : Hp} {s : Shared} {Q : VK} {us : List Value} {vs : List V} (M : Mk X.K C f) (F : FnOk X.prog X.w X.K X.mg X.base CX k f fd ps sp) (hr : Room (k + 1) X.A) (hb : Binds X.K fd ps ds) (hd : Vals dvs ds)
    (hx : Passes CX X E) (I : Inv X pins σ H s) (r : Vals vs us)
    (h : ∀ x dx, H x = none → H dx = none → dx ≠ x → sp (.ref x :: (vs ++ dvs)) (upd (upd H dx (.own x)) x (.ins C dx [])) (fun v H2 => v = .non ∧ Q (.ref x) H2) E) :
    wpAny (model X.prog X.w) X.A (call (.ref C) us) (EP X pins σ Q) X.xe s := by
  have hq := h (s.heap.objs.size + 1) s.heap.objs.size (I.hok.fresh (Nat.le_succ _)) (I.hok.fresh (Nat.le_refl _)) (Nat.ne_of_lt (Nat.lt_succ_self _))
  have I2 := Inv.made (C := C) I
  have r2 : Vals (V.ref (s.heap.objs.size + 1) :: (vs ++ dvs)) (Value.ref (s.heap.objs.size + 1) :: (us ++ ds)) := .cons rfl (r.append hd)
  have hl : (Value.ref (s.heap.objs.size + 1) :: us ++ ds).length = ps.length := by
    have e := r2.length
    rw [F.len _ _ _ _ hq] at e
    exact e.symm
  refine wpAny_call (make_map (f := f) I.kIn M.makes M.init (beq_iff_eq.mp M.fn) (codeAny_mono (F.run _ X.stack _ _ ⟨Value.ref (s.heap.objs.size + 1) :: us, []⟩ (Value.ref (s.heap.objs.size + 1) :: (us ++ ds)) _ _ E (hr.make C us [])
    (I2.env0.make C us []) (hb _ (Value.ref (s.heap.objs.size + 1) :: us) I2.kIn hl) r2 hq) fun r s' hq' => ?_))
  cases r with
  | error e => exact hx pins σ _ _ e s' I2 hq'
  | ok fl =>
    cases fl with
    | ret u =>
      obtain ⟨v, H', I3, rv, ev, q3⟩ := I2.after hq'
      subst ev
      exact ⟨rv, ⟨V.ref (s.heap.objs.size + 1), H', I3, rfl, q3⟩⟩
    | next => exact False.elim hq'
    | brk => exact False.elim hq'
    | cont => exact False.elim hq'
theorem pe_make (M : Mk X.K C f) (F : FnOk X.prog X.w X.K X.mg X.base CX k f fd ps sp) (hr : Room (k + 1) X.A) (hg : Gl X x) (hm : X.mg x = some (.ref C)) (hb : Binds X.K fd ps ds) (hd : Vals dvs ds) (hx : Passes CX X E)
    (ha : PA X (e :: es) t) (hdb : (x == ("__debug__" : Str)) = false := by decide) (he : starEach (e :: es) X.env = (false, eval e X.env) :: starEach es X.env := by rfl) (hpl : (backTo pos (starEach es X.env)).any (·.1) = false := by rfl) :
    PE X (.Call (.Name x p) (e :: es) [] pos) (tMake C sp dvs E t) := by
  intro pins s σ H Q I h
  refine wpAny_Call_Name_kw (ld_glob I hg hm ?_ hdb)
  refine PySem.W.callWith_K (h₀ := X.base) I.ok.mod.kin M.kp (thn (ha pos pins s σ H _ I h) fun us s1 ⟨vs, H1, I1, r, q⟩ => ⟨I1.kIn, ?_⟩) he hpl
  exact run_make M F hr hb hd hx I1 r q
theorem pe_make0 (M : Mk X.K C f) (F : FnOk X.prog X.w X.K X.mg X.base CX k f fd ps sp) (hr : Room (k + 1) X.A) (hg : Gl X x) (hm : X.mg x = some (.ref C)) (hb : Binds X.K fd ps ds) (hd : Vals dvs ds) (hx : Passes CX X E)
    (hdb : (x == ("__debug__" : Str)) = false := by decide) : PE X (.Call (.Name x p) [] [] pos) (tMake C sp dvs E tNil) := by
  intro pins s σ H Q I h
  refine wpAny_Call_Name_kw (ld_glob I hg hm ?_ hdb)
  exact PySem.W.callWith_K0 I.kIn M.kp (run_make (us := []) M F hr hb hd hx I .nil h)
end
/-- names: the parameters first -/
structure FnScope (N P : List Str) (sc : Scope) : Prop where
  kind : sc.kind = .function
  co : sc.isCoroutine = false
  gen : sc.isGenerator = false
  nd : N.Nodup
  pre : N.take P.length = P
  par : ∀ x ∈ P, sc.names.lookup x = some .local ∨ sc.names.lookup x = some .cell
  nofree : ∀ y ∈ sc.names, y.2 ≠ .free
theorem bindL_out {kindOf : Str → Option NameKind} {x : Str} : ∀ {binds : List (Str × Value)} {m : Str → Option Value}, (∀ v, (x, v) ∉ binds) → bindL kindOf binds m x = m x
  | [], _, _ => rfl
  | (n, v) :: r, m, h => by
    unfold bindL
    rw [bindL_out fun w hw => h w (List.mem_cons_of_mem _ hw)]
    split
    · have : x ≠ n := by rintro rfl; exact h v List.mem_cons_self
      simp [this]
    · rfl
theorem bindC_out {kindOf : Str → Option NameKind} {x : Str} : ∀ {binds : List (Str × Value)} {m : Str → Option Value}, (∀ v, (x, v) ∉ binds) → bindC kindOf binds m x = m x
  | [], _, _ => rfl
  | (n, v) :: r, m, h => by
    unfold bindC
    rw [bindC_out fun w hw => h w (List.mem_cons_of_mem _ hw)]
    split
    · rfl
    · have : x ≠ n := by rintro rfl; exact h v List.mem_cons_self
      simp [this]
theorem bindL_get {kindOf : Str → Option NameKind} {x : Str} {v : Value} : ∀ {P : List Str} {vs : List Value} {i : Nat} {m : Str → Option Value}, P.Nodup → P[i]? = some x → vs[i]? = some v → kindOf x = some .local →
    bindL kindOf (P.zip vs) m x = some v
  | [], _, _, _, _, h, _, _ => by simp at h
  | _ :: _, [], _, _, _, _, h, _ => by simp at h
  | p :: P, w :: vs, 0, m, nd, h1, h2, hk => by
    simp at h1 h2; subst h1; subst h2
    show bindL kindOf ((p, w) :: P.zip vs) m p = _
    unfold bindL
    rw [bindL_out fun v hv => (List.nodup_cons.mp nd).1 (List.of_mem_zip hv).1, if_pos hk]
    simp
  | p :: P, w :: vs, i + 1, m, nd, h1, h2, hk => by
    show bindL kindOf ((p, w) :: P.zip vs) m x = _
    unfold bindL
    exact bindL_get (i := i) (List.nodup_cons.mp nd).2 (by simpa using h1) (by simpa using h2) hk
theorem bindC_get {kindOf : Str → Option NameKind} {x : Str} {v : Value} : ∀ {P : List Str} {vs : List Value} {i : Nat} {m : Str → Option Value}, P.Nodup → P[i]? = some x → vs[i]? = some v → kindOf x ≠ some .local →
    bindC kindOf (P.zip vs) m x = some v
  | [], _, _, _, _, h, _, _ => by simp at h
  | _ :: _, [], _, _, _, _, h, _ => by simp at h
  | p :: P, w :: vs, 0, m, nd, h1, h2, hk => by
    simp at h1 h2; subst h1; subst h2
    show bindC kindOf ((p, w) :: P.zip vs) m p = _
    unfold bindC
    rw [bindC_out fun v hv => (List.nodup_cons.mp nd).1 (List.of_mem_zip hv).1, if_neg hk]
    simp
  | p :: P, w :: vs, i + 1, m, nd, h1, h2, hk => by
    show bindC kindOf ((p, w) :: P.zip vs) m x = _
    unfold bindC
    exact bindC_get (i := i) (List.nodup_cons.mp nd).2 (by simpa using h1) (by simpa using h2) hk
/-- the names' values at the entry -/
def start (N : List Str) (vs : List V) : St := vs.map some ++ List.replicate (N.length - vs.length) none
/-- the context of a def's body, at its entry; an exception leaves the frame, then lies as CX says -/
def cxOf (CX : CXT) (P : Program) (w : World) (K : PySem.W.Frag) (mg : Str → Option Value) (base : Heap) (N : List Str) (qual : Str) (scope : Scope) (f : Addr) (cd : Value) (A : Around) (outer : List Env) (s : Shared) (H : Hp) (E : XK) : Cx where
  prog := P
  w := w
  K := K
  mg := mg
  base := base
  A := A.deeper (envOfC qual scope s.heap.objs.size f cd)
  N := N
  s_0 := s
  H_0 := H
  env := envOfC qual scope s.heap.objs.size f cd
  outer := outer
  stack := envOfC qual scope s.heap.objs.size f cd :: outer
  ex := []
  calm := true
  fn := fun _ => true
  pn := []
  xe := fun e s' => wpAny (model P w) (A.deeper (envOfC qual scope s.heap.objs.size f cd)) (leaving (envOfC qual scope s.heap.objs.size f cd) e) (fun _ s'' => CX outer H s E e s'') (fun e' s'' => CX outer H s E e' s'') s'
theorem cell_has {sc : Scope} {n : Nat} {x : Str} (h : sc.names.lookup x = some .cell) : ∃ c, (cellsFrom n sc.names []).lookup x = some c := by
  have q := PySem.W.cellsFrom_some sc.names n [] (.inl h)
  exact Option.isSome_iff_exists.mp q
theorem inv_start {CX : CXT} {P : Program} {w : World} {K : PySem.W.Frag} {mg : Str → Option Value} {base : Heap} {N ps : List Str} {qual : Str} {scope : Scope} {f : Addr} {cd : Value} {A : Around} {outer : List Env} {s s1 : Shared} {H : Hp} {E : XK} {us : List Value} {vs : List V}
    (S : FnScope N ps scope) (hd : A.handled = none) (e0 : Env0 P w K mg base A outer s H) (hl : vs.length = ps.length) (r : Vals vs us)
    (x : InCallC s s.heap.objs.size (bindL (envOfC qual scope s.heap.objs.size f cd).kindOf (ps.zip us) fun _ => none) (cellsFrom (s.heap.objs.size + 1) scope.names []) (bindC (envOfC qual scope s.heap.objs.size f cd).kindOf (ps.zip us) fun _ => none) s1) :
    Inv (cxOf CX P w K mg base N qual scope f cd A outer s H E) [] (start N vs) H s1 := by
  have hpl : ps.length ≤ N.length := by have := congrArg List.length S.pre; rw [List.length_take] at this; omega
  obtain ⟨h1, tk, rfl, hk⟩ := x.done
  have noA : ∀ b : Addr, b ∉ (cxOf CX P w K mg base N qual scope f cd A outer s H E).ex := fun b z => absurd (show b ∈ ([] : List Addr) from z) (by simp)
  refine ⟨⟨e0.mod, S.kind, rfl, rfl, Nat.le_refl _, fun y z c h1 h2 => ?_, fun y hy => ?_, fun y c _ h => ?_, fun _ => hd, Around.frames_deeper e0.frames, .inr ⟨rfl, rfl⟩, fun b z => absurd z (noA b), e0.bs, e0.bsz, fun b _ _ => noA b, fun b z => absurd z (noA b), e0.funs, e0.frf⟩,
    rfl, e0.bare, Un.kept hk, ⟨_, x.toInCall.ns, fun i y v h1 h2 h3 => ?_⟩, fun y c h => ⟨_, x.cell y c h⟩, e0.hok.fresh (Nat.le_refl _), fun y c h => ?_, fun p hp => absurd (show p ∈ ([] : List (Addr × Obj)) from hp) (by simp), e0.hok.kept hk, ?_⟩
  · exact name_of_addr x.apart (PySem.mem_of_lookup h1) (PySem.mem_of_lookup h2)
  · have hy : scope.names.lookup y = some .cell ∨ scope.names.lookup y = some .free := hy
    rcases hy with hy | hy
    · exact cell_has hy
    · exact absurd rfl (S.nofree _ (PySem.mem_of_lookup hy))
  · exact Nat.le_of_lt (x.above y c (PySem.mem_of_lookup h))
  · have hi : i < vs.length := by
      unfold start at h2
      by_cases hi : i < vs.length
      · exact hi
      · rw [List.getElem?_append_right (by simpa using hi)] at h2
        rw [List.getElem?_replicate] at h2
        split at h2 <;> cases h2
    have ha : vs[i]? = some v := by
      unfold start at h2
      rw [List.getElem?_append_left (by simpa using hi), List.getElem?_map] at h2
      cases e : vs[i]? with
      | none => rw [e] at h2; cases h2
      | some a => rw [e] at h2; cases h2; rfl
    obtain ⟨u, hu, rv⟩ := r.get ha
    have hp : ps[i]? = some y := by
      rw [← S.pre, List.getElem?_take_of_lt (by omega)]; exact h1
    have ndP : ps.Nodup := by rw [← S.pre]; exact S.nd.sublist (List.take_sublist _ _)
    refine ⟨u, rv, ?_⟩
    rcases S.par y (List.mem_of_getElem? hp) with k | k
    · exact .inl ⟨k, bindL_get ndP hp hu k⟩
    · obtain ⟨c, e⟩ := cell_has (n := s.heap.objs.size + 1) k
      refine .inr ⟨.inl k, c, e, ?_⟩
      have q := x.cell y c e
      rw [bindC_get ndP hp hu (by show scope.names.lookup y ≠ _; rw [k]; decide)] at q
      exact q
  · exact e0.hok.fresh (Nat.le_of_lt (x.above y c (PySem.mem_of_lookup h)))
  · unfold start
    show _ = N.length
    rw [List.length_append, List.length_map, List.length_replicate]
    omega
/-- THE RULE: a def (or a method) of the text, by its body. The body's reading t is chosen for each entry; it is run at the parameters' values -/
theorem fn_of {CX : CXT} {P : Program} {w : World} {K : PySem.W.Frag} {mg : Str → Option Value} {base : Heap} {k : Nat} {f : Addr} {name qual : Str} {params : Arguments} {body : List Stmt} {scope : Scope} {dV kV doc pm cdv ct oc : Value} {an od : Option Addr}
    {osl : Array (Option Value)} {N ps : List Str} {sp : Sp} (lk : K.lookup f = some ⟨oc, od, .func (PySem.W.fnOf name qual params body scope dV kV doc pm an cdv ct), osl⟩) (hcd : PySem.W.codeIn K cdv qual = true) (S : FnScope N ps scope)
    (len : ∀ vs H Q E, sp vs H Q E → vs.length = ps.length)
    (hbody : ∀ (A : Around) (outer : List Env) (s : Shared) (H : Hp) (vs : List V) (Q : VK) (E : XK), Room k (A.deeper (envOfC qual scope s.heap.objs.size f cdv)) → sp vs H Q E →
      ∃ t, PSs (cxOf CX P w K mg base N qual scope f cdv A outer s H E) body t ∧ t { nx := fun _ H' => Q .non H', rt := Q } (start N vs) H) :
    FnOk P w K mg base CX (k + 1) f (PySem.W.fnOf name qual params body scope dV kV doc pm an cdv ct) ps sp := by
  refine ⟨len, fun A outer s H args us vs Q E hr e0 hb r hsp => ?_⟩
  have hl := len _ _ _ _ hsp
  have KX : K.In s.heap := e0.mod.kin.keeps fun b o e => (e0.bs b o e).1
  have lim : s.heap.NoLimit := e0.mod.nolimit.keeps fun b o e => (e0.bs b o e).1
  have hkind : ∀ y ∈ ps.zip us, scope.names.lookup y.1 = some .local ∨ (scope.names.lookup y.1 = some .cell ∧ ((cellsFrom (s.heap.objs.size + 1) scope.names []).lookup y.1).isSome = true) := fun ⟨n, v⟩ hy => by
    rcases S.par n (List.of_mem_zip hy).1 with q | q
    · exact .inl q
    · exact .inr ⟨q, PySem.W.cellsFrom_some _ _ _ (.inl q)⟩
  refine codeAny_call_function hr.depth (KX _ _ lk) rfl S.co S.gen rfl (PySem.W.codeRec_of KX hcd) (hb _ _ _ _ ?_)
  refine wpAny_newFunctionEnv_cells S.kind hkind fun env he s1 x => ?_
  subst he
  refine ⟨lim.keeps x.toInCall.keep, codeAny_func ?_⟩
  obtain ⟨t, ht, hq⟩ := hbody A outer s H vs Q E (hr.deeper _) hsp
  have I : Inv (cxOf CX P w K mg base N qual scope f cdv A outer s H E) [] (start N vs) H s1 := inv_start S hr.hd e0 hl r x
  refine wpAny_mono (ht [] s1 (start N vs) H _ I hq) (fun fl s' hs => ?_) fun e s' hs => hs
  have fin : ∀ {σ' : St} {H' : Hp} {v : V} {u : Value}, Inv (cxOf CX P w K mg base N qual scope f cdv A outer s H E) [] σ' H' s' → RelV v u → Q v H' → CE outer P w H s Q u s' :=
    fun {σ' H' v u} J rv q => ⟨v, H', J.os, J.bare, J.base, J.hok, rv, q⟩
  cases fl with
  | ret u =>
    obtain ⟨v, σ', H', J, rv, q⟩ := hs
    exact fin J rv q
  | next =>
    obtain ⟨σ', H', J, q⟩ := hs
    exact fin (v := V.non) (u := Value.none) J rfl q
  | brk =>
    obtain ⟨_, _, _, q⟩ := hs
    exact False.elim q
  | cont =>
    obtain ⟨_, _, _, q⟩ := hs
    exact False.elim q
end L2
namespace L2
open PySem PySem.Spec PyProof.Rows
section
variable {X : Cx} {x : Str} {p pos : Pos} {e : Expr} {es : List Expr} {t : TA} {id T : String} {r : List V → Hp → VK → Prop}
def tCB (r : List V → Hp → VK → Prop) (t : TA) : TE := fun σ H Q => t σ H fun vs H1 => r vs H1 Q
/-- f(e, ..), f a built-in function -/
theorem pe_callB (hc : CallR X (.builtin id) r) (hg : Gl X x) (hm : X.mg x = none) (hv : bootBuiltins x = some (.builtin id)) (ha : PA X (e :: es) t) (hn : x ≠ "__name__" := by decide) (hdb : (x == ("__debug__" : Str)) = false := by decide)
    (he : starEach (e :: es) X.env = (false, eval e X.env) :: starEach es X.env := by rfl) (hpl : (backTo pos (starEach es X.env)).any (·.1) = false := by rfl) : PE X (.Call (.Name x p) (e :: es) [] pos) (tCB r t) := by
  intro pins s σ H Q I h
  refine wpAny_Call_Name_kw (ld_blt I hg hm hv ?_ hn hdb)
  exact PyProof.Rows.callWith_builtin1 (thn (ha pos pins s σ H _ I h) fun us s1 ⟨vs, H1, I1, r1, q1⟩ => hc pins s1 σ H1 vs us Q I1 r1 q1) he hpl
end
end L2
namespace HT
open PySem PyProof.Rows
section
open PySem.SeqAt
open PySem.AutoSeq1 (wpAny_loadPart')
open PySem.MeetsSeq PySem.MeetsSeq2 PySem.MeetsSeq3
end
section
variable {prog : Program} {w : World} {A : Around} {E : Value → Shared → Prop} {s : Shared}
/-- t + u, t not empty -/
theorem cat_tup {t b : Addr} {vs ws : List Value} {Q : Value → Shared → Prop} (ht : IsTup s.heap t vs.toArray) (hb : IsTup s.heap b ws.toArray) (hv : vs ≠ [])
    (h1 : ws = [] → Q (.ref t) s) (h2 : ws ≠ [] → Q (.ref s.heap.objs.size) { s with heap := s.heap.push { cls := .type "tuple", data := .seq (vs ++ ws).toArray } })
    (hsz : vs.length + ws.length ≤ sizeLine) : wpAny (model prog w) A (binaryOp .Add (.ref t) (.ref b)) Q E s := by
  obtain ⟨⟨cls, dd, data, sl⟩, ho, hc, n, hd⟩ := id ht
  obtain ⟨⟨cls2, dd2, data2, sl2⟩, ho2, hc2, n2, hd2⟩ := id hb
  simp only at hc hd hc2 hd2
  subst hc hd hc2 hd2
  have e : vs.toArray ++ ws.toArray = (vs ++ ws).toArray := by simp
  by_cases hw : ws = []
  · exact concat_meets ⟨_, ho, rfl⟩ ⟨_, ho2, rfl⟩ noFill_tuple_add seq_tuple_add PySem.F.slot_tuple_add PySem.F.entry_tuple_add (PySem.F.args_tuple_add_2 _ _)
      (tuple_addW1 t b vs.toArray ws.toArray n n2 dd dd2 sl sl2 (by simpa using hv) (by simp [hw])) ⟨ho, ho2, h1 hw⟩
  · refine concat_meets ⟨_, ho, rfl⟩ ⟨_, ho2, rfl⟩ noFill_tuple_add seq_tuple_add PySem.F.slot_tuple_add PySem.F.entry_tuple_add (PySem.F.args_tuple_add_2 _ _)
      (tuple_addW2 t b vs.toArray ws.toArray n n2 dd dd2 sl sl2 (by simpa using hv) (by simpa using hw) (by rw [List.size_toArray, List.size_toArray]; exact hsz)) ⟨ho, ho2, ?_⟩
    rw [e]
    exact h2 hw
/-- a slice's bound as a place among n (d where it is left out) -/
def sIx (n d : Nat) : Option Int → Nat
  | none => d
  | some v => if v < 0 then (v + (n : Int)).toNat else min v.toNat n
theorem sIx_none (n d : Nat) : sIx n d none = d := rfl
theorem sIx_nat (n d k : Nat) : sIx n d (some (k : Int)) = min k n := by
  show (if (k : Int) < 0 then ((k : Int) + (n : Int)).toNat else min (k : Int).toNat n) = min k n
  rw [if_neg (by omega), Int.toNat_natCast]
end
end HT
namespace L2
open PySem PySem.Spec PyProof.Rows
abbrev TO := St → Hp → (Option Int → Hp → Prop) → Prop
/-- a slice's part (left out, or an int) -/
def PO (X : Cx) (e : Option Expr) (t : TO) : Prop :=
  ∀ (pins : List (Addr × Obj)) (s : Shared) (σ : St) (H : Hp) (Q : Option Int → Hp → Prop), Inv X pins σ H s → t σ H Q →
    wpAny (model X.prog X.w) X.A (evalPart e X.env) (fun u s' => ∃ o H', Inv X pins σ H' s' ∧ IsPart u o ∧ Q o H') X.xe s
def tNoPart : TO := fun _ H Q => Q none H
def tPart (t : TE) : TO := fun σ H Q => t σ H fun x H1 => ∃ i, x = .int i ∧ Q (some i) H1
section
variable {X : Cx} {e : Expr} {te : TE} {lo hi : Option Expr} {tl th : TO} {pos p2 : Pos}
theorem po_none : PO X none tNoPart := by
  intro pins s σ H Q I h
  rw [evalPart_none]
  exact wpAny_pure ⟨none, H, I, .none, h⟩
theorem po_some (h : PE X e te) : PO X (some e) (tPart te) := by
  intro pins s σ H Q I hw
  rw [evalPart_some]
  refine thn (h pins s σ H _ I hw) fun u s1 ⟨x, H1, I1, r1, q1⟩ => ?_
  obtain ⟨i, rfl, q⟩ := q1
  obtain ⟨t, rfl⟩ := r1
  exact ⟨some i, H1, I1, .int i t, q⟩
/-- what a slice of a value is, by values: the slice object stands at sl -/
def SlR (X : Cx) (r : V → Option Int → Option Int → Hp → VK → Prop) : Prop :=
  ∀ (pins : List (Addr × Obj)) (s : Shared) (σ : St) (H : Hp) (x : V) (v vl vu : Value) (lo hi : Option Int) (sl : Addr) (Q : VK), Inv X pins σ H s → RelV x v → s.heap.IsSliceOf sl vl vu .none → IsPart vl lo → IsPart vu hi → r x lo hi H Q →
    ∃ T id, typeLookup (.type T) "__getitem__" = pure (some (.builtin id)) ∧ s.TypeIs v T ∧ wpAny (model X.prog X.w) X.A (getItem v (.ref sl)) (EP X pins σ Q) X.xe s
def tSl (r : V → Option Int → Option Int → Hp → VK → Prop) (te : TE) (tl th : TO) : TE := fun σ H Q => te σ H fun x H1 => tl σ H1 fun l H2 => th σ H2 fun u H3 => r x l u H3 Q
/-- a[lo:hi], any a -/
theorem pe_slice {r : V → Option Int → Option Int → Hp → VK → Prop} (hr : SlR X r) (he : PE X e te) (hl : PO X lo tl) (hu : PO X hi th) : PE X (.Subscript e (.Slice lo hi none p2) pos) (tSl r te tl th) := by
  intro pins s σ H Q I h
  refine Subscript_ (thn (he pins s σ H _ I h) fun v s1 ⟨x, H1, I1, r1, q1⟩ => ?_)
  refine wpAny_Slice (thn (hl pins s1 σ H1 _ I1 q1) fun vl s2 ⟨l, H2, I2, pl, q2⟩ => thn (hu pins s2 σ H2 _ I2 q2) fun vu s3 ⟨u, H3, I3, pu, q3⟩ => ?_)
  rw [evalPart_none]
  refine wpAny_pure ?_
  have I4 : Inv X pins σ H3 { s3 with heap := s3.heap.push { cls := .type "slice", data := .fields #[vl, vu, .none] } } := I3.kept (t' := s3.toks) fun b ob q => Heap.get?_push_of_some _ q
  obtain ⟨T, id, hT, ht, hg⟩ := hr pins { s3 with heap := s3.heap.push { cls := .type "slice", data := .fields #[vl, vu, .none] } } σ H3 x v vl vu l u s3.heap.objs.size Q I4 r1 (Heap.IsSliceOf.new ..) pl pu q3
  show wpAny (model X.prog X.w) X.A (subscriptTail e (.Slice lo hi none p2) v (.ref s3.heap.objs.size)) (EP X pins σ Q) X.xe { s3 with heap := s3.heap.push { cls := .type "slice", data := .fields #[vl, vu, .none] } }
  exact tail_any (ops := [.ref s3.heap.objs.size, v]) ht hT hg (by with_unfolding_all rfl)
/-- the items of xs[lo:hi] -/
def cutV (xs : List V) (lo hi : Option Int) : List V := (xs.drop (HT.sIx xs.length 0 lo)).take (HT.sIx xs.length xs.length hi - HT.sIx xs.length 0 lo)
theorem cutV_length (xs : List V) (lo hi : Option Int) : (cutV xs lo hi).length ≤ xs.length := by
  unfold cutV
  rw [List.length_take, List.length_drop]
  omega
/-- t + u, t not empty: u empty gives t itself -/
def rCatT (K : PySem.W.Frag) : R2 := fun x y H Q => ∃ a b xs ys, x = .ref a ∧ y = .ref b ∧ SqT K H a xs ∧ SqT K H b ys ∧ xs ≠ [] ∧ xs.length + ys.length ≤ sizeLine ∧
  (ys = [] → Q (.ref a) H) ∧ (ys ≠ [] → ∀ p, H p = none → Q (.ref p) (upd H p (.tup (xs ++ ys))))
theorem Vals.nil_iff {xs : List V} {us : List Value} (r : Vals xs us) : us = [] ↔ xs = [] := by
  cases r with
  | nil => simp
  | cons _ _ => simp
theorem op_catT : OpR X (binaryOp .Add) (rCatT X.K) := by
  intro pins s σ H x y v u Q I rx ry h
  obtain ⟨a, b, xs, ys, rfl, rfl, ha, hb, hx, hz, q1, q2⟩ := h
  cases rx
  cases ry
  obtain ⟨its, r1, p1, _⟩ := I.tuple ha
  obtain ⟨its2, r2, p2, _⟩ := I.tuple hb
  refine HT.cat_tup p1 p2 (fun z => hx (r1.nil_iff.mp z)) (fun z => ⟨.ref a, H, I, rfl, q1 (r2.nil_iff.mp z)⟩) (fun z => ?_) (by rw [← r1.length, ← r2.length]; exact hz)
  refine ⟨.ref s.heap.objs.size, _, I.laid (t' := s.toks) (o := .tup (xs ++ ys)) (fun b ob q => Heap.get?_push_of_some _ q) (Nat.le_refl _) ?_, rfl, q2 (fun w => z (r2.nil_iff.mpr w)) _ (I.hok.fresh (Nat.le_refl _))⟩
  exact ⟨by rw [List.length_append]; exact hz, _, r1.append r2, IsTup.new _ _⟩
end
end L2
namespace L2
open PySem PySem.Spec PyProof.Rows
/-- the place that an index of any sign means -/
def ixN (n : Nat) (i : Int) : Option Nat := if 0 ≤ i then (if i < n then some i.toNat else none) else if -(n : Int) ≤ i then some (i + n).toNat else none
def atI {α : Type} (xs : List α) (i : Int) : Option α := (ixN xs.length i).bind fun j => xs[j]?
theorem ixN_seq {n : Nat} {i : Int} {j : Nat} (h : ixN n i = some j) : seqIndex? i n = some j ∧ j < n ∧ -(n : Int) ≤ i ∧ i < n := by
  unfold ixN at h
  by_cases h0 : 0 ≤ i
  · rw [if_pos h0] at h
    by_cases h1 : i < n
    · rw [if_pos h1] at h
      have e : i.toNat = j := Option.some.inj h
      exact ⟨by rw [seqIndex_of h0 h1, e], by omega, by omega, h1⟩
    · rw [if_neg h1] at h; cases h
  · rw [if_neg h0] at h
    by_cases h1 : -(n : Int) ≤ i
    · rw [if_pos h1] at h
      have e : (i + n).toNat = j := Option.some.inj h
      exact ⟨by rw [seqIndex_neg (by omega) h1, e], by omega, h1, by omega⟩
    · rw [if_neg h1] at h; cases h
theorem atI_get {α : Type} {xs : List α} {i : Int} {v : α} (h : atI xs i = some v) : ∃ j, seqIndex? i xs.length = some j ∧ xs[j]? = some v ∧ j < xs.length ∧ -(xs.length : Int) ≤ i ∧ i < xs.length := by
  unfold atI at h
  cases e : ixN xs.length i with
  | none => rw [e] at h; cases h
  | some j =>
    rw [e] at h
    obtain ⟨h1, h2, h3, h4⟩ := ixN_seq e
    exact ⟨j, h1, h, h2, h3, h4⟩
theorem atI_nat {α : Type} {xs : List α} {j : Nat} {v : α} (h : xs[j]? = some v) : atI xs (j : Int) = some v := by
  have hj : j < xs.length := (List.getElem?_eq_some_iff.mp h).1
  have e : ixN xs.length (j : Int) = some j := by
    unfold ixN
    rw [if_pos (by omega), if_pos (by omega)]; simp
  unfold atI; rw [e]; exact h
theorem atI_last {α : Type} (xs : List α) (v : α) : atI (xs ++ [v]) (-1) = some v := by
  have hl : (xs ++ [v]).length = xs.length + 1 := by simp
  have e : ixN (xs ++ [v]).length (-1) = some xs.length := by
    unfold ixN
    rw [hl, if_neg (by decide), if_pos (by omega)]
    congr 1
    omega
  unfold atI
  rw [e]
  show (xs ++ [v])[xs.length]? = some v
  simp
/-- what stands as an index of a plain subscript -/
def PlainIx (b : Expr) : Prop := ∀ o i, subscripted b false o i = operate [o, i] (getItem o i)
/-- a subscript by values -/
def IxR (X : Cx) (r : R2) : Prop :=
  ∀ (value slice : Expr) (pins : List (Addr × Obj)) (s : Shared) (σ : St) (H : Hp) (x y : V) (v u : Value) (Q : VK), Inv X pins σ H s → RelV x v → RelV y u → r x y H Q →
    subscripted slice false v u = operate [v, u] (getItem v u) → wpAny (model X.prog X.w) X.A (subscriptTail value slice v u) (EP X pins σ Q) X.xe s
/-- a call of a builtin's method by values: the receiver, the arguments -/
def MtR (X : Cx) (id : String) (r : V → List V → Hp → VK → Prop) : Prop :=
  ∀ (pins : List (Addr × Obj)) (s : Shared) (σ : St) (H : Hp) (x : V) (xs : List V) (v : Value) (us : List Value) (Q : VK), Inv X pins σ H s → RelV x v → Vals xs us → r x xs H Q →
    wpAny (model X.prog X.w) X.A (call (.builtin id) (v :: us)) (EP X pins σ Q) X.xe s
section
variable {X : Cx} {a b : Expr} {ta tb : TE} {pos : Pos}
/-- a[b] -/
theorem pe_ix {r : R2} (hr : IxR X r) (ha : PE X a ta) (hb : PE X b tb) (hs : PlainIx b) : PE X (.Subscript a b pos) (tOp r ta tb) := by
  intro pins s σ H Q I h
  exact Subscript_ (binT ha hb I h fun v u s2 x y H2 I2 rx ry q => hr a b pins s2 σ H2 x y v u Q I2 rx ry q (hs _ _))
def rIxL (K : PySem.W.Frag) : R2 := fun x y H Q => ∃ p xs i v, x = .ref p ∧ y = .int i ∧ SqL K H p xs ∧ atI xs i = some v ∧ Q v H
def rIxT (K : PySem.W.Frag) : R2 := fun x y H Q => ∃ p xs i v, x = .ref p ∧ y = .int i ∧ SqT K H p xs ∧ atI xs i = some v ∧ Q v H
theorem ix_list : IxR X (rIxL X.K) := by
  intro value slice pins s σ H x y v u Q I rx ry h hs
  obtain ⟨p, xs, i, z, rfl, rfl, hq, he, q⟩ := h
  cases rx
  obtain ⟨t, rfl⟩ := ry
  obtain ⟨its, r, pl, hz⟩ := I.list hq
  obtain ⟨j, h1, h2, h3, h4, h5⟩ := atI_get he
  obtain ⟨w, ew, rw'⟩ := r.get h2
  have hl := r.length
  have hn := line63
  have fin : EP X pins σ Q w s := ⟨z, H, I, rw', q⟩
  by_cases h0 : 0 ≤ i
  · have hj : i.toNat = j := by
      rw [seqIndex_of h0 h5] at h1
      exact Option.some.inj h1
    exact item_listR pl.isList h0 (by omega) (by rw [hj]; simpa using ew) fin hs
  · have hj : (i + (its.toArray.size : Int)).toNat = j := by
      rw [seqIndex_neg (by omega) h4] at h1
      rw [List.size_toArray, ← hl]
      exact Option.some.inj h1
    exact subscriptTail_builtinR (x := w) pl.isList.typeIs slot_list_getitem.lookup
      (wpAny_getItem_list_neg (Q := fun r s' => r = w ∧ EP X pins σ Q r s') pl.isList (by omega) (by rw [List.size_toArray] <;> omega) (by omega) (by rw [hj]; simpa using ew) ⟨rfl, fin⟩) hs
theorem ix_tup : IxR X (rIxT X.K) := by
  intro value slice pins s σ H x y v u Q I rx ry h hs
  obtain ⟨p, xs, i, z, rfl, rfl, hq, he, q⟩ := h
  cases rx
  obtain ⟨t, rfl⟩ := ry
  obtain ⟨its, r, pl, hz⟩ := I.tuple hq
  obtain ⟨j, h1, h2, h3, h4, h5⟩ := atI_get he
  obtain ⟨w, ew, rw'⟩ := r.get h2
  have hl := r.length
  have hn := line63
  have fin : EP X pins σ Q w s := ⟨z, H, I, rw', q⟩
  exact subscriptTail_builtinR (x := w) pl.typeIs slot_tuple_getitem.lookup
    (getItem_tuple (j := j) (Q := fun r s' => r = w ∧ EP X pins σ Q r s') pl (by omega) (by omega) (by rw [List.size_toArray, ← hl]; exact h1) (by simpa using ew) ⟨rfl, fin⟩) hs
/-- the list's object behind a store -/
theorem mapSeq_set (its : List Value) (n j : Nat) (u : Value) : Obj.mapSeq (·.setIfInBounds j u) { cls := .type "list", data := .seq its.toArray n } = { cls := .type "list", data := .seq (its.set j u).toArray n } := by
  simp [Obj.mapSeq]
theorem Inv.lst {pins : List (Addr × Obj)} {σ : St} {H : Hp} {s : Shared} {p : Addr} {xs : List V} (I : Inv X pins σ H s) (h : H p = some (.lst xs)) :
    ∃ (its : List Value) (n : Nat), Vals xs its ∧ s.heap.get? p = some { cls := .type "list", data := .seq its.toArray n } ∧ xs.length ≤ sizeLine := by
  obtain ⟨z, its, n, r, e⟩ := I.hok p _ h
  exact ⟨its, n, r, e, z⟩
/-- the list at p is written by an update of its object -/
theorem Inv.lstUpd {pins : List (Addr × Obj)} {σ : St} {H : Hp} {s : Shared} {p : Addr} {xs ys : List V} {its its' : List Value} {n n' : Nat} {f : Obj → Obj} (I : Inv X pins σ H s) (h : H p = some (.lst xs))
    (ho : s.heap.get? p = some { cls := .type "list", data := .seq its.toArray n }) (hf : f { cls := .type "list", data := .seq its.toArray n } = { cls := .type "list", data := .seq its'.toArray n' }) (r : Vals ys its') (hz : ys.length ≤ sizeLine) (t : Nat) :
    Inv X pins σ (upd H p (.lst ys)) { s with heap := s.heap.update p f, toks := t } := by
  have e : (s.heap.update p f).get? p = some { cls := .type "list", data := .seq its'.toArray n' } := by
    rw [Heap.get?_update_self f ho (by rw [hf] <;> rfl), hf]
  refine I.write (x := p) (e := p) (by rw [h]; trivial) (.inl rfl) (fun b u hb q => (Heap.get?_update_other _ _ (Ne.symm hb)).trans q) ⟨_, e⟩ ?_
  exact ⟨hz, its', n', r, e⟩
def rSetL : V → V → V → Hp → (Hp → Prop) → Prop := fun o i v H Q => ∃ p xs k j, o = .ref p ∧ i = .int k ∧ H p = some (.lst xs) ∧ ixN xs.length k = some j ∧ Q (upd H p (.lst (xs.set j v)))
theorem set_list : PSet X rSetL := by
  intro pins s σ H o i v ov iv u Q I ro ri rv h
  obtain ⟨p, xs, k, j, rfl, rfl, hp, hj, q⟩ := h
  cases ro
  obtain ⟨t, rfl⟩ := ri
  obtain ⟨its, n, r, ho, hz⟩ := I.lst hp
  obtain ⟨h1, h2, h3, h4⟩ := ixN_seq hj
  have hl := r.length
  have hn := line63
  have I' : Inv X pins σ (upd H p (.lst (xs.set j v))) { s with heap := s.heap.update p (Obj.mapSeq (·.setIfInBounds j u)) } :=
    I.lstUpd hp ho (mapSeq_set its n j u) (r.set rv j) (by rw [List.length_set]; exact hz) s.toks
  by_cases h0 : 0 ≤ k
  · have hk : k.toNat = j := by
      rw [seqIndex_of h0 h4] at h1
      exact Option.some.inj h1
    exact PySem.W.ki_setAt ho h0 (by omega) (by rw [List.size_toArray, ← hl]; exact h4) (by rw [hk]; exact ⟨_, I', q⟩)
  · have hk : (k + (its.toArray.size : Int)).toNat = j := by
      rw [seqIndex_neg (by omega) h3] at h1
      rw [List.size_toArray, ← hl]
      exact Option.some.inj h1
    exact PySem.W.ki_setBack ho (by omega) (by rw [List.size_toArray, ← hl]; exact h3) (by omega) (by rw [hk]; exact ⟨_, I', q⟩)
theorem slice_bounds (lo hi : Option Int) (n : Nat) : (sliceBounds lo hi none n).1 = ((HT.sIx n 0 lo : Nat) : Int) ∧ (sliceBounds lo hi none n).2.1 = ((HT.sIx n n hi : Nat) : Int) ∧ (sliceBounds lo hi none n).2.2 = 1 := by
  refine ⟨?_, ?_, rfl⟩
  · cases lo with
    | none => simp [sliceBounds, HT.sIx]
    | some i =>
      simp only [sliceBounds, HT.sIx, Option.getD_none, show (1 : Int) > 0 by decide, if_true]
      by_cases h : i < 0
      · simp only [h, if_true] <;> omega
      · simp only [h, if_false] <;> omega
  · cases hi with
    | none => simp [sliceBounds, HT.sIx]
    | some i =>
      simp only [sliceBounds, HT.sIx, Option.getD_none, show (1 : Int) > 0 by decide, if_true]
      by_cases h : i < 0
      · simp only [h, if_true] <;> omega
      · simp only [h, if_false] <;> omega
theorem slicePick_cut (its : List Value) (lo hi : Option Int) : slicePick its.toArray lo hi none = ((its.drop (HT.sIx its.length 0 lo)).take (HT.sIx its.length its.length hi - HT.sIx its.length 0 lo)).toArray := by
  obtain ⟨h1, h2, h3⟩ := slice_bounds lo hi its.toArray.size
  unfold slicePick
  rw [h1, h2, h3]
  simp only [sliceRange_one, pick_run, List.size_toArray] <;> rfl
/-- xs[lo:hi] of a list: a new list -/
def rSlL (K : PySem.W.Frag) : V → Option Int → Option Int → Hp → VK → Prop := fun x lo hi H Q => ∃ a xs, x = .ref a ∧ SqL K H a xs ∧ ∀ p, H p = none → Q (.ref p) (upd H p (.lst (cutV xs lo hi)))
theorem sl_list : SlR X (rSlL X.K) := by
  intro pins s σ H x v vl vu lo hi sl Q I rx hs pl pu h
  obtain ⟨a, xs, rfl, hx, q⟩ := h
  cases rx
  obtain ⟨its, r, ht, hz⟩ := I.list hx
  have hlen := r.length
  refine ⟨"list", _, slot_list_getitem.lookup, ht.isList.typeIs, ?_⟩
  refine wpAny_getItem_list_slice ht.isList hs pl pu .none (by simp) ?_ (by rw [List.size_toArray] <;> omega)
  rw [slicePick_cut, ← hlen]
  refine ⟨.ref s.heap.objs.size, _, I.laid (t' := s.toks) (o := .lst (cutV xs lo hi)) (fun b ob q => Heap.get?_push_of_some _ q) (Nat.le_refl _) ?_, rfl, q _ (I.hok.fresh (Nat.le_refl _))⟩
  exact ⟨Nat.le_trans (cutV_length xs lo hi) hz, _, 0, (r.drop (HT.sIx xs.length 0 lo)).take (HT.sIx xs.length xs.length hi - HT.sIx xs.length 0 lo), Heap.get?_push_size _ rfl⟩
def flatV : V → Bool
  | .non => true
  | .bl _ => true
  | .int _ => true
  | .str _ => true
  | _ => false
/-- == of flat values -/
def eqV : V → V → Bool
  | .non, .non => true
  | .bl a, .bl b => a == b
  | .bl a, .int b => (if a then 1 else 0) == b
  | .int a, .bl b => a == (if b then 1 else 0)
  | .int a, .int b => a == b
  | .str a, .str b => a == b
  | _, _ => false
theorem eqAt_V {A : Around} {s : Shared} {y x : V} {u v : Value} (ry : RelV y u) (rx : RelV x v) (fy : flatV y = true) (fx : flatV x = true) : SeqAt.EqAt A s u v (eqV y x) := by
  cases y with
  | non =>
    cases ry
    cases x with
    | non => cases rx; exact SeqAt.EqAt.same _
    | bl b => cases rx; exact SeqAt.EqAt.none_bool b
    | int b => obtain ⟨t, rfl⟩ := rx; exact SeqAt.EqAt.none_int b t
    | str b => obtain ⟨t, rfl⟩ := rx; exact SeqAt.EqAt.none_str b t
    | _ => exact absurd (show false = true from fx) Bool.false_ne_true
  | bl a =>
    cases ry
    cases x with
    | non => cases rx; exact SeqAt.EqAt.bool_none a
    | bl b => cases rx; exact SeqAt.EqAt.bool_bool a b
    | int b => obtain ⟨t, rfl⟩ := rx; exact SeqAt.EqAt.bool_int a b t
    | str b => obtain ⟨t, rfl⟩ := rx; exact SeqAt.EqAt.bool_str a b t
    | _ => exact absurd (show false = true from fx) Bool.false_ne_true
  | int a =>
    obtain ⟨t', rfl⟩ := ry
    cases x with
    | non => cases rx; exact SeqAt.EqAt.int_none a t'
    | bl b => cases rx; exact SeqAt.EqAt.int_bool a t' b
    | int b => obtain ⟨t, rfl⟩ := rx; exact SeqAt.EqAt.int_int a t' b t
    | str b => obtain ⟨t, rfl⟩ := rx; exact SeqAt.EqAt.int_str a t' b t
    | _ => exact absurd (show false = true from fx) Bool.false_ne_true
  | str a =>
    obtain ⟨t', rfl⟩ := ry
    cases x with
    | non => cases rx; exact SeqAt.EqAt.str_none a t'
    | bl b => cases rx; exact SeqAt.EqAt.str_bool a t' b
    | int b => obtain ⟨t, rfl⟩ := rx; exact SeqAt.EqAt.str_int a t' b t
    | str b => obtain ⟨t, rfl⟩ := rx; exact SeqAt.EqAt.str_str a t' b t
    | _ => exact absurd (show false = true from fx) Bool.false_ne_true
  | _ => exact absurd (show false = true from fy) Bool.false_ne_true
/-- the items' answers, read off the values (a value's own answer does not lean on its token) -/
def eqU (x : V) (u : Value) : Bool := match u with
  | .none => eqV .non x
  | .bool b => eqV (.bl b) x
  | .int i _ => eqV (.int i) x
  | .str z _ => eqV (.str z) x
  | _ => false
theorem eqU_of {x y : V} {u : Value} (r : RelV y u) (f : flatV y = true) : eqU x u = eqV y x := by
  cases y with
  | non => cases r; rfl
  | bl b => cases r; rfl
  | int i => obtain ⟨t, rfl⟩ := r; rfl
  | str z => obtain ⟨t, rfl⟩ := r; rfl
  | _ => exact absurd (show false = true from f) Bool.false_ne_true
theorem any_eqU {x : V} : ∀ {xs : List V} {us : List Value}, Vals xs us → xs.all flatV = true → us.any (eqU x) = xs.any fun y => eqV y x
  | _, _, .nil, _ => rfl
  | y :: xs, u :: us, .cons r t, f => by
    rw [List.all_cons, Bool.and_eq_true] at f
    rw [List.any_cons, List.any_cons, eqU_of r f.1, any_eqU t f.2]
theorem mem_eqAt {A : Around} {s : Shared} {x : V} {v : Value} (rx : RelV x v) (fx : flatV x = true) : ∀ {xs : List V} {us : List Value}, Vals xs us → xs.all flatV = true → ∀ u ∈ us, SeqAt.EqAt A s u v (eqU x u)
  | _, _, .nil, _ => fun u hu => by cases hu
  | y :: xs, u :: us, .cons r t, f => fun u' hu => by
    rw [List.all_cons, Bool.and_eq_true] at f
    rcases List.mem_cons.mp hu with rfl | hu
    · rw [eqU_of r f.1]; exact eqAt_V r rx f.1 fx
    · exact mem_eqAt rx fx t f.2 u' hu
def inV (x : V) (xs : List V) : Bool := xs.any fun y => eqV y x
/-- x in a list or tuple of flat items -/
def rIn (K : PySem.W.Frag) (neg : Bool) : R2 := fun x y H Q => ∃ p xs, y = .ref p ∧ (SqL K H p xs ∨ SqT K H p xs) ∧ flatV x = true ∧ xs.all flatV = true ∧ Q (.bl (if neg then !inV x xs else inV x xs)) H
theorem op_in_seq : OpR X (compareOp .In) (rIn X.K false) := by
  intro pins s σ H x y v u Q I rx ry h
  obtain ⟨p, xs, rfl, hq, fx, fs, q⟩ := h
  cases ry
  rcases hq with hq | hq
  · obtain ⟨its, r, pl, hz⟩ := I.list hq
    refine SeqAt.in_listAt (eqU x) pl.isList (fun w hw => mem_eqAt rx fx r fs w (by simpa using hw)) ⟨.bl _, H, I, rfl, ?_⟩
    rw [show its.toArray.any (eqU x) = its.any (eqU x) by simp, any_eqU r fs]
    exact q
  · obtain ⟨its, r, pl, hz⟩ := I.tuple hq
    refine SeqAt.in_tupleAt (eqU x) pl (fun w hw => mem_eqAt rx fx r fs w (by simpa using hw)) ⟨.bl _, H, I, rfl, ?_⟩
    rw [show its.toArray.any (eqU x) = its.any (eqU x) by simp, any_eqU r fs]
    exact q
theorem op_notIn_seq : OpR X (compareOp .NotIn) (rIn X.K true) := by
  intro pins s σ H x y v u Q I rx ry h
  obtain ⟨p, xs, rfl, hq, fx, fs, q⟩ := h
  cases ry
  rcases hq with hq | hq
  · obtain ⟨its, r, pl, hz⟩ := I.list hq
    refine SeqAt.notIn_listAt (eqU x) pl.isList (fun w hw => mem_eqAt rx fx r fs w (by simpa using hw)) ⟨.bl _, H, I, rfl, ?_⟩
    rw [show its.toArray.any (eqU x) = its.any (eqU x) by simp, any_eqU r fs]
    exact q
  · obtain ⟨its, r, pl, hz⟩ := I.tuple hq
    refine SeqAt.notIn_tupleAt (eqU x) pl (fun w hw => mem_eqAt rx fx r fs w (by simpa using hw)) ⟨.bl _, H, I, rfl, ?_⟩
    rw [show its.toArray.any (eqU x) = its.any (eqU x) by simp, any_eqU r fs]
    exact q
theorem call_len_seq : CallR X (.builtin "len") (fun xs H Q => ∃ p ys, xs = [.ref p] ∧ (SqL X.K H p ys ∨ SqT X.K H p ys) ∧ Q (.int ys.length) H) := by
  intro pins s σ H xs us Q I r h
  obtain ⟨p, ys, rfl, hq, q⟩ := h
  obtain ⟨u, rfl, rx⟩ := vals1 r
  cases rx
  have hn := line63
  rcases hq with hq | hq
  · obtain ⟨its, r', pl, hz⟩ := I.list hq
    have hlen := r'.length
    exact Calls.call_len_list pl.isList (by simp only [List.size_toArray] <;> omega) ⟨.int ys.length, H, I.tok _, ⟨s.toks + 1, by rw [List.size_toArray, hlen]⟩, q⟩
  · obtain ⟨its, r', pl, hz⟩ := I.tuple hq
    have hlen := r'.length
    exact len_tuple pl (by simp only [List.size_toArray] <;> omega) ⟨.int ys.length, H, I.tok _, ⟨s.toks + 1, by rw [List.size_toArray, hlen]⟩, q⟩
/-- the value is of that builtin type -/
def tyV (K : PySem.W.Frag) (T : String) (x : V) (H : Hp) : Prop := match x with
  | .str _ => T = "str"
  | .int _ => T = "int"
  | .ref p => (T = "list" ∧ ∃ xs, SqL K H p xs) ∨ (T = "tuple" ∧ ∃ o, K.lookup p = some o ∧ o.cls = .type "tuple" ∧ o.dict = none) ∨
      (T = "dict" ∧ ((∃ kvs, H p = some (.dK kvs)) ∨ ∃ kvs, H p = some (.dT kvs))) ∨ (T = "set" ∧ ∃ S n, H p = some (.set S n))
  | _ => False
theorem tyV_is {pins : List (Addr × Obj)} {σ : St} {H : Hp} {s : Shared} {T : String} {x : V} {v : Value} (I : Inv X pins σ H s) (r : RelV x v) (ty : tyV X.K T x H) :
    s.TypeIs v T ∧ ∀ a, v = .ref a → ∃ ob, s.heap.get? a = some ob ∧ ob.dict = none := by
  cases x with
  | str z =>
    obtain ⟨t, rfl⟩ := r
    cases (show T = "str" from ty)
    exact ⟨typeIs_str s z t, fun _ e => nomatch e⟩
  | int i =>
    obtain ⟨t, rfl⟩ := r
    cases (show T = "int" from ty)
    exact ⟨typeIs_int s i t, fun _ e => nomatch e⟩
  | ref p =>
    cases r
    rcases ty with ⟨rfl, xs, hq⟩ | ⟨rfl, o, hk, hc, hd⟩ | ⟨rfl, hk⟩ | ⟨rfl, S, n, hk⟩
    · obtain ⟨its, _, pl, _⟩ := I.list hq
      refine ⟨pl.isList.typeIs, fun a e => ?_⟩
      cases e
      obtain ⟨o, n, e, c, hd, _⟩ := pl
      exact ⟨o, e, hd⟩
    · refine ⟨⟨o, I.kIn p o hk, hc⟩, fun a e => ?_⟩
      cases e
      exact ⟨o, I.kIn _ o hk, hd⟩
    · have z : ∃ o, s.heap.get? p = some o ∧ o.ExactDict := by
        rcases hk with ⟨kvs, hk⟩ | ⟨kvs, hk⟩
        · obtain ⟨_, _, _, _, o, _, _, e, ex, _⟩ := I.hok p _ hk
          exact ⟨o, e, ex⟩
        · obtain ⟨_, _, _, _, o, _, _, e, ex, _⟩ := I.hok p _ hk
          exact ⟨o, e, ex⟩
      obtain ⟨o, e, ex⟩ := z
      refine ⟨⟨o, e, ex.1⟩, fun a e2 => ?_⟩
      cases e2
      exact ⟨o, e, ex.2.1⟩
    · obtain ⟨o, _, _, _, e, ex, _⟩ := I.hok p _ hk
      refine ⟨⟨o, e, ex.1⟩, fun a e2 => ?_⟩
      cases e2
      exact ⟨o, e, ex.2.1⟩
  | _ => exact False.elim ty
def tBM0 (K : PySem.W.Frag) (T : String) (r : V → List V → Hp → VK → Prop) (to : TE) : TE := fun σ H Q => to σ H fun x H1 => tyV K T x H1 ∧ r x [] H1 Q
def tBM (K : PySem.W.Frag) (T : String) (r : V → List V → Hp → VK → Prop) (to : TE) (t : TA) : TE := fun σ H Q => to σ H fun x H1 => tyV K T x H1 ∧ t σ H1 fun xs H2 => r x xs H2 Q
variable {o e : Expr} {es : List Expr} {to : TE} {t : TA} {name : Str} {apos cpos : Pos} {T id : String} {r : V → List V → Hp → VK → Prop}
theorem pe_bm0 (pa : PlainAttrs T) (slot : Slot T name id) (hty : typeOf (.builtin id) = pure (.type "method_descriptor")) (hm : MtR X id r) (ho : PE X o to)
    (hbase : attributeBase o name X.env (eval o X.env) = eval o X.env := by rfl) (hline : (apos.endLine == cpos.line) = true := by rfl) : PE X (.Call (.Attribute o name apos) [] [] cpos) (tBM0 X.K T r to) := by
  intro pins s σ H Q I h
  refine wpAny_Call_method0_late hbase hline (thn (ho pins s σ H _ I h) fun v s1 ⟨x, H1, I1, r1, ty, q1⟩ => ?_)
  obtain ⟨h1, h2⟩ := tyV_is I1 r1 ty
  exact ⟨T, id, pa, slot, hty, h1, h2, Calls.callWith_builtin rfl (PySem.evalArgs_none (hm pins s1 σ H1 x [] v [] Q I1 r1 .nil q1))⟩
theorem pe_bm (pa : PlainAttrs T) (slot : Slot T name id) (hty : typeOf (.builtin id) = pure (.type "method_descriptor")) (hm : MtR X id r) (ho : PE X o to) (ha : PA X (e :: es) t)
    (hbase : attributeBase o name X.env (eval o X.env) = eval o X.env := by rfl)
    (hfew : ((backTo cpos (starEach (e :: es) X.env)).all (fun x => !x.1) && (backToKw cpos (keywordEach [] X.env)).all (fun x => x.1.isSome)
      && decide ((e :: es).length + ([] : List Keyword).length + (if ([] : List Keyword).isEmpty then 0 else 1) < 30)) = true := by rfl)
    (hline : (apos.endLine == cpos.line) = true := by rfl) (hs : starEach (e :: es) X.env = (false, eval e X.env) :: starEach es X.env := by rfl) (hplain : (backTo cpos (starEach es X.env)).any (·.1) = false := by rfl) :
    PE X (.Call (.Attribute o name apos) (e :: es) [] cpos) (tBM X.K T r to t) := by
  intro pins s σ H Q I h
  refine wpAny_Call_method_late hbase hfew hline rfl (thn (ho pins s σ H _ I h) fun v s1 ⟨x, H1, I1, r1, ty, q1⟩ => ?_)
  obtain ⟨h1, h2⟩ := tyV_is I1 r1 ty
  refine ⟨T, id, pa, slot, hty, h1, h2, ?_⟩
  have hA := ha cpos pins s1 σ H1 _ I1 q1
  rw [hs] at hA ⊢
  refine Calls.callWith_builtin (by show (false || (backTo cpos (starEach es X.env)).any (·.1)) = false; rw [hplain] <;> rfl) (Calls.evalArgs_plain ?_)
  exact thn hA fun us s2 ⟨vs, H2, I2, r2, q2⟩ => hm pins s2 σ H2 x vs v us Q I2 r1 r2 q2
/- xs.append(e), list.index on a module's tuple .. are MtR facts of 06m -/
end
end L2
namespace L2
open PySem PySem.Spec PyProof.Rows
def MtM (X : Cx) (id : String) (r : V → List V → Hp → VK → Prop) : Prop :=
  ∀ (pins : List (Addr × Obj)) (s : Shared) (σ : St) (H : Hp) (x : V) (xs : List V) (v : Value) (us : List Value) (Q : VK), Inv X pins σ H s → RelV x v → Vals xs us → r x xs H Q →
    wpAny (model X.prog X.w) X.A (call (.builtin id) (v :: us)) (EP X pins σ Q) X.xe s
theorem Vals.one : ∀ {x : V} {us : List Value}, Vals [x] us → ∃ u, us = [u] ∧ RelV x u
  | _, _, .cons r .nil => ⟨_, rfl, r⟩
theorem Vals.zero : ∀ {us : List Value}, Vals [] us → us = []
  | _, .nil => rfl
theorem Vals.dropLast {xs : List V} {us : List Value} (h : Vals xs us) : Vals xs.dropLast us.dropLast := by
  induction h with
  | nil => exact .nil
  | cons r t ih =>
    cases t with
    | nil => exact .nil
    | cons q t' => exact .cons r ih
theorem Vals.rep {xs : List V} {us : List Value} (h : Vals xs us) : ∀ k : Nat, Vals (List.replicate k xs).flatten (List.replicate k us).flatten
  | 0 => .nil
  | k + 1 => by
    rw [List.replicate_succ, List.replicate_succ, List.flatten_cons, List.flatten_cons]
    exact Vals.append h (Vals.rep h k)
theorem erase_last {α : Type} (l : List α) : l.eraseIdx (l.length - 1) = l.dropLast := by
  induction l with
  | nil => rfl
  | cons a r ih =>
    cases r with
    | nil => rfl
    | cons b r =>
      have e : (a :: b :: r).length - 1 = ((b :: r).length - 1) + 1 := by
        have h1 : (a :: b :: r).length = r.length + 2 := rfl
        have h2 : (b :: r).length = r.length + 1 := rfl
        omega
      rw [e, List.eraseIdx_cons_succ, ih]
      all_goals rfl
theorem foldl_rep (its : List Value) : ∀ (k : Nat) (acc : List Value),
    List.foldl (fun x1 x2 => x1 ++ x2) acc.toArray (List.replicate k its.toArray) = (acc ++ (List.replicate k its).flatten).toArray
  | 0, acc => by simp
  | k + 1, acc => by
    have e : acc.toArray ++ its.toArray = (acc ++ its).toArray := by simp
    have e2 : (acc ++ its) ++ (List.replicate k its).flatten = acc ++ (List.replicate (k + 1) its).flatten := by
      rw [List.replicate_succ, List.flatten_cons, List.append_assoc]
    rw [← e2, ← foldl_rep its k (acc ++ its), ← e, List.replicate_succ, List.foldl_cons]
section
variable {X : Cx} {pins : List (Addr × Obj)} {σ : St} {H : Hp} {s : Shared} {l b : Addr} {xs ys zs : List V}
theorem Inv.lset {its its' : List Value} {n : Nat} {f : Array Value → Array Value} {t' : Nat} (I : Inv X pins σ H s) (hH : H l = some (.lst xs))
    (e : s.heap.get? l = some { cls := .type "list", data := .seq its.toArray n }) (hf : f its.toArray = its'.toArray) (hv : Vals ys its') (hz : ys.length ≤ sizeLine) :
    Inv X pins σ (upd H l (.lst ys)) { s with heap := s.heap.update l (Obj.mapSeq f), toks := t' } := by
  have q := PySem.IsL.update e f
  rw [hf] at q
  refine I.write (x := l) (e := l) (by rw [hH]; exact trivial) (.inl rfl) (fun b' u hb hu => (Heap.get?_update_other s.heap (Obj.mapSeq f) (Ne.symm hb)).trans hu) ⟨_, q⟩ ?_
  exact ⟨hz, its', _, hv, q⟩
theorem Inv.lnew {its : List Value} {t' : Nat} (I : Inv X pins σ H s) (hv : Vals ys its) (hz : ys.length ≤ sizeLine) :
    Inv X pins σ (upd H s.heap.objs.size (.lst ys)) { s with heap := s.heap.push { cls := .type "list", data := .seq its.toArray }, toks := t' } :=
  I.laid (fun _ _ q => Heap.get?_push_of_some _ q) (Nat.le_refl _) ⟨hz, its, 0, hv, Heap.get?_push_size _ rfl⟩
theorem Inv.fresh (I : Inv X pins σ H s) : H s.heap.objs.size = none := I.hok.fresh (Nat.le_refl _)
theorem Inv.lstM (I : Inv X pins σ H s) (hH : H l = some (.lst xs)) : xs.length ≤ sizeLine ∧ ∃ (its : List Value) (n : Nat), Vals xs its ∧ xs.length = its.length ∧ s.heap.get? l = some { cls := .type "list", data := .seq its.toArray n } := by
  obtain ⟨z, its, n, r, e⟩ := I.hok l _ hH
  exact ⟨z, its, n, r, r.length, e⟩
theorem notLongL {n : Nat} (h : n ≤ sizeLine) : Builtin.List.listTooLong n = false := by
  unfold Builtin.List.listTooLong
  exact decide_eq_false (by omega)
end
section
variable {X : Cx}
def rAppend : V → List V → Hp → VK → Prop := fun x vs H Q => ∃ l xs y, x = .ref l ∧ vs = [y] ∧ H l = some (.lst xs) ∧ xs.length < sizeLine ∧ Q .non (upd H l (.lst (xs ++ [y])))
theorem mt_append : MtM X "list.append" rAppend := by
  intro pins s σ H x vs v us Q I rx rv h
  obtain ⟨l, xs, y, rfl, rfl, hH, hz, q⟩ := h
  cases rx
  obtain ⟨u, rfl, ru⟩ := rv.one
  obtain ⟨z, its, n, r, hl, e⟩ := I.lstM hH
  refine call_meets F.slot_list_append ⟨_, e, rfl⟩ F.entry_list_append (F.args_list_append_2 _ _) (PySem.list_append l its.toArray n u (by rw [List.size_toArray]; omega)) ⟨e, ?_⟩
  refine ⟨.non, _, I.lset (its' := its ++ [u]) hH e (by simp) (r.append (.cons ru .nil)) ?_, rfl, q⟩
  rw [List.length_append, List.length_singleton]
  omega
def rExtend : V → List V → Hp → VK → Prop := fun x vs H Q => ∃ l b xs zs, x = .ref l ∧ vs = [.ref b] ∧ H l = some (.lst xs) ∧ H b = some (.lst zs) ∧ xs.length + zs.length ≤ sizeLine ∧ Q .non (upd H l (.lst (xs ++ zs)))
theorem mt_extend : MtM X "list.extend" rExtend := by
  intro pins s σ H x vs v us Q I rx rv h
  obtain ⟨l, b, xs, zs, rfl, rfl, hH, hB, hz, q⟩ := h
  cases rx
  obtain ⟨u, rfl, ru⟩ := rv.one
  cases ru
  obtain ⟨z, its, n, r, hl, e⟩ := I.lstM hH
  obtain ⟨z2, its2, n2, r2, hl2, e2⟩ := I.lstM hB
  have hsz : its.toArray.size + its2.toArray.size ≤ sizeLine := by rw [List.size_toArray, List.size_toArray]; omega
  have hlong : ¬ (!its.toArray.isEmpty && Builtin.List.listTooLong (its.toArray.size + its2.toArray.size)) = true := by
    rw [notLongL hsz, Bool.and_false]
    exact Bool.false_ne_true
  refine call_meets F.slot_list_extend ⟨_, e, rfl⟩ F.entry_list_extend (F.args_list_extend_2 _ _)
    (AutoSeq1.list_extend_list_list_0 l its.toArray n b its2.toArray n2 hlong (by rw [List.size_toArray]; omega) (by omega)) ⟨e, e2, ?_⟩
  refine ⟨.non, _, I.lset (its' := its ++ its2) hH e (by simp) (r.append r2) ?_, rfl, q⟩
  rw [List.length_append]
  omega
def rPop : V → List V → Hp → VK → Prop := fun x vs H Q => ∃ l xs y, x = .ref l ∧ vs = [] ∧ H l = some (.lst xs) ∧ xs[xs.length - 1]? = some y ∧ Q y (upd H l (.lst xs.dropLast))
theorem mt_pop : MtM X "list.pop" rPop := by
  intro pins s σ H x vs v us Q I rx rv h
  obtain ⟨l, xs, y, rfl, rfl, hH, hy, q⟩ := h
  cases rx
  have hus := rv.zero
  subst hus
  obtain ⟨z, its, n, r, hl, e⟩ := I.lstM hH
  obtain ⟨u, hu, ru⟩ := r.get hy
  have hy' : its.toArray[its.toArray.size - 1]? = some u := by
    show its.toArray[its.length - 1]? = some u
    rw [← Array.getElem?_toList, ← hl]
    exact hu
  refine call_meets F.slot_list_pop ⟨_, e, rfl⟩ F.entry_list_pop (F.args_list_pop_1 _) (MeetsSeq.list_pop_last l its.toArray n u hy' (by rw [List.size_toArray]; omega)) ⟨e, ?_⟩
  refine ⟨y, _, I.lset (its' := its.dropLast) hH e ?_ r.dropLast ?_, ru, q⟩
  · show its.toArray.eraseIdxIfInBounds (its.toArray.size - 1) = its.dropLast.toArray
    rw [List.size_toArray, List.eraseIdxIfInBounds_toArray, erase_last]
  · rw [List.length_dropLast]
    omega
def rCat : R2 := fun x y H Q => ∃ l b xs zs, x = .ref l ∧ y = .ref b ∧ H l = some (.lst xs) ∧ H b = some (.lst zs) ∧ xs.length + zs.length ≤ sizeLine ∧ ∀ p, H p = none → Q (.ref p) (upd H p (.lst (xs ++ zs)))
theorem op_cat : OpR X (binaryOp .Add) rCat := by
  intro pins s σ H x y v u Q I rx ry h
  obtain ⟨l, b, xs, zs, rfl, rfl, hH, hB, hz, q⟩ := h
  cases rx
  cases ry
  obtain ⟨z, its, n, r, hl, e⟩ := I.lstM hH
  obtain ⟨z2, its2, n2, r2, hl2, e2⟩ := I.lstM hB
  refine PySem.P.add_list e e2 ?_ (by rw [List.size_toArray, List.size_toArray]; omega)
  have ea : its.toArray ++ its2.toArray = (its ++ its2).toArray := by simp
  rw [ea]
  exact ⟨.ref _, _, I.lnew (t' := s.toks) (r.append r2) (by rw [List.length_append]; omega), rfl, q _ I.fresh⟩
/-- a list times an int (a negative one is nothing) -/
def rRep : R2 := fun x y H Q => ∃ l k xs, x = .ref l ∧ y = .int k ∧ H l = some (.lst xs) ∧ -(2 ^ 63) ≤ k ∧ k < 2 ^ 63 ∧ xs.length * k.toNat ≤ sizeLine ∧
  ∀ p, H p = none → Q (.ref p) (upd H p (.lst (List.replicate k.toNat xs).flatten))
theorem len_rep {α : Type} (xs : List α) (k : Nat) : (List.replicate k xs).flatten.length = k * xs.length := by
  induction k with
  | zero => simp
  | succ k ih => rw [List.replicate_succ, List.flatten_cons, List.length_append, ih, Nat.succ_mul, Nat.add_comm]
theorem op_rep : OpR X (binaryOp .Mult) rRep := by
  intro pins s σ H x y v u Q I rx ry h
  obtain ⟨l, k, xs, rfl, rfl, hH, h1, h2, hz, q⟩ := h
  cases rx
  obtain ⟨t, rfl⟩ := ry
  obtain ⟨z, its, n, r, hl, e⟩ := I.lstM hH
  have hlen : its.toArray.size * k.toNat ≤ sizeLine := by rw [List.size_toArray, ← hl]; exact hz
  have hcap : ¬ its.toArray.size * k.toNat > (2 ^ 63 - 1) / 8 := by
    have : (sizeLine : Nat) ≤ (2 ^ 63 - 1) / 8 := by decide
    omega
  have hfit : ¬ (!Builtin.List.listFitsIndex k) = true := by
    rw [fitsIndex_both h1 h2]
    exact Bool.false_ne_true
  have hlong : ¬ Builtin.List.listTooLong (its.toArray.size * k.toNat) = true := by
    rw [notLongL hlen]
    exact Bool.false_ne_true
  have hnew : List.foldl (fun x1 x2 => x1 ++ x2) #[] (List.replicate (if its.toArray.isEmpty = true then 0 else k.toNat) its.toArray) = (List.replicate k.toNat its).flatten.toArray := by
    have f0 : ∀ m : Nat, List.foldl (fun x1 x2 => x1 ++ x2) #[] (List.replicate m its.toArray) = (List.replicate m its).flatten.toArray := fun m => by
      have := foldl_rep its m []
      rw [List.nil_append] at this
      exact this
    rw [f0]
    cases its with
    | nil => simp
    | cons a r' => rw [if_neg (by simp)]
  refine wpAny_binaryOp_repeat_ref (T := "list") (U := "int") (by decide) ⟨_, e, rfl⟩ (fun s' => typeIs_int s' k t) noFill_list_mul F.fills_int_mul F.slot_int_rmul repeat_list F.slot_int_index.lookup
    (call_meets F.slot_int_rmul (typeIs_int s k t) F.entry_int_rmul (F.args_int_rmul_2 _ _) (int___rmul___int_list k t l its.toArray n)
      ⟨e, rfl, ⟨_, e, rfl⟩, call_meets F.slot_list_mul ⟨_, e, rfl⟩ F.entry_list_mul (F.args_list_mul_2 _ _) (AutoListH.list___mul___list_int_3 l its.toArray n k t hfit hcap hlong) ⟨e, ?_⟩⟩)
  rw [hnew]
  exact ⟨.ref _, _, I.lnew (t' := s.toks) (r.rep k.toNat) (by rw [len_rep, Nat.mul_comm]; exact hz), rfl, q _ I.fresh⟩
end
section
variable {prog : Program} {w : World} {A : Around} {E : Value → Shared → Prop} {s : Shared}
set_option maxRecDepth 100000 in
end
end L2
namespace L2
open PySem PySem.Spec PyProof.Rows
section
variable {X : Cx}
def rIndex (K : PySem.W.Frag) : V → List V → Hp → VK → Prop := fun x xs H Q => ∃ (a : Addr) (ys : List V) (y : V) (j : Nat) (z : V), x = V.ref a ∧ xs = [y] ∧ SqL K H a ys ∧ flatV y = true ∧ ys.all flatV = true ∧ ys[j]? = some z ∧ eqV z y = true ∧
  (∀ (m : Nat) (z' : V), m < j → ys[m]? = some z' → eqV z' y = false) ∧ Q (.int (j : Nat)) H
theorem flat_at {ys : List V} (f : ys.all flatV = true) {j : Nat} {z : V} (h : ys[j]? = some z) : flatV z = true := List.all_eq_true.mp f z (List.mem_of_getElem? h)
theorem mt_index : MtR X "list.index" (rIndex X.K) := by
  intro pins s σ H x xs v us Q I rx rxs h
  obtain ⟨a, ys, y, j, z, rfl, rfl, hs, fy, fys, hz, hzj, hno, q⟩ := h
  cases rx
  cases rxs with
  | cons ry rt =>
    rename_i uy ut
    cases rt
    obtain ⟨its, rv, ⟨⟨cls, dd, data, sl⟩, n, ho, hc, hdn, hd⟩, hlen⟩ := I.list hs
    simp only at hc hd
    subst hc hd
    obtain ⟨u, hu, ru⟩ := rv.get hz
    obtain ⟨hjl, hje⟩ := List.getElem?_eq_some_iff.mp hu
    have hvl := rv.length
    have hj : j < its.toArray.size := by simpa using hjl
    have hsl := sizeLine_eq
    refine call_meets PySem.F.slot_list_index ⟨_, ho, rfl⟩ PySem.F.entry_list_index (PySem.F.args_list_index_2 _ _)
      (SeqAt.list_indexAt a its.toArray n dd sl uy (eqU y) j hj (by omega) ?_ ?_) ⟨ho, fun u' hu' => mem_eqAt ry fy rv fys u' (by simpa using hu'), ?_⟩
    · have e1 : its.toArray[j] = u := by simpa using hje
      rw [e1, eqU_of ru (flat_at fys hz)]
      exact hzj
    · intro m hm hmj
      have hml : m < its.length := by simpa using hm
      have hmy : m < ys.length := by omega
      have hy' : ys[m]? = some ys[m] := List.getElem?_eq_getElem hmy
      obtain ⟨u2, hu2, ru2⟩ := rv.get hy'
      obtain ⟨_, hme⟩ := List.getElem?_eq_some_iff.mp hu2
      have e1 : its.toArray[m] = u2 := by simpa using hme
      rw [e1, eqU_of ru2 (flat_at fys hy')]
      exact hno m _ hmj hy'
    · exact ⟨.int (j : Nat), H, I.tok _, ⟨_, rfl⟩, q⟩
end
end L2
namespace L2
open PySem PySem.Spec PyProof.Rows
abbrev CellAt (h : Heap) (c : Addr) (v : Option Value) : Prop := h.IsCell c v
def relS (scope sc : Scope) : Scope :=
  { scope with names := scope.names.map fun (n, k) => if (k == .free && sc.kind == .function && sc.names.lookup n == some .cell) then (n, .cell) else (n, k) }
def cloFrom (cells : List (Str × Addr)) : List (Str × NameKind) → List (Str × Addr) → List (Str × Addr)
  | [], acc => acc
  | (n, k) :: r, acc => if k == .free then cloFrom cells r ((n, (cells.lookup n).getD 0) :: acc) else cloFrom cells r acc
theorem closure_loop (env : Env) (f : Str × NameKind → List (Str × Addr) → Sem (ForInStep (List (Str × Addr))))
    (hf : ∀ n k c, f (n, k) c = if k == .free then (do let a ← cellOf env n; pure (.yield ((n, a) :: c))) else pure (.yield c)) :
    ∀ (names : List (Str × NameKind)) (acc : List (Str × Addr)), (∀ y ∈ names, y.2 = .free → ∃ c, env.cells.lookup y.1 = some c) → forIn names acc f = pure (cloFrom env.cells names acc)
  | [], acc, _ => by rw [List.forIn_nil]; rfl
  | (n, k) :: r, acc, h => by
    rw [List.forIn_cons, hf]
    have ih := fun acc => closure_loop env f hf r acc fun y hy => h y (List.mem_cons_of_mem _ hy)
    unfold cloFrom
    by_cases hk : (k == NameKind.free) = true
    · rw [if_pos hk, if_pos hk]
      obtain ⟨c, hc⟩ := h (n, k) List.mem_cons_self (by simpa using hk)
      have e : cellOf env n = pure c := by unfold cellOf; rw [hc]
      rw [e]
      have e2 : (env.cells.lookup n).getD 0 = c := by rw [hc]; rfl
      rw [e2]
      exact ih _
    · rw [if_neg hk, if_neg hk]
      exact ih _
theorem closure_ok {scope : Scope} {env : Env} (h : ∀ y ∈ scope.names, y.2 = .free → ∃ c, env.cells.lookup y.1 = some c) : closureFor scope env = pure (cloFrom env.cells scope.names []) := by
  simp only [closureFor]
  rw [closure_loop env _ (fun n k c => rfl) scope.names [] h]
  rfl
theorem mem_lookup {α : Type} : ∀ {l : List (Str × α)} {n : Str} {c : α}, (n, c) ∈ l → ∃ c', l.lookup n = some c'
  | (k, v) :: r, n, c, h => by
    rw [List.lookup_cons]
    cases hb : n == k with
    | true => exact ⟨_, rfl⟩
    | false =>
      rcases List.mem_cons.mp h with e | h
      · cases e; simp at hb
      · exact mem_lookup h
theorem cloFrom_mem {cells : List (Str × Addr)} : ∀ {names : List (Str × NameKind)} {acc : List (Str × Addr)} {n : Str} {c : Addr}, (n, c) ∈ cloFrom cells names acc → (n, c) ∈ acc ∨ ((n, .free) ∈ names ∧ c = (cells.lookup n).getD 0)
  | [], _, _, _, h => .inl h
  | (m, k) :: r, acc, n, c, h => by
    unfold cloFrom at h
    split at h
    · rename_i hk
      have hk : k = .free := by simpa using hk
      rcases cloFrom_mem h with h | ⟨h1, h2⟩
      · rcases List.mem_cons.mp h with e | h
        · cases e; exact .inr ⟨hk ▸ List.mem_cons_self, rfl⟩
        · exact .inl h
      · exact .inr ⟨List.mem_cons_of_mem _ h1, h2⟩
    · rcases cloFrom_mem h with h | ⟨h1, h2⟩
      · exact .inl h
      · exact .inr ⟨List.mem_cons_of_mem _ h1, h2⟩
theorem cloFrom_acc {cells : List (Str × Addr)} : ∀ {names : List (Str × NameKind)} {acc : List (Str × Addr)} {p : Str × Addr}, p ∈ acc → p ∈ cloFrom cells names acc
  | [], _, _, h => h
  | (m, k) :: r, acc, p, h => by
    unfold cloFrom
    split
    · exact cloFrom_acc (List.mem_cons_of_mem _ h)
    · exact cloFrom_acc h
theorem cloFrom_has {cells : List (Str × Addr)} : ∀ {names : List (Str × NameKind)} {acc : List (Str × Addr)} {n : Str}, (n, .free) ∈ names → (n, (cells.lookup n).getD 0) ∈ cloFrom cells names acc
  | (m, k) :: r, acc, n, h => by
    unfold cloFrom
    rcases List.mem_cons.mp h with e | h
    · cases e
      exact cloFrom_acc List.mem_cons_self
    · split
      · exact cloFrom_has h
      · exact cloFrom_has h
theorem cells_mem : ∀ {names : List (Str × NameKind)} {h : Heap} {acc : List (Str × Addr)} {x : Str} {c : Addr}, (x, c) ∈ cellsFrom h.objs.size names acc →
    (x, c) ∈ acc ∨ ((x, .cell) ∈ names ∧ h.objs.size ≤ c ∧ CellAt (pushCells h names) c none)
  | [], _, _, _, _, h => .inl h
  | (n, k) :: r, h, acc, x, c, hm => by
    unfold cellsFrom at hm
    unfold pushCells
    split at hm
    · rename_i hk
      rw [if_pos hk]
      have hk : k = .cell := by simpa using hk
      rw [← Heap.size_push h { cls := .type "cell", data := .cell none }] at hm
      rcases cells_mem hm with hm | ⟨h1, h2, h3⟩
      · rcases List.mem_cons.mp hm with e | hm
        · cases e
          exact .inr ⟨hk ▸ List.mem_cons_self, Nat.le_refl _, _, pushCells_keeps r _ _ _ (Heap.get?_push_size _ rfl), rfl⟩
        · exact .inl hm
      · rw [Heap.size_push] at h2
        exact .inr ⟨List.mem_cons_of_mem _ h1, Nat.le_of_succ_le h2, h3⟩
    · rename_i hk
      rw [if_neg hk]
      rcases cells_mem hm with hm | ⟨h1, h2, h3⟩
      · exact .inl hm
      · exact .inr ⟨List.mem_cons_of_mem _ h1, h2, h3⟩
theorem cells_acc : ∀ {names : List (Str × NameKind)} {n : Nat} {acc : List (Str × Addr)} {p : Str × Addr}, p ∈ acc → p ∈ cellsFrom n names acc
  | [], _, _, _, h => h
  | (m, k) :: r, n, acc, p, h => by
    unfold cellsFrom
    split
    · exact cells_acc (List.mem_cons_of_mem _ h)
    · exact cells_acc h
theorem cells_has : ∀ {names : List (Str × NameKind)} {n : Nat} {acc : List (Str × Addr)} {x : Str}, (x, .cell) ∈ names → ∃ c, (x, c) ∈ cellsFrom n names acc
  | (m, k) :: r, n, acc, x, h => by
    unfold cellsFrom
    rcases List.mem_cons.mp h with e | h
    · cases e
      exact ⟨n, cells_acc List.mem_cons_self⟩
    · split
      · exact cells_has h
      · exact cells_has h
theorem cells_inj : ∀ {names : List (Str × NameKind)} {h : Heap} {acc : List (Str × Addr)} {x y : Str} {c : Addr}, (∀ p ∈ acc, p.2 < h.objs.size) → (∀ x y c, (x, c) ∈ acc → (y, c) ∈ acc → x = y) →
    (x, c) ∈ cellsFrom h.objs.size names acc → (y, c) ∈ cellsFrom h.objs.size names acc → x = y
  | [], _, _, _, _, _, _, hi, h1, h2 => hi _ _ _ h1 h2
  | (n, k) :: r, h, acc, x, y, c, hl, hi, h1, h2 => by
    unfold cellsFrom at h1 h2
    split at h1
    · rename_i hk
      rw [if_pos hk] at h2
      rw [← Heap.size_push h { cls := .type "cell", data := .cell none }] at h1 h2
      refine cells_inj (h := h.push _) (fun p hp => ?_) (fun x y c a b => ?_) h1 h2
      · rw [Heap.size_push]
        rcases List.mem_cons.mp hp with rfl | hp
        · exact Nat.lt_succ_self _
        · exact Nat.lt_succ_of_lt (hl p hp)
      · rcases List.mem_cons.mp a with e | a <;> rcases List.mem_cons.mp b with e' | b
        · cases e; cases e'; rfl
        · cases e; exact absurd (hl _ b) (Nat.lt_irrefl _)
        · cases e'; exact absurd (hl _ a) (Nat.lt_irrefl _)
        · exact hi _ _ _ a b
    · rename_i hk
      rw [if_neg hk] at h2
      exact cells_inj hl hi h1 h2
theorem newEnv_comp {M : Model} {A : Around} {E : Value → Shared → Prop} {s : Shared} {scope : Scope} {globals : Addr} {closure : List (Str × Addr)} {qual : Str} {func : Option Addr} {code : Value} {around : Env} {builtins : Addr} {Q : Env → Shared → Prop}
    (h : Q (newEnv scope s.heap.objs.size globals (cellsFrom (s.heap.objs.size + 1) scope.names closure) qual func code (some around) builtins)
      { s with heap := pushCells (s.heap.push { cls := .type "dict", data := .dict #[] }) scope.names }) :
    wpAny M A (newFunctionEnv scope globals closure [] qual func code (some around) builtins) Q E s := by
  simp only [newFunctionEnv, Option.isSome_some, if_true]
  refine wpAny_bind (wpAny_alloc ?_)
  refine wpAny_bind (wpAny_layCells _ (fun n k c => rfl) scope.names closure _ _ ?_)
  rw [show ({ s with heap := s.heap.push { cls := .type "dict", data := .dict #[] } } : Shared).heap.objs.size = s.heap.objs.size + 1 from Heap.size_push ..]
  rw [List.forIn_nil]
  exact wpAny_bind (wpAny_pure (wpAny_pure h))
/-- every name of the written scope, in the scope that runs -/
theorem lookup_relS {sc : Scope} : ∀ {names : List (Str × NameKind)} {x : Str} {k : NameKind},
    (names.map fun (n, k) => if (k == NameKind.free && sc.kind == .function && sc.names.lookup n == some .cell) then (n, NameKind.cell) else (n, k)).lookup x = some k →
    ∃ k', names.lookup x = some k' ∧ (k = k' ∨ (k' = .free ∧ k = .cell))
  | [], _, _, h => by simp at h
  | (n, k₀) :: r, x, k, h => by
    have ih := @lookup_relS sc r x k
    have h' : List.lookup x ((if (k₀ == NameKind.free && sc.kind == .function && sc.names.lookup n == some .cell) = true then (n, NameKind.cell) else (n, k₀)) :: (r.map _)) = some k := h
    cases hx : x == n with
    | true =>
      simp only [List.lookup_cons, hx]
      by_cases hc : (k₀ == NameKind.free && sc.kind == .function && sc.names.lookup n == some .cell) = true
      · rw [if_pos hc] at h'
        simp only [List.lookup_cons, hx] at h'
        cases h'
        simp only [Bool.and_eq_true, beq_iff_eq] at hc
        exact ⟨k₀, rfl, .inr ⟨hc.1.1, rfl⟩⟩
      · rw [if_neg hc] at h'
        simp only [List.lookup_cons, hx] at h'
        cases h'
        exact ⟨_, rfl, .inl rfl⟩
    | false =>
      simp only [List.lookup_cons, hx]
      by_cases hc : (k₀ == NameKind.free && sc.kind == .function && sc.names.lookup n == some .cell) = true
      · rw [if_pos hc] at h'
        simp only [List.lookup_cons, hx] at h'
        exact ih h'
      · rw [if_neg hc] at h'
        simp only [List.lookup_cons, hx] at h'
        exact ih h'
/-- the names of a comprehension's block: its own (with their places in N), or captured -/
structure BlkOk (N : List Str) (sc scope : Scope) (own : List (Str × Nat)) : Prop where
  kind : scope.kind = .function
  uniq : ∀ y ∈ scope.names, scope.names.lookup y.1 = some y.2
  ix : ∀ p ∈ own, N[p.2]? = some p.1
  free : ∀ y ∈ scope.names, y.2 = .free → sc.names.lookup y.1 = some .cell ∨ sc.names.lookup y.1 = some .free
  own : ∀ y ∈ scope.names, y.2 = .local ∨ y.2 = .cell → y.1 ∈ own.map (·.1) ∨ y.1 ∉ N
/-- the slots of the block's own names forgotten -/
def wipe (σ : St) : List Nat → St
  | [] => σ
  | v :: vs => (wipe σ vs).set v none
theorem wipe_length (σ : St) : ∀ vs : List Nat, (wipe σ vs).length = σ.length
  | [] => rfl
  | v :: vs => by unfold wipe; rw [List.length_set, wipe_length σ vs]
theorem wipe_some {σ : St} {i : Nat} {x : V} : ∀ {vs : List Nat}, (wipe σ vs)[i]? = some (some x) → σ[i]? = some (some x) ∧ i ∉ vs
  | [], h => ⟨h, by simp⟩
  | v :: vs, h => by
    unfold wipe at h
    by_cases hi : v = i
    · subst hi
      by_cases hv : v < (wipe σ vs).length
      · rw [List.getElem?_set_self hv] at h; cases h
      · rw [List.getElem?_eq_none (by simpa using hv)] at h; cases h
    · rw [List.getElem?_set_ne hi] at h
      obtain ⟨h1, h2⟩ := wipe_some h
      exact ⟨h1, by simp only [List.mem_cons, not_or]; exact ⟨fun e => hi e.symm, h2⟩⟩
/-- the context of a block that starts at s, its iterator's objects at fp -/
abbrev Cx.blk (X : Cx) (s : Shared) (H : Hp) (scope : Scope) (cenv : Env) (fp : List Addr) : Cx := { X with s_0 := s, H_0 := H, env := cenv, outer := X.stack, ex := fp, fn := fun x => scope.names.lookup x == some .cell, pn := [], xe := fun _ _ => False }
section
variable {X : Cx} {pins : List (Addr × Obj)} {σ : St} {H : Hp} {s : Shared}
theorem block_start {scope : Scope} {own : List (Str × Nat)} {fp : List Addr} (I : Inv X pins σ H s) (ok : BlkOk X.N X.env.scope scope own) (hN : X.N.Nodup) (hfp : ∀ b ∈ fp, FpOk X pins H b ∧ b < s.heap.objs.size) :
    Inv (X.blk s H scope (compEnvC scope (cellsFrom (s.heap.objs.size + 1) scope.names (cloFrom X.env.cells scope.names [])) s.heap.objs.size X.env) fp) [] (wipe σ (own.map (·.2))) H { s with heap := pushCells (s.heap.push { cls := .type "dict", data := .dict #[] }) scope.names } := by
  have hfree : ∀ y ∈ scope.names, y.2 = .free → ∃ c, X.env.cells.lookup y.1 = some c := fun y hy e => by
    rcases ok.free y hy e with k | k
    · exact I.ok.has _ (.inl k)
    · exact I.ok.has _ (.inr k)
  generalize hcenv : compEnvC scope (cellsFrom (s.heap.objs.size + 1) scope.names (cloFrom X.env.cells scope.names [])) s.heap.objs.size X.env = cenv
  have kp : ∀ b o, s.heap.get? b = some o → (pushCells (s.heap.push { cls := .type "dict", data := .dict #[] }) scope.names).get? b = some o := fun b o e => pushCells_keeps _ _ _ _ (Heap.get?_push_of_some _ e)
  have hL : cenv.locals = s.heap.objs.size := by rw [← hcenv]; rfl
  have hcl : cenv.cells = cellsFrom (s.heap.objs.size + 1) scope.names (cloFrom X.env.cells scope.names []) := by rw [← hcenv]; rfl
  have hsc : cenv.scope = relS scope X.env.scope := by rw [← hcenv]; rfl
  rw [← Heap.size_push s.heap { cls := .type "dict", data := .dict #[] }] at hcl
  have cm : ∀ {y c}, (y, c) ∈ cloFrom X.env.cells scope.names [] → X.env.cells.lookup y = some c ∧ c < s.heap.objs.size := fun {y c} hm => by
    rcases cloFrom_mem hm with hm | ⟨h1, rfl⟩
    · cases hm
    · obtain ⟨c, hc⟩ := hfree _ h1 rfl
      rw [hc]
      obtain ⟨w, z⟩ := I.cell _ _ hc
      exact ⟨rfl, z.lt⟩
  have mem : ∀ {y c}, cenv.cells.lookup y = some c → (X.env.cells.lookup y = some c ∧ c < s.heap.objs.size) ∨ (s.heap.objs.size + 1 ≤ c ∧ CellAt (pushCells (s.heap.push { cls := .type "dict", data := .dict #[] }) scope.names) c none) := fun {y c} e => by
    rw [hcl] at e
    rcases cells_mem (PySem.mem_of_lookup e) with hm | ⟨_, h2, h3⟩
    · exact .inl (cm hm)
    · rw [Heap.size_push] at h2; exact .inr ⟨h2, h3⟩
  have look : ∀ {y}, scope.names.lookup y = some .free → ∃ c, cenv.cells.lookup y = some c ∧ X.env.cells.lookup y = some c := fun {y} hl => by
    have hy : (y, NameKind.free) ∈ scope.names := PySem.mem_of_lookup hl
    obtain ⟨c', e'⟩ := mem_lookup (cells_acc (names := scope.names) (n := (s.heap.push { cls := .type "dict", data := .dict #[] }).objs.size) (cloFrom_has (cells := X.env.cells) (acc := []) hy))
    rw [← hcl] at e'
    refine ⟨c', e', ?_⟩
    rw [hcl] at e'
    rcases cells_mem (PySem.mem_of_lookup e') with hm | ⟨h1, _, _⟩
    · exact (cm hm).1
    · have := ok.uniq _ h1
      rw [hl] at this; cases this
  have okB : (X.blk s H scope cenv fp).Ok := by
    refine ⟨I.ok.mod, by show cenv.scope.kind = _; rw [hsc]; exact ok.kind, by show cenv.globals = _; rw [← hcenv]; exact I.ok.glob, by show cenv.builtins = _; rw [← hcenv]; exact I.ok.blt, by show s.heap.objs.size ≤ cenv.locals; rw [hL]; exact Nat.le_refl _,
      fun y z c e1 e2 => ?_, fun y hy => ?_, fun y c z e => ?_, I.ok.hd, I.ok.frames, .inl rfl, fun b hb => ⟨?_, fun y c e z => ?_⟩, I.bs, Nat.le_trans I.ok.bsz I.sz, fun b o e hb => ?_, fun b hb z => ?_, I.stack, I.stkFree⟩
    · have e1 : cenv.cells.lookup y = some c := e1
      have e2 : cenv.cells.lookup z = some c := e2
      rw [hcl] at e1 e2
      refine cells_inj (fun p hp => ?_) (fun y z c a b => I.ok.inj y z c (cm a).1 (cm b).1) (PySem.mem_of_lookup e1) (PySem.mem_of_lookup e2)
      rw [Heap.size_push]
      exact Nat.lt_succ_of_lt (cm (y := p.1) (c := p.2) hp).2
    · show ∃ c, cenv.cells.lookup y = some c
      have key : ∀ k, cenv.kindOf y = some k → (k = .cell ∨ k = .free) → ∃ c, cenv.cells.lookup y = some c := fun k hk hk' => by
        unfold Env.kindOf at hk
        rw [hsc] at hk
        obtain ⟨k', e, r⟩ := lookup_relS hk
        have : k' = .cell ∨ k' = .free := by
          rcases r with rfl | ⟨rfl, _⟩
          · exact hk'
          · exact .inr rfl
        rcases this with rfl | rfl
        · obtain ⟨c, hm⟩ := cells_has (n := (s.heap.push { cls := .type "dict", data := .dict #[] }).objs.size) (acc := cloFrom X.env.cells scope.names []) (PySem.mem_of_lookup e)
          obtain ⟨c', e'⟩ := mem_lookup hm
          exact ⟨c', by rw [hcl]; exact e'⟩
        · obtain ⟨c, h1, _⟩ := look e
          exact ⟨c, h1⟩
      rcases hy with hy | hy
      · exact key _ hy (.inl rfl)
      · exact key _ hy (.inr rfl)
    · have z : (scope.names.lookup y == some NameKind.cell) = true := z
      have z : scope.names.lookup y = some .cell := by simpa using z
      have e : cenv.cells.lookup y = some c := e
      rw [hcl] at e
      rcases cells_mem (PySem.mem_of_lookup e) with hm | ⟨_, h2, _⟩
      · rcases cloFrom_mem hm with hm | ⟨h1, _⟩
        · cases hm
        · have q := ok.uniq _ h1
          rw [z] at q; cases q
      · rw [Heap.size_push] at h2
        exact Nat.le_of_succ_le h2
    · show b ≠ cenv.locals
      rw [hL]; exact Nat.ne_of_lt (hfp b hb).2
    · have e : cenv.cells.lookup y = some c := e
      rcases mem e with ⟨h1, _⟩ | ⟨h1, _⟩
      · exact (hfp b hb).1.2.2.2.2.1 y c h1 z
      · have h2 : s.heap.objs.size + 1 ≤ b := by rw [← z]; exact h1
        exact absurd (Nat.lt_of_lt_of_le (hfp b hb).2 (Nat.le_of_succ_le h2)) (Nat.lt_irrefl _)
    · rcases (hfp b hb).1.2.2.2.1 with z | z
      · exact I.ok.noex b o e z
      · exact absurd (Nat.lt_of_lt_of_le (Heap.lt_size e) (Nat.le_trans I.ok.bsz z)) (Nat.lt_irrefl _)
    · rcases List.mem_cons.mp (I.stkSub b z) with z | z
      · exact (hfp b hb).1.2.1 z
      · exact (hfp b hb).1.2.2.1 z
  refine ⟨okB, rfl, I.bare, Un.kept kp, ⟨fun _ => none, ?_, fun i y av e1 e2 e3 => ?_⟩, fun y c e => ?_, ?_, fun y c e => ?_, fun p hp => ?_, I.hok.kept kp, by rw [wipe_length]; exact I.len⟩
  · show Heap.Ns _ cenv.locals _
    rw [hL]
    exact Heap.Ns.keeps (Heap.Ns.new ..) fun b o e => pushCells_keeps _ _ _ _ e
  · obtain ⟨e2, hne⟩ := wipe_some e2
    have hfr : scope.names.lookup y = some .free ∧ (cenv.kindOf y = some .cell ∨ cenv.kindOf y = some .free) := by
      have key : ∀ k, cenv.scope.names.lookup y = some k → k = .local ∨ k = .cell ∨ k = .free → scope.names.lookup y = some .free ∧ (cenv.kindOf y = some .cell ∨ cenv.kindOf y = some .free) := fun k hk hk' => by
        have hk0 := hk
        rw [hsc] at hk
        obtain ⟨k', e, r⟩ := lookup_relS hk
        have no : ¬ (k' = .local ∨ k' = .cell) := fun hh => by
          rcases ok.own _ (PySem.mem_of_lookup e) hh with e' | e'
          · obtain ⟨p, hp, hpy⟩ := List.mem_map.mp e'
            have e3 := ok.ix p hp
            have : p.1 = y := hpy
            rw [this] at e3
            exact hne (List.mem_map.mpr ⟨p, hp, nodup_ix hN e3 e1⟩)
          · exact e' (List.mem_of_getElem? e1)
        rcases r with rfl | ⟨rfl, rfl⟩
        · rcases hk' with rfl | rfl | rfl
          · exact absurd (.inl rfl) no
          · exact absurd (.inr rfl) no
          · exact ⟨e, .inr hk0⟩
        · exact ⟨e, .inl hk0⟩
      have e3 : Vis cenv.scope y := e3
      rcases e3 with e3 | e3 | e3
      · exact key _ e3 (.inl rfl)
      · exact key _ e3 (.inr (.inl rfl))
      · exact key _ e3 (.inr (.inr rfl))
    obtain ⟨m, hn, hl⟩ := I.loc
    have hvis : Vis X.env.scope y := (ok.free _ (PySem.mem_of_lookup hfr.1) rfl).elim (fun k => .inr (.inl k)) (fun k => .inr (.inr k))
    obtain ⟨w, r, q⟩ := hl i y av e1 e2 hvis
    refine ⟨w, r, .inr ⟨hfr.2, ?_⟩⟩
    obtain ⟨c, h1, h2⟩ := look hfr.1
    rcases q with ⟨k, _⟩ | ⟨_, c', e', z⟩
    · have k : X.env.scope.names.lookup y = some .local := k
      rcases ok.free _ (PySem.mem_of_lookup hfr.1) rfl with k' | k' <;> rw [show X.env.scope.names.lookup y = _ from k'] at k <;> cases k
    · rw [h2] at e'; cases e'
      exact ⟨c, h1, z.keeps kp⟩
  · have e : cenv.cells.lookup y = some c := e
    rcases mem e with ⟨h1, _⟩ | ⟨_, z⟩
    · obtain ⟨w, z⟩ := I.cell y c h1
      exact ⟨w, z.keeps kp⟩
    · exact ⟨_, z⟩
  · show H cenv.locals = none
    rw [hL]; exact I.hok.fresh (Nat.le_refl _)
  · have e : cenv.cells.lookup y = some c := e
    rcases mem e with ⟨h1, _⟩ | ⟨h1, _⟩
    · exact I.freeC y c h1
    · exact I.hok.fresh (Nat.le_of_succ_le h1)
  · exact absurd (show p ∈ ([] : List (Addr × Obj)) ++ [] from hp) (by simp)
/-- an item appended to a tracked list -/
theorem app_ok {E : Value → Shared → Prop} {D : Addr} {xs : List V} {y : V} {v : Value} {Q : Value → Shared → Prop} (I : Inv X pins σ H s) (hD : H D = some (.lst xs)) (hz : xs.length < sizeLine) (r : RelV y v)
    (h : ∀ s', Inv X pins σ (upd H D (.lst (xs ++ [y]))) s' → Q .none s') : wpAny (model X.prog X.w) X.A (call (.builtin "list.append") [.ref D, v]) Q E s := by
  obtain ⟨hz', its, n, ri, e⟩ := I.hok D _ hD
  have hl := ri.length
  refine append_at (hsz := by rw [List.size_toArray]; omega) e fun h' sb ho' => ?_
  refine h { s with heap := h' } (I.write (t' := s.toks) (by rw [hD]; trivial) (.inl rfl) (fun b u hb q => (sb.2 b hb).trans q) ⟨_, ho'⟩ ⟨by rw [List.length_append]; exact hz, its ++ [v], n + 1, ri.append (.cons r .nil), ?_⟩)
  rw [ho']
  simp
/-- a clause's tests -/
def PTs (X : Cx) (ifs : List Expr) (t : TT) : Prop :=
  ∀ (pins : List (Addr × Obj)) (s : Shared) (σ : St) (H : Hp) (Q : Bool → Hp → Prop), Inv X pins σ H s → t σ H Q →
    wpAny (model X.prog X.w) X.A (forIn ifs true fun c r => if r = true then do let ok ← isTrue c X.env (eval c X.env); pure (ForInStep.yield ok) else pure (ForInStep.yield r)) (TP X pins σ Q) X.xe s
theorem pts_one {c : Expr} {t : TT} (h : PT X c t) : PTs X [c] t := fun pins s σ H Q I hw => wpAny_tests_one (h pins s σ H Q I hw)
end
theorem thnF {α : Type} {t : Sem α} {Q Q' : α → Shared → Prop} {M : Model} {A : Around} {E : Value → Shared → Prop} {s : Shared} (h : wpAny M A t Q (fun _ _ => False) s) (hQ : ∀ a s, Q a s → Q' a s) : wpAny M A t Q' E s := wpAny_mono h hQ fun _ _ z => False.elim z
/-- the loop of a list comprehension's block, the target of any form (codeAny_compLoop_tests asks a target that no tuple goes to; statement and proof follow it, PyProof/CompMap.lean:41-61, with the step letOwnedTupleGo kept) -/
theorem compLoop_any {prog : Program} {w : World} {A : Around} {R : Result → Shared → Prop} {s : Shared} {elt target iter : Expr} {ifs : List Expr} {scope : Scope} {pos : Pos} {it acc : Value} {env : Env} (I : Nat → Shared → Prop)
    (turn : ∀ n s, I n s → wpAny (model prog w) A (pyNext it) (fun r s₁ => match r with
      | none => R (.ok .next) s₁
      | some v => wpAny (model prog w) A (letOwnedTupleGo target it v) (fun _ s₁' => wpAny (model prog w) A (assign target env v) (fun _ s₂ =>
          wpAny (model prog w) A (forIn ifs true fun c r => if r = true then do let ok ← isTrue c env (eval c env); pure (ForInStep.yield ok) else pure (ForInStep.yield r)) (fun ok s₃ =>
            if ok = true then wpAny (model prog w) A (eval elt env) (fun x s₄ =>
              wpAny (model prog w) A (call (.builtin "list.append") [acc, x]) (fun _ s₅ => ∃ m, m < n ∧ I m s₅) (notedBy (model prog w) A env fun e s' => R (.error e) s') s₄) (notedBy (model prog w) A env fun e s' => R (.error e) s') s₃
            else ∃ m, m < n ∧ I m s₃) (notedBy (model prog w) A env fun e s' => R (.error e) s') s₂) (notedBy (model prog w) A env fun e s' => R (.error e) s') s₁') (notedBy (model prog w) A env fun e s' => R (.error e) s') s₁) (notedBy (model prog w) A env fun e s' => R (.error e) s') s)
    (n : Nat) (h : I n s) :
    codeAny (model prog w) A (.compLoop (.ListComp elt [⟨target, iter, ifs, 0⟩] scope pos) 0 it acc env) R s := by
  refine codeAny_loop rfl I (fun n s hI => ?_) n h
  show wpAny _ A ((compTurn (.ListComp elt [⟨target, iter, ifs, 0⟩] scope pos) 0 it acc env).onRaise (fun x => do noteFrame x env; theTreesLotGoes x)) _ _ s
  refine wpAny_noted ?_
  rw [compTurn_list]
  refine wpAny_bind (wpAny_standAt (wpAny_bind (wpAny_mono (turn n s hI) (fun r s₁ h₁ => ?_) fun _ _ h' => h')))
  cases r with
  | none => exact wpAny_pure h₁
  | some v =>
    refine wpAny_bind (wpAny_mono h₁ (fun _ s₁' h₁' => ?_) fun _ _ h' => h')
    refine wpAny_bind (wpAny_mono h₁' (fun _ s₂ h₂ => wpAny_bind (wpAny_mono h₂ (fun ok s₃ h₃ => ?_) fun _ _ h' => h')) fun _ _ h' => h')
    cases ok with
    | false => exact wpAny_pure ⟨rfl, h₃⟩
    | true =>
      exact wpAny_bind (wpAny_bind (wpAny_mono h₃ (fun x s₄ h₄ => wpAny_bind (wpAny_mono h₄ (fun _ s₅ h₅ => wpAny_pure (wpAny_pure ⟨rfl, h₅⟩)) fun _ _ h' => h')) fun _ _ h' => h'))
section
variable {X : Cx}
/-- [elt for target in iter if ..]: D the new list; W by the turn and a measure, Nx what a turn is to reach -/
def tLc (wi : TI) (g : TG) (tt : TT) (te : TE) (vs : List Nat) : TE := fun σ H Q => wi σ H fun J H1 => ∀ D, H1 D = none → ∃ W : Nat → Nat → Hp → Prop, (∃ m, W 0 m (upd H1 D (.lst []))) ∧ ∀ i m H, W i m H →
  (J.stop i H ∧ Q (.ref D) H) ∨ (J.go i H ∧ ∃ Nx : Hp → Prop, (∀ H', Nx H' → ∃ m', m' < m ∧ W (i + 1) m' H') ∧ ∀ x H', J.yld i H x H' → g x (wipe σ vs) H' fun σ2 H2 => wipe σ2 vs = wipe σ vs ∧ tt σ2 H2 fun b H3 =>
    if b = true then te σ2 H3 fun y H4 => ∃ acc, H4 D = some (.lst acc) ∧ acc.length < sizeLine ∧ Nx (upd H4 D (.lst (acc ++ [y]))) else Nx H3)
theorem lc_core {pins : List (Addr × Obj)} {s : Shared} {σ : St} {H : Hp} {Q : VK} {elt tg iter : Expr} {ifs : List Expr} {scope : Scope} {own : List (Str × Nat)} {pos pos' : Pos} {wi : TI} {g : TG} {tt : TT} {te : TE} {use : Option (Value → Sem Unit)} {Qf : Value → Shared → Prop}
    (hc : X.calm = true) (hN : X.N.Nodup) (I : Inv X pins σ H s) (hi : PI X tg iter wi) (ok : BlkOk X.N X.env.scope scope own)
    (hg : ∀ (s : Shared) (H : Hp) (C : Addr) (cl : List (Str × Addr)) (fp : List Addr), PG (X.blk s H scope (compEnvC scope cl C X.env) fp) tg g) (ht : ∀ (s : Shared) (H : Hp) (C : Addr) (cl : List (Str × Addr)) (fp : List Addr), PTs (X.blk s H scope (compEnvC scope cl C X.env) fp) ifs tt)
    (he : ∀ (s : Shared) (H : Hp) (C : Addr) (cl : List (Str × Addr)) (fp : List Addr), PE (X.blk s H scope (compEnvC scope cl C X.env) fp) elt te) (hs : ∀ x, foldedSetIterable iter X.env x = pure x)
    (h : tLc wi g tt te (own.map (·.2)) σ H Q)
    (hRR : ∀ D C s' m H', Inv X pins σ H' s' → Q (.ref D) H' → s'.heap.Ns C m → FpOk X pins H' C → compPost (model X.prog X.w) X.A X.xe use Qf (.ref D) C (.ok .next) s') :
    wpAny (model X.prog X.w) X.A (comprehension (.ListComp elt [⟨tg, iter, ifs, 0⟩] scope pos) scope X.env pos' (newList []) false (eval iter X.env) use) Qf X.xe s := by
  have hfree : ∀ y ∈ scope.names, y.2 = .free → ∃ c, X.env.cells.lookup y.1 = some c := fun y hy e => by
    rcases ok.free y hy e with k | k
    · exact I.ok.has _ (.inl k)
    · exact I.ok.has _ (.inr k)
  refine wpAny_comprehension_free (use := use) rfl hs (closure_ok hfree) ok.kind (fun y hy e => by rw [ok.uniq y hy, e])
    (thn (hi pins s σ H _ I h) fun xv s1 hx => thn hx fun itv s2 h2 => ?_)
  obtain ⟨it, fp, tn, J, H2, e, I2, T, st2, f2, q⟩ := h2
  subst e
  refine wpAny_newObj_type (newEnv_comp ?_) (by show 0 ≤ sizeLine; decide)
  generalize hD : s2.heap.objs.size = D
  have hDn : H2 D = none := I2.hok.fresh (Nat.le_of_eq hD)
  obtain ⟨W, ⟨m0, w0⟩, turn⟩ := q D hDn
  -- the new list
  generalize hs3 : ({ s2 with heap := s2.heap.push { cls := .type "list", data := .seq ([] : List Value).toArray } } : Shared) = s3
  have I3 : Inv X pins σ (upd H2 D (.lst [])) s3 := by
    rw [← hs3]
    refine I2.laid (t' := s2.toks) (fun b o e => Heap.get?_push_of_some _ e) (Nat.le_of_eq hD) ⟨Nat.zero_le _, [], 0, .nil, ?_⟩
    rw [← hD]
    exact Heap.get?_push_size _ rfl
  have h3 : s3.heap = s2.heap.push { cls := .type "list", data := .seq ([] : List Value).toArray } := by rw [← hs3]
  have sz : ∀ b ∈ fp, b < s2.heap.objs.size := fun b hb => by
    obtain ⟨o, e, _⟩ := T.obj _ _ st2 b hb
    exact Heap.lt_size e
  have f3 : ∀ b ∈ fp, FpOk X pins (upd H2 D (.lst [])) b ∧ b < s3.heap.objs.size := fun b hb => by
    have hlt := sz b hb
    refine ⟨⟨?_, (f2 b hb).2⟩, by rw [h3, Heap.size_push]; exact Nat.lt_succ_of_lt hlt⟩
    rw [upd_ne (by rw [← hD]; exact Nat.ne_of_lt hlt)]
    exact (f2 b hb).1
  have st3 : tn 0 s3.heap := T.keep _ _ _ st2 fun b _ o e => by rw [h3]; exact Heap.get?_push_of_some _ e
  have I4 := block_start I3 ok hN f3
  have pg := hg s3 (upd H2 D (.lst [])) s3.heap.objs.size (cellsFrom (s3.heap.objs.size + 1) scope.names (cloFrom X.env.cells scope.names [])) fp
  have pt := ht s3 (upd H2 D (.lst [])) s3.heap.objs.size (cellsFrom (s3.heap.objs.size + 1) scope.names (cloFrom X.env.cells scope.names [])) fp
  have pe := he s3 (upd H2 D (.lst [])) s3.heap.objs.size (cellsFrom (s3.heap.objs.size + 1) scope.names (cloFrom X.env.cells scope.names [])) fp
  show codeAny _ _ (.compStart (.ListComp elt [⟨tg, iter, ifs, 0⟩] scope pos) 0 (.ref it) (.ref D) (compEnvC scope (cellsFrom (s3.heap.objs.size + 1) scope.names (cloFrom X.env.cells scope.names [])) s3.heap.objs.size X.env)) (compPost (model X.prog X.w) X.A X.xe use Qf (.ref D) s3.heap.objs.size) { s3 with heap := pushCells (s3.heap.push { cls := .type "dict", data := .dict #[] }) scope.names }
  have nfp : ∀ b ∈ fp, (upd H2 D (.lst [])) b = none := fun b hb => (f3 b hb).1.1
  generalize hce : compEnvC scope (cellsFrom (s3.heap.objs.size + 1) scope.names (cloFrom X.env.cells scope.names [])) s3.heap.objs.size X.env = ce at I4 pg pt pe ⊢
  have cL : ce.locals = s3.heap.objs.size := by subst hce; rfl
  generalize hH3 : upd H2 D (.lst []) = H3 at I3 I4 pg pt pe w0 nfp f3
  generalize hs4 : ({ s3 with heap := pushCells (s3.heap.push { cls := .type "dict", data := .dict #[] }) scope.names } : Shared) = s4 at I4 ⊢
  have st4 : tn 0 s4.heap := T.keep _ _ _ st3 fun b _ o e => by rw [← hs4]; exact pushCells_keeps _ _ _ _ (Heap.get?_push_of_some _ e)
  have stat : ∀ {σ' : St} {H' : Hp} {s' : Shared}, Inv (X.blk s3 H3 scope ce fp) [] σ' H' s' → (∀ b ∈ fp, H' b = none) → ∀ b ∈ fp, FpOk (X.blk s3 H3 scope ce fp) [] H' b := fun {σ' H' s'} I' hn b hb =>
    ⟨hn b hb, (I'.ok.exf b hb).1, I'.ok.exfs b hb, .inl hb, fun x c e => (I'.ok.exf b hb).2 x c e, fun p hp => absurd (show p ∈ ([] : List (Addr × Obj)) ++ [] from hp) (by simp)⟩
  have loop : codeAny (model X.prog X.w) X.A (.compLoop (.ListComp elt [⟨tg, iter, ifs, 0⟩] scope pos) 0 (.ref it) (.ref D) ce) (compPost (model X.prog X.w) X.A X.xe use Qf (.ref D) s3.heap.objs.size) s4 := by
    refine compLoop_any (fun n s' => ∃ i H', Inv (X.blk s3 H3 scope ce fp) [] (wipe σ (own.map (·.2))) H' s' ∧ tn i s'.heap ∧ (∀ b ∈ fp, H' b = none) ∧ W i n H') ?_ m0 ⟨0, H3, I4, st4, nfp, w0⟩
    rintro n s5 ⟨i, H5, I5, st5, n5, w5⟩
    rcases turn i n H5 w5 with ⟨stop, qq⟩ | ⟨go, Nx, hNx, step⟩
    · have td := T.done (X.blk s3 H3 scope ce fp) rfl rfl rfl hc i [] s5 _ H5 (fun _ _ => False) I5 (stat I5 n5) st5 stop
      refine thnF td fun r s6 ⟨hr, I6⟩ => ?_
      subst hr
      -- back in the def's context
      have I7 : Inv X pins σ H5 s6 := I3.call' (ch := fp) I6.os I6.base I6.hok I6.bare fun b hb => ⟨(f3 b hb).1.2.2.2.1, (f3 b hb).1.2.1, (f3 b hb).1.2.2.2.2.1, (f3 b hb).1.2.2.2.2.2⟩
      have nC : H5 s3.heap.objs.size = none := by
        have z : H5 ce.locals = none := I6.free
        rw [cL] at z
        exact z
      obtain ⟨m, hn, _⟩ := I6.loc
      have hn : s6.heap.Ns ce.locals m := hn
      rw [cL] at hn
      exact hRR D s3.heap.objs.size s6 m H5 I7 qq hn (I3.fpOk (Nat.le_refl _) nC)
    · have ti := T.item (X.blk s3 H3 scope ce fp) rfl rfl rfl hc i [] s5 _ H5 (fun _ _ => False) I5 (stat I5 n5) st5 go
      refine thnF ti fun r s6 ⟨u, hr, h6⟩ => ?_
      subst hr
      refine thnF h6 fun _ s7 ⟨x, H7, I7, r7, y7, st7, n7⟩ => ?_
      have I7' := I7.pinned (stat I7 n7) (T.obj _ _ st7)
      refine thnF (pg _ s7 _ H7 x u _ I7' r7 (step x H7 y7)) fun _ s8 ⟨σ8, H8, I8, hw8, q8⟩ => ?_
      refine thnF (pt _ s8 σ8 H8 _ I8 q8) fun b s9 ⟨H9, I9, q9⟩ => ?_
      -- the turn's end
      have fin : ∀ {s' : Shared} {H' : Hp}, Inv (X.blk s3 H3 scope ce fp) ([] ++ pinsAt fp s7.heap) σ8 H' s' → Nx H' → ∃ m, m < n ∧ ∃ i H', Inv (X.blk s3 H3 scope ce fp) [] (wipe σ (own.map (·.2))) H' s' ∧ tn i s'.heap ∧ (∀ b ∈ fp, H' b = none) ∧ W i m H' := fun {s' H'} I' nx => by
        obtain ⟨m', hm, w'⟩ := hNx H' nx
        have pin' : ∀ b ∈ fp, ∀ o, s7.heap.get? b = some o → s'.heap.get? b = some o ∧ H' b = none := fun b hb o e =>
          let z := I'.pin (b, o) (List.mem_append_right _ (List.mem_append_right _ (mem_pinsAt hb e)))
          ⟨z.1, z.2.1⟩
        have hl : (wipe σ (own.map (·.2))).length = σ8.length := by rw [← hw8, wipe_length]
        refine ⟨m', hm, i + 1, H', (I'.unpinned (pins := [])).weak hl (fun j v e => ?_), T.keep _ _ _ st7 fun b hb o e => (pin' b hb o e).1, fun b hb => ?_, w'⟩
        · rw [← hw8] at e
          exact (wipe_some e).1
        · obtain ⟨o, e, _⟩ := T.obj _ _ st7 b hb
          exact (pin' b hb o e).2
      cases b with
      | false =>
        simp only [Bool.false_eq_true, if_false] at q9 ⊢
        exact fin I9 q9
      | true =>
        simp only [if_true] at q9 ⊢
        refine thnF (pe _ s9 σ8 H9 _ I9 q9) fun z s10 ⟨yv, H10, I10, r10, acc, hD10, hz10, nx⟩ => ?_
        exact app_ok (X := X.blk s3 H3 scope ce fp) I10 hD10 hz10 r10 fun s11 I11 => fin I11 nx
  exact codeAny_compStart_list loop (T.self X.A 0 _ _ _ st4 loop)
/-- name = [..] on one line, the name a local -/
theorem ps_setLc {i : Nat} {y : Str} {py : Pos} {elt tg iter : Expr} {ifs : List Expr} {scope : Scope} {own : List (Str × Nat)} {pos spos : Pos} {wi : TI} {g : TG} {tt : TT} {te : TE} (hc : X.calm = true) (hN : X.N.Nodup) (hy : X.N[i]? = some y) (hyl : X.env.scope.names.lookup y = some .local)
    (hsw : swapsWith (.ListComp elt [⟨tg, iter, ifs, 0⟩] scope pos) (some (.Name y py)) spos.line X.env = pure true) (hi : PI X tg iter wi) (ok : BlkOk X.N X.env.scope scope own)
    (hg : ∀ (s : Shared) (H : Hp) (C : Addr) (cl : List (Str × Addr)) (fp : List Addr), PG (X.blk s H scope (compEnvC scope cl C X.env) fp) tg g) (ht : ∀ (s : Shared) (H : Hp) (C : Addr) (cl : List (Str × Addr)) (fp : List Addr), PTs (X.blk s H scope (compEnvC scope cl C X.env) fp) ifs tt)
    (he : ∀ (s : Shared) (H : Hp) (C : Addr) (cl : List (Str × Addr)) (fp : List Addr), PE (X.blk s H scope (compEnvC scope cl C X.env) fp) elt te) (hs : ∀ x, foldedSetIterable iter X.env x = pure x := by intro _; rfl) :
    PS X (.Assign [.Name y py] (.ListComp elt [⟨tg, iter, ifs, 0⟩] scope pos) spos) (tAsg (tLc wi g tt te (own.map (·.2))) (gName i)) := by
  intro pins s σ H D I h
  rw [exec_Assign_Name_used _ _ _ _ hsw]
  refine wpAny_bind (wpAny_standAt (wpAny_bind ?_))
  show wpAny _ X.A (do let _ ← comprehension (.ListComp elt [⟨tg, iter, ifs, 0⟩] scope pos) scope X.env (firstIterPos [⟨tg, iter, ifs, 0⟩] pos) (newList []) false (eval iter X.env) (some (assign (.Name y py) X.env))) _ _ s
  have h : tLc wi g tt te (own.map (·.2)) σ H (fun x H1 => gName i x σ H1 D.nx) := h
  refine wpAny_bind (thn (lc_core (Qf := fun _ s' => SP X pins D .next s') hc hN I hi ok hg ht he hs h fun L C s' m H' I' q hn f => ?_) fun _ s' hq => wpAny_pure (wpAny_pure hq))
  show wpAny _ _ (assign (.Name y py) X.env (.ref L)) _ _ _
  refine wpAny_assign_Name (store_ok2 (v := V.ref L) I' hN hy (.inl hyl) rfl (fun s2 I2 ⟨a, sb, ha⟩ => ?_) (.inr hyl))
  obtain ⟨f0, f1, f2, f3, f4, f5⟩ := f
  have haC : C ≠ a := by
    rcases ha with z | z
    · rw [z]; exact f1
    · exact fun e => f4 y a z e.symm
  refine ⟨m, hn.sameBut sb haC, fun h3 sb3 => ?_⟩
  exact ⟨_, H', I2.turned (t' := s2.toks) (fun b o hb e => (sb3.2 b hb).trans e) f0 f1 f3 f4 f5, q⟩
theorem sw_true {elt : Expr} {gs : List Comprehension} {scope : Scope} {pos py : Pos} {y : Str} {l : Nat} {env : Env} (hk : env.scope.kind = .function) (hy : env.scope.names.lookup y = some .local) (hl : (py.line == pos.line) = true)
    (ha : (scope.names.any fun (n, k) => n == y && (k == .local || k == .cell)) = false) : swapsWith (.ListComp elt gs scope pos) (some (.Name y py)) l env = pure true := by
  have ky : env.kindOf y = some .local := hy
  have hb : env.blockKind = .function := by unfold Env.blockKind; rw [hk]; rfl
  unfold swapsWith
  simp only [hb, ky, ha, Expr.pos, hl]
  rfl
end
/-- over a list that the block leaves as it is -/
theorem lc_list {K : PySem.W.Frag} {a : Addr} {xs : List V} {g : TG} {tt : TT} {te : TE} {vs : List Nat} {σ : St} {H1 : Hp} {D : Addr} {Qd : Hp → Prop} (Pv : Nat → Hp → Prop) (h0 : Pv 0 (upd H1 D (.lst []))) (hl : ∀ i H, i ≤ xs.length → Pv i H → SqL K H a xs)
    (hs : ∀ i x H, xs[i]? = some x → Pv i H → g x (wipe σ vs) H fun σ2 H2 => wipe σ2 vs = wipe σ vs ∧ tt σ2 H2 fun b H3 =>
      if b = true then te σ2 H3 fun y H4 => ∃ acc, H4 D = some (.lst acc) ∧ acc.length < sizeLine ∧ Pv (i + 1) (upd H4 D (.lst (acc ++ [y]))) else Pv (i + 1) H3) (hd : ∀ H, Pv xs.length H → Qd H) :
    ∃ W : Nat → Nat → Hp → Prop, (∃ m, W 0 m (upd H1 D (.lst []))) ∧ ∀ i m H, W i m H →
      ((Itl K a).stop i H ∧ Qd H) ∨ ((Itl K a).go i H ∧ ∃ Nx : Hp → Prop, (∀ H', Nx H' → ∃ m', m' < m ∧ W (i + 1) m' H') ∧ ∀ x H', (Itl K a).yld i H x H' → g x (wipe σ vs) H' fun σ2 H2 => wipe σ2 vs = wipe σ vs ∧ tt σ2 H2 fun b H3 =>
        if b = true then te σ2 H3 fun y H4 => ∃ acc, H4 D = some (.lst acc) ∧ acc.length < sizeLine ∧ Nx (upd H4 D (.lst (acc ++ [y]))) else Nx H3) := by
  refine ⟨fun i m H => m = xs.length - i ∧ i ≤ xs.length ∧ Pv i H, ⟨xs.length, by simp, Nat.zero_le _, h0⟩, ?_⟩
  rintro i m H ⟨rfl, hi, p⟩
  have q := hl i H hi p
  by_cases hlt : i < xs.length
  · refine .inr ⟨⟨xs, xs[i], q, by simp [hlt]⟩, Pv (i + 1), fun H' p' => ⟨xs.length - (i + 1), by omega, rfl, hlt, p'⟩, fun x H' y => ?_⟩
    obtain ⟨e, y⟩ := y
    subst e
    exact hs i x _ (y xs q) p
  · have e : i = xs.length := by omega
    subst e
    exact .inl ⟨⟨xs, q, Nat.le_refl _⟩, hd H p⟩
end L2
namespace L2
open PySem PySem.Spec PyProof.Rows
/-- the element of a subscription, not a slice -/
def NoSl (i : Expr) : Prop := ∀ ov iv, subscripted i false ov iv = operate [ov, iv] (getItem ov iv)
theorem subD_of {prog : Program} {w : World} {A : Around} {E : Value → Shared → Prop} {s : Shared} {env : Env} {value slice : Expr} {pos : Pos} {T id : String} {Q : Value → Shared → Prop}
    (hl : typeLookup (.type T) "__getitem__" = pure (some (.builtin id))) (hs : NoSl slice)
    (h : wpAny (model prog w) A (eval value env) (fun o s₁ => wpAny (model prog w) A (eval slice env) (fun i s₂ => s₂.TypeIs o T ∧ wpAny (model prog w) A (getItem o i) Q E s₂) E s₁) E s) :
    wpAny (model prog w) A (eval (.Subscript value slice pos) env) Q E s := by
  refine Subscript_ (wpAny_mono h (fun o s₁ h₁ => wpAny_mono h₁ (fun i s₂ h₂ => ?_) fun _ _ x => x) fun _ _ x => x)
  obtain ⟨hT, h₂⟩ := h₂
  unfold subscriptTail
  refine wpAny_bind ?_
  rw [getitemInPython_of_ne hT.not_modules]
  refine wpAny_bind (wpAny_specialOf hT hl ?_)
  have fin : wpAny (model prog w) A (subscripted slice false o i) (fun r s₃ => wpAny (model prog w) A (letTemporaryGo value o r >>= fun _ => pure r) Q E s₃) E s₂ := by
    rw [hs o i]
    exact wpAny_operating (wpAny_mono h₂ (fun r s₃ h₃ => wpAny_bind (wpAny_letTemporaryGo (wpAny_pure h₃))) fun _ _ x => x)
  first
    | exact wpAny_pure (wpAny_bind fin)
    | exact wpAny_bind (wpAny_pure (wpAny_bind fin))
    | exact wpAny_bind fin
end L2
namespace L2
open PySem PySem.Spec PyProof.Rows
theorem boot_reversed5 : bootBuiltins "reversed" = some (.type "reversed") := by decide +kernel
section
variable {X : Cx}
theorem pi_one {tg : Expr} {pins : List (Addr × Obj)} {σ : St} {H : Hp} {s : Shared} {R : It → Hp → Prop} {J : It} {tn : Nat → Heap → Prop} {tk : Nat} (I : Inv X pins σ H s) (o : Obj)
    (T : Turn X.prog X.w X.K tg J [s.heap.objs.size] s.heap.objs.size tn) (st : tn 0 (s.heap.push o)) (q : R J H) : PIE X pins σ tg R (.ref s.heap.objs.size) { s with heap := s.heap.push o, toks := tk } := by
  refine ⟨s.heap.objs.size, [s.heap.objs.size], tn, J, H, rfl, I.kept fun b ob e => Heap.get?_push_of_some _ e, T, st, fun b hb => ?_, q⟩
  have e : b = s.heap.objs.size := by simpa using hb
  subst e
  exact I.fpOk (Nat.le_refl _) (I.hok.fresh (Nat.le_refl _))
end
/-- the list at a (n items at the start, which the loop leaves there), from its end -/
def Itv (K : PySem.W.Frag) (a : Addr) (n : Nat) : It :=
  ⟨fun i H => i < n ∧ ∃ (xs : List V) (x : V), SqL K H a xs ∧ xs[n - 1 - i]? = some x, fun i H x H' => H' = H ∧ ∀ xs, SqL K H a xs → xs[n - 1 - i]? = some x, fun i _ => n ≤ i⟩
theorem turn_rev {P : Program} {w : World} {K : PySem.W.Frag} {tg : Expr} (a it : Addr) (n : Nat) : Turn P w K tg (Itv K a n) [it] it (fun i h => i ≤ n ∧ h.IsRevIter it a ((n : Int) - 1 - (i : Nat))) where
  mem := by simp
  obj := fun i h st b hb => by
    have e : b = it := by simpa using hb
    subst e
    obtain ⟨_, o, e, c, d⟩ := st
    exact ⟨o, e, fun v z => by rw [d] at z; cases z⟩
  keep := fun i h h' st k => ⟨st.1, st.2.at fun o e => k it (by simp) o e⟩
  item := by
    intro X hP hw hK hc i pins s σ H E I hf st hg
    subst hP hw hK
    obtain ⟨hin, xs, x, hq, hx⟩ := hg
    obtain ⟨its, rv, p, hz⟩ := I.list hq
    obtain ⟨u, hu, ru⟩ := rv.get hx
    obtain ⟨f0, f1, f2, f3, f4, f5⟩ := hf it (by simp)
    obtain ⟨_, hit⟩ := st
    have e1 : (n : Int) - 1 - ((i : Nat) : Int) = ((n - 1 - i : Nat) : Int) := by omega
    rw [e1] at hit
    refine wpAny_pyNext_rev_item hit p.isList (x := u) (by simpa using hu) fun h' st' sb => ?_
    have e2 : ((n - 1 - i : Nat) : Int) - 1 = (n : Int) - 1 - ((i + 1 : Nat) : Int) := by omega
    rw [e2] at st'
    have I1 : Inv X pins σ H { s with heap := h' } := I.turned (t' := s.toks) (fun b o hb e => (sb.2 b hb).trans e) f0 f1 f3 f4 f5
    obtain ⟨o, e, c, d⟩ := id st'
    exact ⟨u, rfl, go_of (s := { s with heap := h' }) e c d (by decide) ⟨x, H, I1, ru, ⟨rfl, fun ys hy => by rw [I.list_inj hy hq]; exact hx⟩, ⟨hin, st'⟩, fun b hb => (hf b hb).1⟩⟩
  done := by
    intro X hP hw hK hc i pins s σ H E I hf st hg
    subst hP hw hK
    obtain ⟨f0, f1, f2, f3, f4, f5⟩ := hf it (by simp)
    obtain ⟨hin, hit⟩ := st
    have hge : n ≤ i := hg
    have e1 : (n : Int) - 1 - ((i : Nat) : Int) = -1 := by omega
    rw [e1] at hit
    exact wpAny_pyNext_rev_end (I.ok.hd hc) hit fun h' eb => ⟨rfl, I.turned (t' := s.toks) (fun b o hb e => eb b o hb e) f0 f1 f3 f4 f5⟩
  self := fun A i s Q E st h => wpAny_pyIter_revIter st.2 h
def iRev (K : PySem.W.Frag) (ta : TA) : TI := fun σ H R => ta σ H fun vs H1 => ∃ (a : Addr) (xs : List V), vs = [.ref a] ∧ SqL K H1 a xs ∧ R (Itv K a xs.length) H1
section
variable {X : Cx} {tg : Expr}
theorem pi_reversed {e : Expr} {ta : TA} {p pos : Pos} (hg : Gl X "reversed") (hm : X.mg "reversed" = none) (ha : PA X [e] ta) (hs : starEach [e] X.env = [(false, eval e X.env)] := by rfl) : PI X tg (.Call (.Name "reversed" p) [e] [] pos) (iRev X.K ta) := by
  intro pins s σ H R I h
  refine Call_ (ld_blt I hg hm boot_reversed5 (PyProof.Rows.callWith_type1 (thn (ha pos pins s σ H _ I h) fun us s1 ⟨vs, H1, I1, r1, q1⟩ => ?_) hs rfl))
  obtain ⟨a, xs, e, hq, q⟩ := q1
  subst e
  cases r1 with
  | cons r rr =>
    cases rr
    cases r
    obtain ⟨its, rv, p', hz⟩ := I1.list hq
    have hl := rv.length
    have e1 : ((its.toArray.size : Nat) : Int) - 1 = (xs.length : Int) - 1 - ((0 : Nat) : Int) := by simp only [List.size_toArray]; omega
    refine call_reversed_list p'.isList (wpAny_pyIter_revIter (l := a) (i := ((its.toArray.size : Nat) : Int) - 1) ⟨_, Heap.get?_push_size _ rfl, rfl, rfl⟩ ?_)
    refine pi_one (tk := s1.toks) I1 _ (turn_rev a _ xs.length) ⟨Nat.zero_le _, ?_⟩ q
    rw [← e1]
    exact ⟨_, Heap.get?_push_size _ rfl, rfl, rfl⟩
end
end L2
section 
end 
section 
end 
namespace Att
open PySem PySem.W PySem.Calls PyProof.Rows
theorem ints_of_wellAll {P : Params} {h : Heap} : ∀ (ns : List Int) (vs : List Value), WellAll P h vs (ns.map WData.int) → IntsAre vs ns := by
  intro ns
  induction ns with
  | nil =>
    intro vs w
    rw [List.map_nil] at w
    cases w
    exact .nil
  | cons n ns ih =>
    intro vs w
    rw [List.map_cons] at w
    cases w with
    | cons a b =>
      cases a
      exact .cons _ _ (ih _ b)
end Att
namespace L2
open PySem PySem.Spec PyProof.Rows
theorem vals_ints : ∀ {vs : List Value} {ns : List Int}, IntsAre vs ns → Vals (ns.map V.int) vs
  | _, _, .nil => .nil
  | _, _, .cons n t h => .cons ⟨t, rfl⟩ (vals_ints h)
/-- nothing is tracked but the script, known to the object (or it is an object of the module) -/
def Only (H : Hp) : Prop := ∀ b, H b = none ∨ ∃ o xs, H b = some (.frz o (.lst xs))
end L2
namespace L2
open PySem PySem.Spec PyProof.Rows
abbrev KOf {K : PySem.W.Frag} {h : Heap} (_ : K.In h) : PySem.W.Frag := K
end L2
namespace L2
open PySem PySem.Spec PyProof.Rows
/-- the j-th statement of a class's body -/
def inClass (s : Stmt) (j : Nat) : Stmt := match s with
  | .ClassDef _ _ _ body _ _ _ _ _ _ _ => body.getD j (.Pass ⟨0, 0, 0, 0⟩)
  | _ => .Pass ⟨0, 0, 0, 0⟩
def defArgs (s : Stmt) : Arguments := match s with
  | .FunctionDef _ a _ _ _ _ _ _ _ _ => a
  | _ => { posonlyargs := [], args := [], vararg := none, kwonlyargs := [], kw_defaults := [], kwarg := none, defaults := [] }
def defBody (s : Stmt) : List Stmt := match s with
  | .FunctionDef _ _ b _ _ _ _ _ _ _ => b
  | _ => []
def defScope (s : Stmt) : Scope := match s with
  | .FunctionDef _ _ _ _ _ _ sc _ _ _ => sc
  | _ => { kind := .function, names := [], isGenerator := false, isCoroutine := false }
abbrev CX0 : CXT := fun _ _ _ _ _ _ => False
abbrev E0 : XK := fun _ _ _ => False
theorem pass0 {X : Cx} : Passes CX0 X E0 := fun _ _ _ _ _ _ _ h => h.elim
structure Fun (K : PySem.W.Frag) (x qual : Str) (st : Stmt) (f : Addr) (fd : FuncData) : Prop where
  ex : ∃ (oc : Value) (od : Option Addr) (kV doc pm : Value) (an : Option Addr) (cdv ct : Value) (osl : Array (Option Value)),
    fd = PySem.W.fnOf x qual (defArgs st) (defBody st) (defScope st) .none kV doc pm an cdv ct ∧ K.lookup f = some ⟨oc, od, .func fd, osl⟩ ∧ PySem.W.codeIn K cdv qual = true
  kp : PySem.W.keepIn K (.ref f) = true
section
variable {P : Program} {w : World} {K : PySem.W.Frag} {mg : Str → Option Value} {base : Heap}
/-- THE RULE for a def: its body as a term of rules, and the reading of that term -/
theorem Fun.ok {x qual : Str} {st : Stmt} {f : Addr} {fd : FuncData} {N ps : List Str} {k : Nat} {sp : Sp} (F : Fun K x qual st f fd) (S : FnScope N ps (defScope st)) (len : ∀ vs H Q E, sp vs H Q E → vs.length = ps.length)
    (hbody : ∀ (cdv : Value) (A : Around) (outer : List Env) (s : Shared) (H : Hp) (vs : List V) (Q : VK) (E : XK), Room k (A.deeper (envOfC qual (defScope st) s.heap.objs.size f cdv)) → sp vs H Q E →
      ∃ t, PSs (cxOf CX0 P w K mg base N qual (defScope st) f cdv A outer s H E).nox (defBody st) t ∧ t { nx := fun _ H' => Q .non H', rt := Q } (start N vs) H) : FnOk P w K mg base CX0 (k + 1) f fd ps sp := by
  obtain ⟨oc, od, kV, doc, pm, an, cdv, ct, osl, rfl, lk, hcd⟩ := F.ex
  refine fn_of lk hcd S len fun A outer s H vs Q E hr hsp => ?_
  obtain ⟨t, h, q⟩ := hbody cdv A outer s H vs Q E hr hsp
  exact ⟨t, h.nox, q⟩
theorem fun_mk {x qual : Str} {st : Stmt} {f : Addr} {oc : Value} {od an : Option Addr} {osl : Array (Option Value)} {kV doc pm cdv ct : Value} (l : K.lookup f = some ⟨oc, od, .func (PySem.W.fnOf x qual (defArgs st) (defBody st) (defScope st) .none kV doc pm an cdv ct), osl⟩)
    (c : PySem.W.codeIn K cdv qual = true) (k : PySem.W.keepIn K (.ref f) = true) : Fun K x qual st f (PySem.W.fnOf x qual (defArgs st) (defBody st) (defScope st) .none kV doc pm an cdv ct) := ⟨⟨oc, od, kV, doc, pm, an, cdv, ct, osl, rfl, l, c⟩, k⟩
end
theorem hu_of {A : Around} {k : Nat} (hr : Room k A) : A.units + 1 < cLine := Nat.lt_of_le_of_lt (Nat.add_le_add_left (by decide : 1 ≤ 64) _) hr.units
section
variable {X : Cx}
theorem pv (i : Nat) {x : Str} {pos : Pos} (hN : X.N[i]? = some x := by rfl) (hv : Vis X.env.scope x := by first | exact Or.inl rfl | exact Or.inr (Or.inl rfl) | exact Or.inr (Or.inr rfl)) (hd : (x == ("__debug__" : Str)) = false := by decide)
    (hcd : (x == ("__classdict__" : Str)) = false := by decide) : PE X (.Name x pos) (tVar i) := pe_var hN hv hd hcd
end
theorem iteF {A B : Prop} (h : B) : if false = true then A else B := by
  rw [if_neg Bool.false_ne_true]
  exact h
theorem iteT {A B : Prop} (h : A) : if true = true then A else B := by
  rw [if_pos rfl]
  exact h
theorem ite2 {c A B : Prop} [Decidable c] (h1 : c → A) (h2 : ¬ c → B) : if c then A else B := by
  by_cases h : c
  · rw [if_pos h]
    exact h1 h
  · rw [if_neg h]
    exact h2 h
/-- all that was tracked is as it was -/
def Same (H H' : Hp) : Prop := ∀ b o, H b = some o → H' b = some o
theorem Same.refl (H : Hp) : Same H H := fun _ _ h => h
theorem Same.trans {H H1 H2 : Hp} (a : Same H H1) (b : Same H1 H2) : Same H H2 := fun c o h => b c o (a c o h)
theorem Same.free {H H' : Hp} (e : Same H H') {l : Addr} (h : H' l = Option.none) : H l = Option.none := by
  cases q : H l with
  | none => rfl
  | some o =>
    rw [e l o q] at h
    cases h
theorem at_of {xs : List V} {z : Int} {j : Nat} {v : V} (e : z = (j : Int)) (h : xs[j]? = some v) : atI xs z = some v := by
  rw [e]
  exact atI_nat h
/-- a new instance and its __init__ leave all that was tracked as it was -/
theorem Same.made {H H1 : Hp} {x dx C : Addr} (nx : H x = Option.none) (nd : H dx = Option.none) (k : ∀ b o, (upd (upd H dx (.own x)) x (.ins C dx [])) b = some o → b ≠ x → H1 b = some o) : Same H H1 := fun b o e =>
  k b o (by rw [upd_ne (ne_of_none e nx), upd_ne (ne_of_none e nd)]; exact e) (ne_of_none e nx)
end L2
namespace Th
open Md35 Given
def Leads (p : P) (l : List Int) (qs : List Ask) (p' : P) : Prop :=
  p.played l = ((p'.played (l.drop qs.length)).1, (p'.played (l.drop qs.length)).2.1, qs ++ (p'.played (l.drop qs.length)).2.2.1, (p'.played (l.drop qs.length)).2.2.2)
theorem Leads.refl (p : P) (l : List Int) : Leads p l [] p := by simp [Leads]
theorem Leads.trans {p p1 p2 : P} {l : List Int} {qs rs : List Ask} (a : Leads p l qs p1) (b : Leads p1 (l.drop qs.length) rs p2) : Leads p l (qs ++ rs) p2 := by
  unfold Leads at *
  rw [a, b]
  simp [List.drop_drop, List.append_assoc]
theorem Leads.ask {s : State} {q : Ask} {k : State → Int → P} {l : List Int} : Leads (.ask s q k) l [q] (k s (l.headD 0)) := by
  simp [Leads, Prog.played]
/-- the replies of a call, how many were used, what was told of the asks -/
structure AS where
  reps : List Int
  n : Nat
  told : List Int
def AS.ans (A : AS) : Int := (A.reps.drop A.n).headD 0
def AS.add (A : AS) (q : Ask) : AS := ⟨A.reps, A.n + 1, A.told ++ Md35Neutral.ofAsk q⟩
def Went (A : AS) (p : P) (A' : AS) (p' : P) : Prop := ∃ qs : List Ask, A' = ⟨A.reps, A.n + qs.length, A.told ++ qs.flatMap Md35Neutral.ofAsk⟩ ∧ Leads p (A.reps.drop A.n) qs p'
theorem Went.refl (A : AS) (p : P) : Went A p A p := ⟨[], by simp, Leads.refl _ _⟩
theorem Went.of_eq {A : AS} {p p' : P} (e : p = p') : Went A p A p' := e ▸ Went.refl A p
theorem Went.trans {A A1 A2 : AS} {p p1 p2 : P} (a : Went A p A1 p1) (b : Went A1 p1 A2 p2) : Went A p A2 p2 := by
  obtain ⟨qs, rfl, h1⟩ := a
  obtain ⟨rs, rfl, h2⟩ := b
  refine ⟨qs ++ rs, by simp [Nat.add_assoc, List.append_assoc], h1.trans ?_⟩
  simpa [List.drop_drop] using h2
theorem Went.ask {A : AS} {s : State} {q : Ask} {k : State → Int → P} : Went A (.ask s q k) (A.add q) (k s A.ans) :=
  ⟨[q], by simp [AS.add], Leads.ask⟩
/-- all that is still to be told has room -/
def Fits (A : AS) (p : P) : Prop := A.told.length + 6 * (p.played (A.reps.drop A.n)).2.2.1.length ≤ 1000000
theorem ofAsk_length (q : Ask) : (Md35Neutral.ofAsk q).length = 6 := by cases q <;> rfl
theorem flat_length (qs : List Ask) : (qs.flatMap Md35Neutral.ofAsk).length = 6 * qs.length := by
  induction qs with
  | nil => rfl
  | cons q r ih => rw [List.flatMap_cons, List.length_append, ih, ofAsk_length, List.length_cons]; omega
theorem Went.fits {A A' : AS} {p p' : P} (w : Went A p A' p') (h : Fits A p) : Fits A' p' := by
  obtain ⟨qs, rfl, hl⟩ := w
  unfold Fits at *
  unfold Leads at hl
  rw [hl] at h
  simp only [List.length_append, flat_length] at h ⊢
  rw [← List.drop_drop]
  omega
theorem Fits.ask {A : AS} {s : State} {q : Ask} {k : State → Int → P} (h : Fits A (.ask s q k)) : A.told.length + 6 ≤ 1000000 := by
  unfold Fits at h
  simp only [Prog.played, List.length_cons] at h
  omega
theorem stack_number {s : State} {k : Nat} {x : Stack} (h : s.stack k = some x) : x.number = k := by
  have := List.find?_some h
  simpa using this
theorem stack_mem {s : State} {k : Nat} {x : Stack} (h : s.stack k = some x) : x ∈ s.stacks := List.mem_of_find?_eq_some h
abbrev fnd (k : Nat) (l : List Stack) : Option Stack := l.find? fun (z : Stack) => z.number == k
theorem fc_pos {y : Stack} {k : Nat} {r : List Stack} (h : y.number = k) : fnd k (y :: r) = some y := by
  have e : (y.number == k) = true := by simp [h]
  simp only [fnd, List.find?_cons, e]
theorem fc_neg {y : Stack} {k : Nat} {r : List Stack} (h : ¬ y.number = k) : fnd k (y :: r) = fnd k r := by
  have e : (y.number == k) = false := by simp [h]
  simp only [fnd, List.find?_cons, e]
theorem find_map_with (x : Stack) (k : Nat) : ∀ l : List Stack, fnd k (l.map fun (y : Stack) => if y.number = x.number then x else y) =
    if k = x.number then (if (fnd k l).isSome = true then some x else none) else fnd k l
  | [] => by simp [fnd]
  | y :: r => by
    have ih := find_map_with x k r
    rw [List.map_cons]
    by_cases hy : y.number = x.number
    · rw [if_pos hy]
      by_cases hk : k = x.number
      · rw [fc_pos hk.symm, fc_pos (hy.trans hk.symm), if_pos hk]
        rfl
      · rw [fc_neg (fun e => hk e.symm), fc_neg (fun e => hk (e.symm.trans hy)), ih]
    · rw [if_neg hy]
      by_cases hk : k = x.number
      · rw [fc_neg (fun e => hy (e.trans hk)), fc_neg (fun e => hy (e.trans hk)), ih]
      · by_cases he : y.number = k
        · rw [fc_pos he, fc_pos he, if_neg hk]
        · rw [fc_neg he, fc_neg he, ih]
theorem stack_with (s : State) (x : Stack) (k : Nat) : (s.with_ x).stack k = if k = x.number then (if (s.stack k).isSome = true then some x else none) else s.stack k :=
  find_map_with x k s.stacks
theorem stack_with_same {s : State} {k : Nat} {x y : Stack} (h : s.stack k = some x) (hy : y.number = k) : (s.with_ y).stack k = some y := by
  rw [stack_with, if_pos hy.symm, h]
  rfl
theorem stack_with_ne {s : State} {k : Nat} {y : Stack} (hy : y.number ≠ k) : (s.with_ y).stack k = s.stack k := by
  rw [stack_with, if_neg fun e => hy e.symm]
theorem find_filter (r k : Nat) : ∀ l : List Stack, fnd k (l.filter fun (y : Stack) => y.number != r) = if k = r then none else fnd k l
  | [] => by simp [fnd]
  | y :: t => by
    have ih := find_filter r k t
    by_cases hy : y.number = r
    · rw [List.filter_cons, if_neg (by simp [hy]), ih]
      by_cases hk : k = r
      · rw [if_pos hk, if_pos hk]
      · rw [fc_neg (fun e => hk (e.symm.trans hy))]
    · have hb : (y.number != r) = true := by simp [hy]
      rw [List.filter_cons, if_pos hb]
      by_cases he : y.number = k
      · have hk : ¬ k = r := fun e => hy (he.trans e)
        rw [fc_pos he, fc_pos he, if_neg hk]
      · rw [fc_neg he, fc_neg he, ih]
theorem stack_without (s : State) (r k : Nat) : (s.without r).stack k = if k = r then none else s.stack k := find_filter r k s.stacks
theorem stack_without_row (s : State) (r k : Nat) (row : List Nat) : ({ (s.without r) with row := row } : State).stack k = if k = r then none else s.stack k := find_filter r k s.stacks
theorem fnd_none {y : Stack} {k : Nat} {r : List Stack} (h : fnd k (y :: r) = none) : ¬ y.number = k ∧ fnd k r = none := by
  have hy : ¬ y.number = k := fun e => by rw [fc_pos e] at h; cases h
  exact ⟨hy, by rw [fc_neg hy] at h; exact h⟩
theorem find_insert (x : Stack) (k : Nat) : ∀ l : List Stack, fnd x.number l = none → fnd k (insertStack x l) = if k = x.number then some x else fnd k l
  | [], _ => by
    unfold insertStack
    by_cases hk : k = x.number
    · rw [fc_pos hk.symm, if_pos hk]
    · rw [fc_neg (fun e => hk e.symm), if_neg hk]
  | y :: r, h => by
    obtain ⟨hy, hr⟩ := fnd_none h
    have ih := find_insert x k r hr
    unfold insertStack
    by_cases hlt : x.number < y.number
    · rw [if_pos hlt]
      by_cases hk : k = x.number
      · rw [fc_pos hk.symm, if_pos hk]
      · rw [fc_neg (fun e => hk e.symm), if_neg hk]
    · rw [if_neg hlt]
      by_cases he : y.number = k
      · have hk : ¬ k = x.number := fun e => hy (he.trans e)
        rw [fc_pos he, fc_pos he, if_neg hk]
      · rw [fc_neg he, fc_neg he, ih]
theorem find_sorted : ∀ {l : List Stack} {x : Stack}, (l.map (·.number)).Pairwise (· < ·) → x ∈ l → l.find? (fun (z : Stack) => z.number == x.number) = some x
  | [], x, _, h => by simp at h
  | y :: r, x, hp, h => by
    rw [List.map_cons, List.pairwise_cons] at hp
    rw [List.find?_cons]
    rcases List.mem_cons.mp h with rfl | h
    · simp
    · have : y.number < x.number := hp.1 _ (List.mem_map.mpr ⟨x, h, rfl⟩)
      have hne : (y.number == x.number) = false := by simp; omega
      rw [hne]
      exact find_sorted hp.2 h
theorem map_with_numbers (x : Stack) : ∀ l : List Stack, (l.map fun (y : Stack) => if y.number = x.number then x else y).map (·.number) = l.map (·.number)
  | [] => rfl
  | y :: r => by
    rw [List.map_cons, List.map_cons, List.map_cons, map_with_numbers x r]
    by_cases hy : y.number = x.number
    · rw [if_pos hy, hy]
    · rw [if_neg hy]
theorem insert_numbers (x : Stack) : ∀ l : List Stack, ∀ n, n ∈ (insertStack x l).map (·.number) ↔ n = x.number ∨ n ∈ l.map (·.number)
  | [], n => by simp [insertStack]
  | y :: r, n => by
    unfold insertStack
    split
    · simp
    · rw [List.map_cons, List.mem_cons, insert_numbers x r n, List.map_cons, List.mem_cons]
      constructor
      · rintro (h | h | h)
        · exact .inr (.inl h)
        · exact .inl h
        · exact .inr (.inr h)
      · rintro (h | h | h)
        · exact .inr (.inl h)
        · exact .inl h
        · exact .inr (.inr h)
theorem insert_sorted (x : Stack) : ∀ l : List Stack, (l.map (·.number)).Pairwise (· < ·) → (l.find? fun (z : Stack) => z.number == x.number) = none → ((insertStack x l).map (·.number)).Pairwise (· < ·)
  | [], _, _ => by simp [insertStack]
  | y :: r, hp, h => by
    obtain ⟨hy, hr⟩ := fnd_none h
    rw [List.map_cons, List.pairwise_cons] at hp
    unfold insertStack
    by_cases hlt : x.number < y.number
    · rw [if_pos hlt, List.map_cons, List.pairwise_cons]
      refine ⟨fun n hn => ?_, by rw [List.map_cons, List.pairwise_cons]; exact hp⟩
      rw [List.map_cons] at hn
      rcases List.mem_cons.mp hn with rfl | hn
      · exact hlt
      · exact Nat.lt_trans hlt (hp.1 n hn)
    · rw [if_neg hlt, List.map_cons, List.pairwise_cons]
      refine ⟨fun n hn => ?_, insert_sorted x r hp.2 hr⟩
      rcases (insert_numbers x r n).mp hn with rfl | hn
      · omega
      · exact hp.1 n hn
theorem filter_sorted {l : List Stack} {p : Stack → Bool} (h : (l.map (·.number)).Pairwise (· < ·)) : ((l.filter p).map (·.number)).Pairwise (· < ·) := by
  rw [List.pairwise_map] at *
  exact h.filter p
def szF (f : Frame) : Nat := 2 + f.acts.length
def szS (x : Stack) : Nat := 2 + (x.frames.map szF).sum
theorem size_eq (s : State) : s.size = (s.stacks.map szS).sum + 2 := rfl
theorem sum_with {x y : Stack} : ∀ {l : List Stack}, (l.map (·.number)).Pairwise (· < ·) → x ∈ l → y.number = x.number →
    ((l.map fun (z : Stack) => if z.number = y.number then y else z).map szS).sum + szS x = (l.map szS).sum + szS y
  | [], _, h, _ => by simp at h
  | z :: r, hp, h, e => by
    rw [List.map_cons, List.pairwise_cons] at hp
    have other : ∀ {t : List Stack}, (∀ n ∈ t.map (·.number), x.number < n) → (t.map fun (z : Stack) => if z.number = y.number then y else z) = t := by
      intro t ht
      induction t with
      | nil => rfl
      | cons u v ih =>
        have hu : x.number < u.number := ht _ (by simp)
        have hne : ¬ u.number = y.number := by omega
        rw [List.map_cons, if_neg hne, ih fun n hn => ht n (by rw [List.map_cons]; exact List.mem_cons_of_mem _ hn)]
    rcases List.mem_cons.mp h with rfl | h
    · rw [List.map_cons, if_pos e.symm, other hp.1, List.map_cons, List.map_cons, List.sum_cons, List.sum_cons]
      omega
    · have hz : z.number < x.number := hp.1 _ (List.mem_map.mpr ⟨x, h, rfl⟩)
      have ih := sum_with hp.2 h e
      rw [List.map_cons, if_neg (by omega), List.map_cons, List.map_cons, List.sum_cons, List.sum_cons]
      omega
theorem sum_without {x : Stack} : ∀ {l : List Stack}, (l.map (·.number)).Pairwise (· < ·) → x ∈ l → ((l.filter fun (z : Stack) => z.number != x.number).map szS).sum + szS x = (l.map szS).sum
  | [], _, h => by simp at h
  | z :: r, hp, h => by
    rw [List.map_cons, List.pairwise_cons] at hp
    have other : ∀ {t : List Stack}, (∀ n ∈ t.map (·.number), x.number < n) → (t.filter fun (z : Stack) => z.number != x.number) = t := by
      intro t ht
      refine List.filter_eq_self.mpr fun u hu => ?_
      have := ht _ (List.mem_map.mpr ⟨u, hu, rfl⟩)
      simp
      omega
    rcases List.mem_cons.mp h with rfl | h
    · rw [List.filter_cons, if_neg (by simp), other hp.1, List.map_cons, List.sum_cons]
      omega
    · have hz : z.number < x.number := hp.1 _ (List.mem_map.mpr ⟨x, h, rfl⟩)
      have ih := sum_without hp.2 h
      have hne : (z.number != x.number) = true := by simp; omega
      rw [List.filter_cons, if_pos hne, List.map_cons, List.map_cons, List.sum_cons, List.sum_cons]
      omega
structure SW (x : Stack) : Prop where
  fit : x.frames.length ≤ 8 * x.pieces.length
  pnd : x.pieces.Nodup
  psm : ∀ p ∈ x.pieces, p < 256
  wds : ∀ f ∈ x.frames, f.words.length = 4
  acl : ∀ f ∈ x.frames, f.acts.length ≤ 32
structure WF (s : State) : Prop where
  sorted : (s.stacks.map (·.number)).Pairwise (· < ·)
  small : ∀ k x, s.stack k = some x → k < 64
  rnd : s.row.Nodup
  sw : ∀ k x, s.stack k = some x → SW x
  pdj : ∀ j k x y, s.stack j = some x → s.stack k = some y → j ≠ k → ∀ p ∈ x.pieces, p ∉ y.pieces
/-- between two steps -/
structure Good (s : State) : Prop extends WF s where
  rin : ∀ r ∈ s.row, ∃ x, s.stack r = some x
  live : ∀ k x, s.stack k = some x → x.frames ≠ []
theorem mem_stack {s : State} (h : WF s) {x : Stack} (hx : x ∈ s.stacks) : s.stack x.number = some x := find_sorted h.sorted hx
theorem nodup_small : ∀ (n : Nat) (l : List Nat), l.Nodup → (∀ p ∈ l, p < n) → l.length ≤ n
  | 0, l, _, h => by
    cases l with
    | nil => simp
    | cons a r => exact absurd (h a (by simp)) (by omega)
  | n + 1, l, hd, h => by
    have h1 : (l.filter fun p => p != n).length ≤ n := nodup_small n _ (hd.filter _) fun p hp => by
      obtain ⟨a, b⟩ := List.mem_filter.mp hp
      have := h p a
      simp at b
      omega
    have h2 : l.length ≤ (l.filter fun p => p != n).length + 1 := by
      clear h1 h
      induction l with
      | nil => simp
      | cons a r ih =>
        rw [List.nodup_cons] at hd
        by_cases ha : a = n
        · subst ha
          have : (r.filter fun p => p != a) = r := List.filter_eq_self.mpr fun p hp => by
            simp
            exact fun e => hd.1 (e ▸ hp)
          rw [List.filter_cons, if_neg (by simp), this, List.length_cons]
          exact Nat.le_refl _
        · have hb : (a != n) = true := by simp [ha]
          rw [List.filter_cons, if_pos hb, List.length_cons, List.length_cons]
          have := ih hd.2
          omega
    omega
theorem SW.pieces_le {x : Stack} (h : SW x) : x.pieces.length ≤ 256 := nodup_small 256 _ h.pnd h.psm
theorem SW.frames_le {x : Stack} (h : SW x) : x.frames.length ≤ 2048 := by
  have := h.pieces_le
  have := h.fit
  omega
theorem WF.stacks_sum {s : State} (h : WF s) {k : Nat} {x y : Stack} (hx : s.stack k = some x) (hy : y.number = k) : (s.with_ y).size + szS x = s.size + szS y := by
  have e := stack_number hx
  have := sum_with (y := y) h.sorted (stack_mem hx) (by omega)
  show ((s.stacks.map fun (z : Stack) => if z.number = y.number then y else z).map szS).sum + 2 + szS x = (s.stacks.map szS).sum + 2 + szS y
  omega
theorem WF.without_sum {s : State} (h : WF s) {k : Nat} {x : Stack} (hx : s.stack k = some x) : (s.without k).size + szS x = s.size := by
  have e := stack_number hx
  have := sum_without h.sorted (stack_mem hx)
  rw [e] at this
  show ((s.stacks.filter fun (z : Stack) => z.number != k).map szS).sum + 2 + szS x = (s.stacks.map szS).sum + 2
  omega
theorem size_pos (s : State) : 2 ≤ s.size := by rw [size_eq]; omega
end Th
namespace Th
open Md35 Given
theorem SW.top {x : Stack} {f f' : Frame} {fs : List Frame} (h : SW x) (hf : x.frames = f :: fs) (hw : f'.words.length = 4) (ha : f'.acts.length ≤ 32) (c : Came) : SW { (x.top f') with came := c } := by
  have e : (x.top f').frames = f' :: fs := by
    show f' :: x.frames.drop 1 = _
    rw [hf]
    rfl
  refine ⟨?_, h.pnd, h.psm, fun g hg => ?_, fun g hg => ?_⟩
  · have := h.fit
    rw [hf] at this
    show (x.top f').frames.length ≤ 8 * x.pieces.length
    rw [e]
    simpa using this
  · have hg' : g ∈ (x.top f').frames := hg
    rw [e] at hg'
    rcases List.mem_cons.mp hg' with rfl | hg'
    · exact hw
    · exact h.wds g (by rw [hf]; exact List.mem_cons_of_mem _ hg')
  · have hg' : g ∈ (x.top f').frames := hg
    rw [e] at hg'
    rcases List.mem_cons.mp hg' with rfl | hg'
    · exact ha
    · exact h.acl g (by rw [hf]; exact List.mem_cons_of_mem _ hg')
theorem top_frames {x : Stack} {f f' : Frame} {fs : List Frame} (hf : x.frames = f :: fs) : (x.top f').frames = f' :: fs := by
  show f' :: x.frames.drop 1 = _
  rw [hf]
  rfl
theorem pop_frames {x : Stack} {f : Frame} {fs : List Frame} (hf : x.frames = f :: fs) : x.pop.frames = fs := by
  show x.frames.drop 1 = fs
  rw [hf]
  rfl
theorem SW.came {x : Stack} (h : SW x) (c : Came) : SW { x with came := c } := ⟨h.fit, h.pnd, h.psm, h.wds, h.acl⟩
theorem pop_pieces {x : Stack} {f : Frame} {fs : List Frame} (hf : x.frames = f :: fs) : x.pop.pieces = if 1 < x.pieces.length ∧ fs.length ≤ 8 * (x.pieces.length - 1) then x.pieces.dropLast else x.pieces := by
  show (if 1 < x.pieces.length ∧ (x.frames.drop 1).length ≤ ROOM * (x.pieces.length - 1) then x.pieces.dropLast else x.pieces) = _
  rw [hf]
  rfl
theorem pop_sub {x : Stack} {p : Nat} (h : p ∈ x.pop.pieces) : p ∈ x.pieces := by
  have h' : p ∈ (if 1 < x.pieces.length ∧ (x.frames.drop 1).length ≤ ROOM * (x.pieces.length - 1) then x.pieces.dropLast else x.pieces) := h
  split at h'
  · exact (List.dropLast_sublist _).subset h'
  · exact h'
theorem SW.pop {x : Stack} {f : Frame} {fs : List Frame} (h : SW x) (hf : x.frames = f :: fs) : SW x.pop := by
  have ef := pop_frames hf
  have ep := pop_pieces hf
  have h1 := h.fit
  rw [hf, List.length_cons] at h1
  refine ⟨?_, ?_, fun p hp => h.psm p (pop_sub hp), fun g hg => ?_, fun g hg => ?_⟩
  · rw [ef, ep]
    split
    · rename_i c
      rw [List.length_dropLast]
      omega
    · omega
  · rw [ep]
    split
    · exact h.pnd.sublist (List.dropLast_sublist _)
    · exact h.pnd
  · rw [ef] at hg
    exact h.wds g (by rw [hf]; exact List.mem_cons_of_mem _ hg)
  · rw [ef] at hg
    exact h.acl g (by rw [hf]; exact List.mem_cons_of_mem _ hg)
theorem WF.row {s : State} (h : WF s) {row : List Nat} (hn : row.Nodup) : WF { s with row := row } := ⟨h.sorted, h.small, hn, h.sw, h.pdj⟩
theorem WF.unc {s : State} (h : WF s) (t : Option Throw) : WF { s with uncaught := t } := ⟨h.sorted, h.small, h.rnd, h.sw, h.pdj⟩
theorem with_cases {s : State} {k j : Nat} {x y z : Stack} (hx : s.stack k = some x) (hy : y.number = k) (h : (s.with_ y).stack j = some z) : (j = k ∧ z = y) ∨ (j ≠ k ∧ s.stack j = some z) := by
  by_cases hj : j = k
  · subst hj
    rw [stack_with_same hx hy] at h
    exact .inl ⟨rfl, (Option.some.inj h).symm⟩
  · rw [stack_with_ne (by omega)] at h
    exact .inr ⟨hj, h⟩
theorem WF.with_ {s : State} (h : WF s) {k : Nat} {x y : Stack} (hx : s.stack k = some x) (hy : y.number = k) (sy : SW y) (hp : ∀ p ∈ y.pieces, p ∈ x.pieces ∨ ∀ j z, s.stack j = some z → p ∉ z.pieces) : WF (s.with_ y) := by
  refine ⟨?_, fun j z e => ?_, h.rnd, fun j z e => ?_, fun j i z u e1 e2 hne p hp1 hp2 => ?_⟩
  · show ((s.stacks.map fun (z : Stack) => if z.number = y.number then y else z).map (·.number)).Pairwise (· < ·)
    rw [map_with_numbers]
    exact h.sorted
  · rcases with_cases hx hy e with ⟨rfl, rfl⟩ | ⟨_, e⟩
    · exact h.small _ _ hx
    · exact h.small _ _ e
  · rcases with_cases hx hy e with ⟨rfl, rfl⟩ | ⟨_, e⟩
    · exact sy
    · exact h.sw _ _ e
  · rcases with_cases hx hy e1 with ⟨a1, b1⟩ | ⟨n1, c1⟩
    · rcases with_cases hx hy e2 with ⟨a2, b2⟩ | ⟨n2, c2⟩
      · exact hne (a1.trans a2.symm)
      · subst a1 b1
        rcases hp p hp1 with q | q
        · exact h.pdj _ _ _ _ hx c2 hne p q hp2
        · exact q _ _ c2 hp2
    · rcases with_cases hx hy e2 with ⟨a2, b2⟩ | ⟨n2, c2⟩
      · subst a2 b2
        rcases hp p hp2 with q | q
        · exact h.pdj _ _ _ _ hx c1 (fun z => hne z.symm) p q hp1
        · exact q _ _ c1 hp1
      · exact h.pdj _ _ _ _ c1 c2 hne p hp1 hp2
theorem WF.withP {s : State} (h : WF s) {k : Nat} {x y : Stack} (hx : s.stack k = some x) (hy : y.number = k) (sy : SW y) (hp : ∀ p ∈ y.pieces, p ∈ x.pieces) : WF (s.with_ y) := h.with_ hx hy sy fun p q => .inl (hp p q)
theorem WF.without {s : State} (h : WF s) (r : Nat) : WF (s.without r) := by
  have c : ∀ {j z}, (s.without r).stack j = some z → s.stack j = some z := fun {j z} e => by
    rw [stack_without] at e
    split at e
    · cases e
    · exact e
  exact ⟨filter_sorted h.sorted, fun j z e => h.small j z (c e), h.rnd, fun j z e => h.sw j z (c e), fun j i z u e1 e2 hne => h.pdj j i z u (c e1) (c e2) hne⟩
theorem without_cases {s : State} {r j : Nat} {z : Stack} (e : (s.without r).stack j = some z) : j ≠ r ∧ s.stack j = some z := by
  rw [stack_without] at e
  split at e
  · cases e
  · rename_i h
    exact ⟨h, e⟩
theorem Good.row {s : State} (h : Good s) {row : List Nat} (hn : row.Nodup) (hr : ∀ r ∈ row, ∃ x, s.stack r = some x) : Good { s with row := row } := ⟨h.toWF.row hn, hr, h.live⟩
theorem Good.unc {s : State} (h : Good s) (t : Option Throw) : Good { s with uncaught := t } := ⟨h.toWF.unc t, h.rin, h.live⟩
theorem Good.with_ {s : State} (h : Good s) {k : Nat} {x y : Stack} (hx : s.stack k = some x) (w : WF (s.with_ y)) (hy : y.number = k) (hf : y.frames ≠ []) : Good (s.with_ y) := by
  refine ⟨w, fun r hr => ?_, fun j z e => ?_⟩
  · obtain ⟨z, hz⟩ := h.rin r hr
    by_cases hrk : r = k
    · subst hrk
      exact ⟨y, stack_with_same hx hy⟩
    · exact ⟨z, by rw [stack_with_ne (by omega)]; exact hz⟩
  · rcases with_cases hx hy e with ⟨rfl, rfl⟩ | ⟨_, e⟩
    · exact hf
    · exact h.live _ _ e
theorem Good.withP {s : State} (h : Good s) {k : Nat} {x y : Stack} (hx : s.stack k = some x) (hy : y.number = k) (sy : SW y) (hp : ∀ p ∈ y.pieces, p ∈ x.pieces) (hf : y.frames ≠ []) : Good (s.with_ y) :=
  h.with_ hx (h.toWF.withP hx hy sy hp) hy hf
theorem Good.top {s : State} (h : Good s) {k : Nat} {x : Stack} {f f' : Frame} {fs : List Frame} (hx : s.stack k = some x) (hf : x.frames = f :: fs) (hw : f'.words.length = 4) (ha : f'.acts.length ≤ 32) (c : Came) : Good (s.with_ { (x.top f') with came := c }) :=
  h.withP hx (show x.number = k from stack_number hx) ((h.sw k x hx).top hf hw ha c) (fun p hp => hp) (by
    show (x.top f').frames ≠ []
    rw [top_frames hf]
    simp)
theorem Good.came {s : State} (h : Good s) {k : Nat} {x : Stack} (hx : s.stack k = some x) (c : Came) : Good (s.with_ { x with came := c }) :=
  h.withP hx (show x.number = k from stack_number hx) ((h.sw k x hx).came c) (fun p hp => hp) (h.live k x hx)
theorem Good.pop {s : State} (h : Good s) {k : Nat} {x : Stack} {f : Frame} {fs : List Frame} (hx : s.stack k = some x) (hf : x.frames = f :: fs) (hn : fs ≠ []) : Good (s.with_ x.pop) :=
  h.withP hx (show x.number = k from stack_number hx) ((h.sw k x hx).pop hf) (fun p hp => pop_sub hp) (by rw [pop_frames hf]; exact hn)
theorem WF.pop {s : State} (h : WF s) {k : Nat} {x : Stack} {f : Frame} {fs : List Frame} (hx : s.stack k = some x) (hf : x.frames = f :: fs) : WF (s.with_ x.pop) :=
  h.withP hx (show x.number = k from stack_number hx) ((h.sw k x hx).pop hf) (fun p hp => pop_sub hp)
theorem Good.gone {s : State} (h : Good s) {r : Nat} {rest : List Nat} (hr : s.row = r :: rest) : Good { (s.without r) with row := rest } := by
  have hn := h.rnd
  rw [hr, List.nodup_cons] at hn
  refine ⟨(h.toWF.without r).row hn.2, fun q hq => ?_, fun j z e => h.live j z (without_cases (s := s) (r := r) e).2⟩
  obtain ⟨z, hz⟩ := h.rin q (by rw [hr]; exact List.mem_cons_of_mem _ hq)
  exact ⟨z, by rw [stack_without_row, if_neg (fun e => hn.1 (by rw [← e]; exact hq))]; exact hz⟩
theorem without_with {s : State} {y : Stack} : (s.with_ y).without y.number = s.without y.number := by
  have e : ((s.stacks.map fun (z : Stack) => if z.number = y.number then y else z).filter fun (z : Stack) => z.number != y.number) = s.stacks.filter fun (z : Stack) => z.number != y.number := by
    induction s.stacks with
    | nil => rfl
    | cons z l ih =>
      rw [List.map_cons]
      by_cases hz : z.number = y.number
      · rw [if_pos hz, List.filter_cons, if_neg (by simp), List.filter_cons, if_neg (by simp [hz]), ih]
      · have hb : (z.number != y.number) = true := by simp [hz]
        rw [if_neg hz, List.filter_cons, if_pos hb, List.filter_cons, if_pos hb, ih]
  exact congrArg (fun l => ({ s with stacks := l } : State)) e
theorem fm_congr {α β : Type} {f g : α → Option β} : ∀ {l : List α}, (∀ a ∈ l, f a = g a) → l.filterMap f = l.filterMap g
  | [], _ => rfl
  | a :: l, h => by rw [List.filterMap_cons, List.filterMap_cons, h a (by simp), fm_congr fun b hb => h b (List.mem_cons_of_mem _ hb)]
theorem running_of {s : State} {r : Nat} {rest : List Nat} {x : Stack} (hr : s.row = r :: rest) (hx : s.stack r = some x) : s.running = some x := by
  show s.row.head?.bind s.stack = _
  rw [hr]
  exact hx
theorem come_of {s : State} {r : Nat} {rest : List Nat} {x : Stack} (hr : s.row = r :: rest) (hx : s.stack r = some x) (c : Came) : s.come c = s.with_ { x with came := c } := by
  unfold State.come
  rw [running_of hr hx]
theorem Good.head {s : State} (h : Good s) {r : Nat} {rest : List Nat} (hr : s.row = r :: rest) : ∃ x f fs, s.stack r = some x ∧ x.frames = f :: fs := by
  obtain ⟨x, hx⟩ := h.rin r (by rw [hr]; simp)
  have hl := h.live r x hx
  cases hf : x.frames with
  | nil => exact absurd hf hl
  | cons f fs => exact ⟨x, f, fs, hx, hf⟩
theorem Good.come {s : State} (h : Good s) (c : Came) : Good (s.come c) := by
  cases hr : s.row with
  | nil =>
    have : s.come c = s := by
      unfold State.come State.running
      rw [hr]
      rfl
    rw [this]
    exact h
  | cons r rest =>
    obtain ⟨x, f, fs, hx, hf⟩ := h.head hr
    rw [come_of hr hx]
    exact h.came hx c
theorem szS_top {x : Stack} {f f' : Frame} {fs : List Frame} (hf : x.frames = f :: fs) (c : Came) : szS { (x.top f') with came := c } + szF f = szS x + szF f' := by
  show 2 + ((x.top f').frames.map szF).sum + szF f = 2 + (x.frames.map szF).sum + szF f'
  rw [top_frames hf, hf, List.map_cons, List.map_cons, List.sum_cons, List.sum_cons]
  omega
theorem size_top {s : State} (h : WF s) {k : Nat} {x : Stack} {f f' : Frame} {fs : List Frame} (hx : s.stack k = some x) (hf : x.frames = f :: fs) : (s.with_ (x.top f')).size + f.acts.length = s.size + f'.acts.length := by
  have h1 := h.stacks_sum (y := x.top f') hx (show x.number = k from stack_number hx)
  have h2 := szS_top (f' := f') hf x.came
  have h3 : szS { (x.top f') with came := x.came } = szS (x.top f') := rfl
  rw [h3] at h2
  unfold szF at h2
  omega
theorem size_act {s : State} (h : WF s) {k : Nat} {x : Stack} {f : Frame} {fs : List Frame} {a : Act} {l : List Act} (hx : s.stack k = some x) (hf : x.frames = f :: fs) (ha : f.acts = a :: l) : (s.with_ (x.top { f with acts := l })).size + 1 = s.size := by
  have := size_top (f' := { f with acts := l }) h hx hf
  rw [ha] at this
  simp at this
  omega
theorem szS_pop {x : Stack} {f : Frame} {fs : List Frame} (hf : x.frames = f :: fs) : szS x.pop + szF f = szS x := by
  show 2 + (x.pop.frames.map szF).sum + szF f = 2 + (x.frames.map szF).sum
  rw [pop_frames hf, hf, List.map_cons, List.sum_cons]
  omega
theorem size_pop {s : State} (h : WF s) {k : Nat} {x : Stack} {f : Frame} {fs : List Frame} (hx : s.stack k = some x) (hf : x.frames = f :: fs) : (s.with_ x.pop).size + 2 ≤ s.size := by
  have h1 := h.stacks_sum (y := x.pop) hx (show x.number = k from stack_number hx)
  have h2 := szS_pop hf
  unfold szF at h2
  omega
theorem size_without {s : State} (h : WF s) {k : Nat} {x : Stack} (hx : s.stack k = some x) : (s.without k).size + 2 ≤ s.size := by
  have h1 := h.without_sum hx
  unfold szS at h1
  omega
section
variable {n : Nat} {s : State} {t : Throw} {k : State → P} {r : Nat} {rest : List Nat} {x : Stack} {f : Frame} {fs : List Frame} {l : List Act}
theorem unwind_nil (hr : s.row = []) : unwind n s t k = .done { s with uncaught := some t } ⟨1, [(t.kind : Int), t.value, (t.causes.length : Int)]⟩ := by
  cases n with
  | zero => rfl
  | succ n => simp only [unwind, hr]
theorem unwind_gone (hr : s.row = r :: rest) (hx : s.stack r = some x) (hf : x.frames = []) : unwind (n + 1) s t k = unwind n { (s.without r) with row := rest } t k := by
  simp only [unwind, hr, hx, hf]
theorem unwind_pop (hr : s.row = r :: rest) (hx : s.stack r = some x) (hf : x.frames = f :: fs) (ha : f.acts = []) : unwind (n + 1) s t k = unwind n (s.with_ x.pop) t k := by
  simp only [unwind, hr, hx, hf, ha]
theorem unwind_catch {h : Nat} (hr : s.row = r :: rest) (hx : s.stack r = some x) (hf : x.frames = f :: fs) (ha : f.acts = .handler h :: l) (hc : h = 0 ∨ h = t.kind) :
    unwind (n + 1) s t k = k (s.with_ { (x.top { f with acts := l, caught := some t }) with came := ⟨2, t.value, (t.kind : Int)⟩ }) := by
  simp only [unwind, hr, hx, hf, ha]
  rw [if_pos hc]
theorem unwind_skip {h : Nat} (hr : s.row = r :: rest) (hx : s.stack r = some x) (hf : x.frames = f :: fs) (ha : f.acts = .handler h :: l) (hc : ¬ (h = 0 ∨ h = t.kind)) :
    unwind (n + 1) s t k = unwind n (s.with_ (x.top { f with acts := l })) t k := by
  simp only [unwind, hr, hx, hf, ha]
  rw [if_neg hc]
theorem unwind_last {g : Nat} (hr : s.row = r :: rest) (hx : s.stack r = some x) (hf : x.frames = f :: fs) (ha : f.acts = .last g :: l) :
    unwind (n + 1) s t k = .ask (s.with_ (x.top { f with acts := l })) (.clean g 1) fun u z => unwind n u (if 0 < z then over (thrown z.toNat) t else t) k := by
  simp only [unwind, hr, hx, hf, ha]
variable {v : Int}
theorem leave_skip {h : Nat} (hr : s.row = r :: rest) (hx : s.stack r = some x) (hf : x.frames = f :: fs) (ha : f.acts = .handler h :: l) : leave (n + 1) s v k = leave n (s.with_ (x.top { f with acts := l })) v k := by
  simp only [leave, hr, hx, hf, ha]
theorem leave_last {g : Nat} (hr : s.row = r :: rest) (hx : s.stack r = some x) (hf : x.frames = f :: fs) (ha : f.acts = .last g :: l) :
    leave (n + 1) s v k = .ask (s.with_ (x.top { f with acts := l })) (.clean g 0) fun u z => if 0 < z then unwind u.size u (thrown z.toNat) k else leave n u v k := by
  simp only [leave, hr, hx, hf, ha]
theorem leave_pop {g : Frame} {gs : List Frame} (hr : s.row = r :: rest) (hx : s.stack r = some x) (hf : x.frames = f :: g :: gs) (ha : f.acts = []) : leave (n + 1) s v k = k (s.with_ { x.pop with came := ⟨1, v, 0⟩ }) := by
  simp only [leave, hr, hx, hf, ha]
  rfl
theorem leave_out (hr : s.row = [r]) (hx : s.stack r = some x) (hf : x.frames = [f]) (ha : f.acts = []) : leave (n + 1) s v k = .done { (s.without r) with row := [] } ⟨0, [v]⟩ := by
  simp only [leave, hr, hx, hf, ha]
  rfl
theorem leave_back {q : Nat} {rest' : List Nat} (hr : s.row = r :: q :: rest') (hx : s.stack r = some x) (hf : x.frames = [f]) (ha : f.acts = []) : leave (n + 1) s v k = k (({ (s.without r) with row := q :: rest' } : State).come ⟨5, v, (r : Int)⟩) := by
  simp only [leave, hr, hx, hf, ha]
  rfl
variable {ts : List Throw} {kk : State → List Throw → P}
theorem ending_gone (hx : s.stack r = some x) (hf : x.frames = []) : ending (n + 1) s r ts kk = kk (s.without r) ts := by
  simp only [ending, hx, hf]
theorem ending_pop (hx : s.stack r = some x) (hf : x.frames = f :: fs) (ha : f.acts = []) : ending (n + 1) s r ts kk = ending n (s.with_ x.pop) r ts kk := by
  simp only [ending, hx, hf, ha]
theorem ending_skip {h : Nat} (hx : s.stack r = some x) (hf : x.frames = f :: fs) (ha : f.acts = .handler h :: l) : ending (n + 1) s r ts kk = ending n (s.with_ (x.top { f with acts := l })) r ts kk := by
  simp only [ending, hx, hf, ha]
theorem ending_last {g : Nat} (hx : s.stack r = some x) (hf : x.frames = f :: fs) (ha : f.acts = .last g :: l) :
    ending (n + 1) s r ts kk = .ask (s.with_ (x.top { f with acts := l })) (.clean g 2) fun u z => ending n u r (if 0 < z then thrown z.toNat :: ts else ts) kk := by
  simp only [ending, hx, hf, ha]
end
theorem take_cons_take {α : Type} (a : α) (l : List α) (n : Nat) : (a :: l.take n).take n = (a :: l).take n := by
  cases n with
  | zero => rfl
  | succ n => rw [List.take_succ_cons, List.take_succ_cons, List.take_take]; congr 1; congr 1; omega
theorem gathered_over {t o : Throw} {ts : List Throw} {u : Throw} (ht : t.causes = []) (hg : gathered (o :: ts) = some u) : gathered (t :: o :: ts) = some (over t u) := by
  cases hg
  show some _ = some _
  congr 1
  unfold over
  congr 1
  rw [ht, List.nil_append]
  show ((o.kind, o.value) :: ts.map _).take CAUSES = ((o.kind, o.value) :: (ts.map _).take CAUSES).take CAUSES
  rw [take_cons_take]
theorem gathered_one {t : Throw} (ht : t.causes = []) : gathered [t] = some t := by
  show some ({ t with causes := [] } : Throw) = some t
  rw [← ht]
def wt (row : List Nat) (k : Nat) : Option Nat := match row with
  | a :: b :: r => if a = k then some b else wt (b :: r) k
  | _ => none
theorem waits_wt (k : Nat) : ∀ row : List Nat, waits row k = match wt row k with
    | some j => (j : Int)
    | none => -1
  | [] => rfl
  | [a] => by
    unfold waits wt
    rw [List.findIdx?_cons]
    by_cases h : a = k
    · have : (a == k) = true := by simp [h]
      rw [this]
      rfl
    · have : (a == k) = false := by simp [h]
      rw [this]
      rfl
  | a :: b :: r => by
    have ih := waits_wt k (b :: r)
    unfold waits wt
    rw [List.findIdx?_cons]
    by_cases h : a = k
    · have : (a == k) = true := by simp [h]
      rw [this, if_pos h]
      rfl
    · have hf : (a == k) = false := by simp [h]
      rw [hf, if_neg h, ← ih]
      unfold waits
      cases (b :: r).findIdx? fun x => x == k with
      | none => rfl
      | some i => rfl
theorem stacks_range : ∀ (n a : Nat) (l : List Stack), (l.map (·.number)).Pairwise (· < ·) → (∀ x ∈ l, a ≤ x.number ∧ x.number < a + n) → (List.range' a n).filterMap (fun k => fnd k l) = l
  | 0, a, l, _, h => by
    cases l with
    | nil => rfl
    | cons x r => exact absurd (h x (by simp)) (by omega)
  | n + 1, a, l, hp, h => by
    rw [List.range'_succ]
    cases l with
    | nil =>
      rw [List.filterMap_eq_nil_iff]
      intro k _
      rfl
    | cons x r =>
      rw [List.map_cons, List.pairwise_cons] at hp
      have hr : ∀ y ∈ r, x.number < y.number := fun y hy => hp.1 _ (List.mem_map.mpr ⟨y, hy, rfl⟩)
      by_cases hx : x.number = a
      · rw [List.filterMap_cons, fc_pos hx]
        have e : (List.range' (a + 1) n).filterMap (fun k => fnd k (x :: r)) = (List.range' (a + 1) n).filterMap (fun k => fnd k r) := by
          refine fm_congr fun k hk => ?_
          rw [fc_neg]
          have := (List.mem_range'_1.mp hk).1
          omega
        simp only [e]
        rw [stacks_range n (a + 1) r hp.2 fun y hy => ⟨by have := hr y hy; omega, by have := (h y (List.mem_cons_of_mem _ hy)).2; omega⟩]
      · have h0 := h x (by simp)
        have e0 : fnd a (x :: r) = none := by
          rw [fc_neg hx]
          unfold fnd
          rw [List.find?_eq_none]
          intro y hy
          have := hr y hy
          simp
          omega
        rw [List.filterMap_cons, e0]
        exact stacks_range n (a + 1) (x :: r) (by rw [List.map_cons, List.pairwise_cons]; exact hp) fun y hy => by
          rcases List.mem_cons.mp hy with rfl | hy
          · exact ⟨by omega, by omega⟩
          · have := hr y hy
            exact ⟨by omega, by have := (h y (List.mem_cons_of_mem _ hy)).2; omega⟩
theorem WF.stacks {s : State} (h : WF s) : (List.range 64).filterMap s.stack = s.stacks := by
  rw [List.range_eq_range']
  exact stacks_range 64 0 s.stacks h.sorted fun x hx => ⟨Nat.zero_le _, by have := h.small _ _ (mem_stack h hx); omega⟩
end Th
namespace Th
open Md35 Given
theorem piece_some {s : State} {p : Nat} (h : s.piece = some p) : p < 256 ∧ (∀ x ∈ s.stacks, p ∉ x.pieces) ∧ ∀ q, q < p → ∃ x ∈ s.stacks, q ∈ x.pieces := by
  unfold State.piece at h
  rw [List.find?_range_eq_some] at h
  obtain ⟨h1, h2, h3⟩ := h
  refine ⟨List.mem_range.mp h2, fun x hx hp => ?_, fun q hq => ?_⟩
  · have : (s.stacks.any fun (x : Stack) => x.pieces.contains p) = true := List.any_eq_true.mpr ⟨x, hx, by simpa using hp⟩
    rw [this] at h1
    cases h1
  · have := h3 q hq
    simp at this
    exact this
theorem piece_none {s : State} (h : s.piece = none) : ∀ q, q < 256 → ∃ x ∈ s.stacks, q ∈ x.pieces := by
  unfold State.piece at h
  rw [List.find?_range_eq_none] at h
  intro q hq
  have := h q hq
  simp at this
  exact this
theorem push_room {s : State} {x : Stack} {f : Frame} (h : x.frames.length < 8 * x.pieces.length) : s.push x f = some (s.with_ { x with frames := f :: x.frames }) := if_pos h
theorem push_full {s : State} {x : Stack} {f : Frame} (h : ¬ x.frames.length < 8 * x.pieces.length) : s.push x f = (s.piece).map fun (p : Nat) => s.with_ { x with frames := f :: x.frames, pieces := x.pieces ++ [p] } := if_neg h
theorem SW.push {x : Stack} {f : Frame} (h : SW x) (hl : x.frames.length < 8 * x.pieces.length) (hw : f.words.length = 4) (ha : f.acts.length ≤ 32) : SW { x with frames := f :: x.frames } := by
  refine ⟨by show x.frames.length + 1 ≤ 8 * x.pieces.length; omega, h.pnd, h.psm, fun g hg => ?_, fun g hg => ?_⟩
  · rcases List.mem_cons.mp hg with rfl | hg
    · exact hw
    · exact h.wds g hg
  · rcases List.mem_cons.mp hg with rfl | hg
    · exact ha
    · exact h.acl g hg
theorem SW.pushP {x : Stack} {f : Frame} {p : Nat} (h : SW x) (hw : f.words.length = 4) (ha : f.acts.length ≤ 32) (hp : p < 256) (hn : p ∉ x.pieces) : SW { x with frames := f :: x.frames, pieces := x.pieces ++ [p] } := by
  have := h.fit
  refine ⟨by show x.frames.length + 1 ≤ 8 * (x.pieces ++ [p]).length; rw [List.length_append, List.length_singleton]; omega, ?_, fun q hq => ?_, fun g hg => ?_, fun g hg => ?_⟩
  · refine List.nodup_append.mpr ⟨h.pnd, by simp, fun a ha b hb => ?_⟩
    rw [List.mem_singleton.mp hb]
    exact fun e => hn (e ▸ ha)
  · rcases List.mem_append.mp hq with hq | hq
    · exact h.psm q hq
    · rw [List.mem_singleton.mp hq]
      exact hp
  · rcases List.mem_cons.mp hg with rfl | hg
    · exact hw
    · exact h.wds g hg
  · rcases List.mem_cons.mp hg with rfl | hg
    · exact ha
    · exact h.acl g hg
theorem Good.push {s u : State} (h : Good s) {k : Nat} {x : Stack} {f : Frame} (hx : s.stack k = some x) (hw : f.words.length = 4) (ha : f.acts.length ≤ 32) (e : s.push x f = some u) : Good u ∧ u.row = s.row := by
  have sx := h.sw k x hx
  by_cases c : x.frames.length < 8 * x.pieces.length
  · rw [push_room c] at e
    cases e
    exact ⟨h.withP hx (show x.number = k from stack_number hx) (sx.push c hw ha) (fun p hp => hp) (by simp), rfl⟩
  · rw [push_full c] at e
    obtain ⟨p, hp, rfl⟩ := Option.map_eq_some_iff.mp e
    obtain ⟨h1, h2, _⟩ := piece_some hp
    have sy := sx.pushP hw ha h1 (h2 x (stack_mem hx))
    refine ⟨h.with_ hx (h.toWF.with_ hx (show x.number = k from stack_number hx) sy fun q hq => ?_) (show x.number = k from stack_number hx) (by simp), rfl⟩
    rcases List.mem_append.mp hq with hq | hq
    · exact .inl hq
    · rw [List.mem_singleton.mp hq]
      exact .inr fun j z e => h2 z (stack_mem e)
theorem begin_some {s u : State} {f k : Nat} {c : Came} (e : s.begin_ f c = some (u, k)) : ∃ p, k < 64 ∧ s.stack k = none ∧ (∀ j, j < k → ∃ x, s.stack j = some x) ∧ s.piece = some p ∧ u = { s with stacks := insertStack ⟨k, [{ fn := f }], [p], c⟩ s.stacks } := by
  unfold State.begin_ at e
  obtain ⟨k', h1, h2⟩ := Option.bind_eq_some_iff.mp e
  obtain ⟨p, h3, h4⟩ := Option.map_eq_some_iff.mp h2
  cases h4
  rw [List.find?_range_eq_some] at h1
  obtain ⟨a1, a2, a3⟩ := h1
  refine ⟨p, List.mem_range.mp a2, by simpa using a1, fun j hj => ?_, h3, rfl⟩
  have := a3 j hj
  cases q : s.stack j with
  | none => rw [q] at this; cases this
  | some x => exact ⟨x, rfl⟩
theorem begin_of {s : State} {f k p : Nat} {c : Came} (hk : k < 64) (hs : s.stack k = none) (hb : ∀ j, j < k → ∃ x, s.stack j = some x) (hp : s.piece = some p) : s.begin_ f c = some ({ s with stacks := insertStack ⟨k, [{ fn := f }], [p], c⟩ s.stacks }, k) := by
  have h1 : ((List.range STACKS).find? fun (k : Nat) => (s.stack k).isNone) = some k := by
    rw [List.find?_range_eq_some]
    refine ⟨by rw [hs]; rfl, List.mem_range.mpr hk, fun j hj => ?_⟩
    obtain ⟨x, hx⟩ := hb j hj
    rw [hx]
    rfl
  unfold State.begin_
  rw [h1, hp]
  rfl
theorem insert_stack {s : State} {x : Stack} (h : s.stack x.number = none) (j : Nat) : ({ s with stacks := insertStack x s.stacks } : State).stack j = if j = x.number then some x else s.stack j := find_insert x j s.stacks h
theorem Good.begin_ {s u : State} (h : Good s) {f k : Nat} {c : Came} (e : s.begin_ f c = some (u, k)) : Good u ∧ u.row = s.row ∧ k ∉ s.row ∧ u.uncaught = s.uncaught := by
  obtain ⟨p, hk, hs, _, hp, rfl⟩ := begin_some e
  obtain ⟨h1, h2, _⟩ := piece_some hp
  have st := insert_stack (s := s) (x := ⟨k, [{ fn := f }], [p], c⟩) hs
  have hr : k ∉ s.row := fun m => by
    obtain ⟨x, hx⟩ := h.rin k m
    rw [hs] at hx
    cases hx
  have cs : ∀ {j z}, ({ s with stacks := insertStack ⟨k, [{ fn := f }], [p], c⟩ s.stacks } : State).stack j = some z → (j = k ∧ z = ⟨k, [{ fn := f }], [p], c⟩) ∨ (j ≠ k ∧ s.stack j = some z) := fun {j z} e => by
    rw [st] at e
    by_cases hj : j = k
    · rw [if_pos hj] at e
      exact .inl ⟨hj, (Option.some.inj e).symm⟩
    · rw [if_neg hj] at e
      exact .inr ⟨hj, e⟩
  refine ⟨⟨⟨insert_sorted _ _ h.sorted hs, fun j z e => ?_, h.rnd, fun j z e => ?_, fun j i z w e1 e2 hne q hq1 hq2 => ?_⟩, fun r hr' => ?_, fun j z e => ?_⟩, rfl, hr, rfl⟩
  · rcases cs e with ⟨rfl, _⟩ | ⟨_, e⟩
    · exact hk
    · exact h.small _ _ e
  · rcases cs e with ⟨rfl, rfl⟩ | ⟨_, e⟩
    · exact ⟨by show 1 ≤ 8 * 1; omega, by simp, fun q hq => by rw [List.mem_singleton.mp hq]; exact h1, fun g hg => by rw [List.mem_singleton.mp hg]; rfl, fun g hg => by rw [List.mem_singleton.mp hg]; exact Nat.zero_le _⟩
    · exact h.sw _ _ e
  · rcases cs e1 with ⟨a1, b1⟩ | ⟨n1, c1⟩
    · rcases cs e2 with ⟨a2, b2⟩ | ⟨n2, c2⟩
      · exact hne (a1.trans a2.symm)
      · subst b1
        rw [List.mem_singleton.mp hq1] at hq2
        exact h2 _ (stack_mem c2) hq2
    · rcases cs e2 with ⟨a2, b2⟩ | ⟨n2, c2⟩
      · subst b2
        rw [List.mem_singleton.mp hq2] at hq1
        exact h2 _ (stack_mem c1) hq1
      · exact h.pdj _ _ _ _ c1 c2 hne q hq1 hq2
  · obtain ⟨z, hz⟩ := h.rin r hr'
    refine ⟨z, ?_⟩
    rw [st, if_neg (fun e => by
      have e' : r = k := e
      rw [e', hs] at hz
      cases hz)]
    exact hz
  · rcases cs e with ⟨rfl, rfl⟩ | ⟨_, e⟩
    · simp
    · exact h.live _ _ e
section
variable {k : State → P} {s : State} {z : Int} {x : Stack} {f : Frame} {fs : List Frame}
theorem want_neg (hr : s.running = some x) (hf : x.frames = f :: fs) (hz : z < 0) : want k s z = k (s.come ⟨8, 15, 0⟩) := by
  simp only [want, hr, hf, if_pos hz]
  rfl
theorem want_more (hr : s.running = some x) (hf : x.frames = f :: fs) (hz : ¬ z < 0) {w : Nat} (hw : z.toNat % 16 = w) (h : 13 ≤ w) : want k s z = k (s.come ⟨8, (w : Int), 0⟩) := by
  have hlt : w < 16 := by omega
  have : w = 13 ∨ w = 14 ∨ w = 15 := by omega
  rcases this with e | e | e <;> subst e <;> simp only [want, hr, hf, if_neg hz, hw]
theorem want_0 (hr : s.running = some x) (hf : x.frames = f :: fs) (hz : ¬ z < 0) (hw : z.toNat % 16 = 0) : want k s z = leave s.size s ((z.toNat / 16 : Nat) : Int) k := by
  simp only [want, hr, hf, if_neg hz, hw]
theorem want_1 (hr : s.running = some x) (hf : x.frames = f :: fs) (hz : ¬ z < 0) (hw : z.toNat % 16 = 1) : want k s z = (match s.push x { fn := (z.toNat / 16) % 65536 } with
    | some u => k (u.come ⟨0, (((z.toNat / 16) / 65536 : Nat) : Int), 0⟩)
    | none => k (s.come ⟨8, 1, 0⟩)) := by
  simp only [want, hr, hf, if_neg hz, hw]
  rfl
theorem want_2 (hr : s.running = some x) (hf : x.frames = f :: fs) (hz : ¬ z < 0) (hw : z.toNat % 16 = 2) : want k s z = unwind s.size s (thrown (z.toNat / 16)) k := by
  simp only [want, hr, hf, if_neg hz, hw]
theorem want_3 (hr : s.running = some x) (hf : x.frames = f :: fs) (hz : ¬ z < 0) (hw : z.toNat % 16 = 3) : want k s z = if 32 ≤ f.acts.length then k (s.come ⟨8, 3, 0⟩) else k (s.with_ { (x.top { f with acts := .handler ((z.toNat / 16) % 256) :: f.acts }) with came := ⟨0, 0, 0⟩ }) := by
  simp only [want, hr, hf, if_neg hz, hw]
  rfl
theorem want_4 (hr : s.running = some x) (hf : x.frames = f :: fs) (hz : ¬ z < 0) (hw : z.toNat % 16 = 4) : want k s z = if 32 ≤ f.acts.length then k (s.come ⟨8, 4, 0⟩) else k (s.with_ { (x.top { f with acts := .last ((z.toNat / 16) % 65536) :: f.acts }) with came := ⟨0, 0, 0⟩ }) := by
  simp only [want, hr, hf, if_neg hz, hw]
  rfl
theorem want_5n (hr : s.running = some x) (hf : x.frames = f :: fs) (hz : ¬ z < 0) (hw : z.toNat % 16 = 5) (ha : f.acts = []) : want k s z = k (s.come ⟨8, 5, 0⟩) := by
  simp only [want, hr, hf, if_neg hz, hw, ha]
  rfl
theorem want_5h {h : Nat} {l : List Act} (hr : s.running = some x) (hf : x.frames = f :: fs) (hz : ¬ z < 0) (hw : z.toNat % 16 = 5) (ha : f.acts = .handler h :: l) : want k s z = k (s.with_ { (x.top { f with acts := l }) with came := ⟨0, 0, 0⟩ }) := by
  simp only [want, hr, hf, if_neg hz, hw, ha]
theorem want_5l {g : Nat} {l : List Act} (hr : s.running = some x) (hf : x.frames = f :: fs) (hz : ¬ z < 0) (hw : z.toNat % 16 = 5) (ha : f.acts = .last g :: l) :
    want k s z = .ask (s.with_ (x.top { f with acts := l })) (.clean g 0) fun u y => if 0 < y then unwind u.size u (thrown y.toNat) k else k (u.come ⟨0, 0, 0⟩) := by
  simp only [want, hr, hf, if_neg hz, hw, ha]
theorem want_6 (hr : s.running = some x) (hf : x.frames = f :: fs) (hz : ¬ z < 0) (hw : z.toNat % 16 = 6) : want k s z = if (s.row.drop 1).isEmpty = true then .done { s with row := s.row.drop 1 } ⟨2, [((z.toNat / 16 : Nat) : Int), (x.number : Int)]⟩ else k (({ s with row := s.row.drop 1 } : State).come ⟨4, ((z.toNat / 16 : Nat) : Int), (x.number : Int)⟩) := by
  simp only [want, hr, hf, if_neg hz, hw]
theorem want_7 (hr : s.running = some x) (hf : x.frames = f :: fs) (hz : ¬ z < 0) (hw : z.toNat % 16 = 7) : want k s z = (match s.begin_ ((z.toNat / 16) % 65536) ⟨0, 0, 0⟩ with
    | some y => k (y.1.come ⟨7, (y.2 : Int), 0⟩)
    | none => k (s.come ⟨8, 7, 0⟩)) := by
  simp only [want, hr, hf, if_neg hz, hw]
  rfl
theorem want_8 (hr : s.running = some x) (hf : x.frames = f :: fs) (hz : ¬ z < 0) (hw : z.toNat % 16 = 8) : want k s z = (match s.stack ((z.toNat / 16) % 64) with
    | none => k (s.come ⟨8, 8, 0⟩)
    | some y => if s.row.contains y.number = true then k (s.come ⟨8, 8, 0⟩) else k (({ s with row := y.number :: s.row } : State).come ⟨if (y.frames.headD { fn := 0 }).place = 0 then 0 else 6, (((z.toNat / 16) / 64 : Nat) : Int), 0⟩)) := by
  simp only [want, hr, hf, if_neg hz, hw]
  rfl
theorem want_9 (hr : s.running = some x) (hf : x.frames = f :: fs) (hz : ¬ z < 0) (hw : z.toNat % 16 = 9) : want k s z = (match s.stack (z.toNat / 16) with
    | none => k (s.come ⟨8, 9, 0⟩)
    | some y => if s.row.contains y.number = true then k (s.come ⟨8, 9, 0⟩) else ending s.size s y.number [] fun u ts => match gathered ts with
      | some t => unwind u.size u t k
      | none => k (u.come ⟨0, 0, 0⟩)) := by
  simp only [want, hr, hf, if_neg hz, hw]
  rfl
theorem want_10 (hr : s.running = some x) (hf : x.frames = f :: fs) (hz : ¬ z < 0) (hw : z.toNat % 16 = 10) : want k s z = (match f.caught with
    | none => k (s.come ⟨8, 10, 0⟩)
    | some t => unwind s.size s t k) := by
  simp only [want, hr, hf, if_neg hz, hw]
  rfl
theorem want_11 (hr : s.running = some x) (hf : x.frames = f :: fs) (hz : ¬ z < 0) (hw : z.toNat % 16 = 11) : want k s z = k (s.with_ { (x.top { f with words := f.words.set ((z.toNat / 16) % 4) (((z.toNat / 16) / 4 : Nat) : Int) }) with came := ⟨0, 0, 0⟩ }) := by
  simp only [want, hr, hf, if_neg hz, hw]
theorem want_12 (hr : s.running = some x) (hf : x.frames = f :: fs) (hz : ¬ z < 0) (hw : z.toNat % 16 = 12) : want k s z = k (s.come ⟨3, f.words.getD ((z.toNat / 16) % 4) 0, 0⟩) := by
  simp only [want, hr, hf, if_neg hz, hw]
theorem run_0 {m : Nat} : run 0 m s = .done s ⟨3, [(m : Int)]⟩ := rfl
theorem run_1 {n m : Nat} (hr : s.running = some x) (hf : x.frames = f :: fs) : run (n + 1) m s = .ask (s.with_ (x.top { f with place := min (f.place + 1) LASTPLACE })) (.run f.fn f.place x.came.why x.came.value x.came.more) fun u z => want (fun (t : State) => run n (m + 1) t) u z := by
  simp only [run, hr, hf]
end
theorem Went.played {reps : List Int} {p : P} {S : AS} {s : State} {a : Ans} (w : Went ⟨reps, 0, []⟩ p S (.done s a)) : ∃ qs rest, p.played reps = (s, a, qs, rest) ∧ S = ⟨reps, qs.length, qs.flatMap Md35Neutral.ofAsk⟩ := by
  obtain ⟨qs, rfl, h⟩ := w
  unfold Leads at h
  refine ⟨qs, reps.drop qs.length, ?_, by simp⟩
  simp only [List.drop_zero, Prog.played, List.append_nil] at h
  exact h
theorem few_lt : ∀ (cs : List Md35Neutral.Call) (n : Nat) (s : State), Md35Neutral.few n s cs = true → n < 1000000
  | [], n, s, h => of_decide_eq_true h
  | c :: r, n, s, h => by
    have := few_lt r _ _ (show Md35Neutral.few (n + (Md35Neutral.step s c).2.length) (Md35Neutral.step s c).1 r = true from h)
    omega
theorem step_of {s : State} {a reps : List Int} {q : Call} (h : Md35Neutral.callOf a = some q) : Md35Neutral.step s [a, reps] = (((spec s q).played reps).1, ((((spec s q).played reps).2.2.1.length : Int) :: (((spec s q).played reps).2.2.1.flatMap Md35Neutral.ofAsk ++ (((spec s q).played reps).2.1.value :: ((spec s q).played reps).2.1.out)))) := by
  show (match Md35Neutral.callOf a with
    | some q => _
    | none => _) = _
  rw [h]
section
open Md35Neutral (many callOf)
theorem many_in {p : Int} {n : Nat} (h : many p = some n) : (p = 1 ∧ n = 0) ∨ (p = 2 ∧ n = 3) ∨ (p = 3 ∧ n = 3) ∨ (p = 4 ∧ n = 4) ∨ (p = 5 ∧ n = 1) ∨ (p = 6 ∧ n = 1) ∨ (p = 7 ∧ n = 1) ∨ (p = 8 ∧ n = 2) ∨ (p = 9 ∧ n = 0) ∨ (p = 10 ∧ n = 1) ∨ (p = 11 ∧ n = 0) := by
  unfold many at h
  split at h <;> first | (cases h; done) | (have := (Option.some.inj h).symm; simp_all)
theorem shape_many {p : Int} {n k : Nat} (h : PyMd35.shape p = some (n, k)) : many p = some n ∧ k = 1 := by
  unfold PyMd35.shape at h
  by_cases h1 : p = 1
  · subst h1
    cases h
    exact ⟨rfl, rfl⟩
  rw [if_neg h1] at h
  by_cases h2 : p = 2
  · subst h2
    cases h
    exact ⟨rfl, rfl⟩
  rw [if_neg h2] at h
  by_cases h3 : p = 3
  · subst h3
    cases h
    exact ⟨rfl, rfl⟩
  rw [if_neg h3] at h
  by_cases h4 : p = 4
  · subst h4
    cases h
    exact ⟨rfl, rfl⟩
  rw [if_neg h4] at h
  by_cases h5 : p = 5
  · subst h5
    cases h
    exact ⟨rfl, rfl⟩
  rw [if_neg h5] at h
  by_cases h6 : p = 6
  · subst h6
    cases h
    exact ⟨rfl, rfl⟩
  rw [if_neg h6] at h
  by_cases h7 : p = 7
  · subst h7
    cases h
    exact ⟨rfl, rfl⟩
  rw [if_neg h7] at h
  by_cases h8 : p = 8
  · subst h8
    cases h
    exact ⟨rfl, rfl⟩
  rw [if_neg h8] at h
  by_cases h9 : p = 9
  · subst h9
    cases h
    exact ⟨rfl, rfl⟩
  rw [if_neg h9] at h
  by_cases h10 : p = 10
  · subst h10
    cases h
    exact ⟨rfl, rfl⟩
  rw [if_neg h10] at h
  by_cases h11 : p = 11
  · subst h11
    cases h
    exact ⟨rfl, rfl⟩
  rw [if_neg h11] at h
  cases h
theorem len_0 {α : Type} {l : List α} (h : l.length = 0) : l = [] := List.length_eq_zero_iff.mp h
theorem len_s {α : Type} {l : List α} {n : Nat} (h : l.length = n + 1) : ∃ a r, l = a :: r ∧ r.length = n := by
  cases l with
  | nil => cases h
  | cons a r => exact ⟨a, r, rfl, Nat.succ.inj h⟩
theorem len_1 {α : Type} {l : List α} (h : l.length = 1) : ∃ a, l = [a] := by
  obtain ⟨a, r, rfl, h2⟩ := len_s h
  rw [len_0 h2]
  exact ⟨a, rfl⟩
theorem len_2 {α : Type} {l : List α} (h : l.length = 2) : ∃ a b, l = [a, b] := by
  obtain ⟨a, r, rfl, h2⟩ := len_s h
  obtain ⟨b, rfl⟩ := len_1 h2
  exact ⟨a, b, rfl⟩
theorem len_3 {α : Type} {l : List α} (h : l.length = 3) : ∃ a b c, l = [a, b, c] := by
  obtain ⟨a, r, rfl, h2⟩ := len_s h
  obtain ⟨b, c, rfl⟩ := len_2 h2
  exact ⟨a, b, c, rfl⟩
theorem len_4 {α : Type} {l : List α} (h : l.length = 4) : ∃ a b c d, l = [a, b, c, d] := by
  obtain ⟨a, r, rfl, h2⟩ := len_s h
  obtain ⟨b, c, d, rfl⟩ := len_3 h2
  exact ⟨a, b, c, d, rfl⟩
theorem parts {c : List (List Int)} (h : PyFlat.okCall PyMd35.shape c) : ∃ p a reps, c = [p :: a, reps] ∧ many p = some a.length := by
  obtain ⟨p, a, xs, rfl, hs⟩ := h
  obtain ⟨hm, hx⟩ := shape_many hs
  obtain ⟨reps, rfl⟩ := len_1 hx
  exact ⟨p, a, reps, rfl, hm⟩
theorem both_parts {p : Int} {a : List Int} (h : many p = some a.length) : (∃ q, callOf (p :: a) = some q) ∧ ∀ reps, PyMd35.whole [p :: a, reps] = [p :: a, reps] := by
  rcases many_in h with ⟨rfl, hl⟩ | ⟨rfl, hl⟩ | ⟨rfl, hl⟩ | ⟨rfl, hl⟩ | ⟨rfl, hl⟩ | ⟨rfl, hl⟩ | ⟨rfl, hl⟩ | ⟨rfl, hl⟩ | ⟨rfl, hl⟩ | ⟨rfl, hl⟩ | ⟨rfl, hl⟩
  · rw [len_0 hl]
    exact ⟨⟨_, rfl⟩, fun _ => rfl⟩
  · obtain ⟨x, y, z, rfl⟩ := len_3 hl
    exact ⟨⟨_, rfl⟩, fun _ => rfl⟩
  · obtain ⟨x, y, z, rfl⟩ := len_3 hl
    exact ⟨⟨_, rfl⟩, fun _ => rfl⟩
  · obtain ⟨x, y, z, u, rfl⟩ := len_4 hl
    exact ⟨⟨_, rfl⟩, fun _ => rfl⟩
  · obtain ⟨x, rfl⟩ := len_1 hl
    exact ⟨⟨_, rfl⟩, fun _ => rfl⟩
  · obtain ⟨x, rfl⟩ := len_1 hl
    exact ⟨⟨_, rfl⟩, fun _ => rfl⟩
  · obtain ⟨x, rfl⟩ := len_1 hl
    exact ⟨⟨_, rfl⟩, fun _ => rfl⟩
  · obtain ⟨x, y, rfl⟩ := len_2 hl
    exact ⟨⟨_, rfl⟩, fun _ => rfl⟩
  · rw [len_0 hl]
    exact ⟨⟨_, rfl⟩, fun _ => rfl⟩
  · obtain ⟨x, rfl⟩ := len_1 hl
    exact ⟨⟨_, rfl⟩, fun _ => rfl⟩
  · rw [len_0 hl]
    exact ⟨⟨_, rfl⟩, fun _ => rfl⟩
theorem callOf_parts {p : Int} {a : List Int} (h : many p = some a.length) : ∃ q, callOf (p :: a) = some q := (both_parts h).1
theorem map_whole : ∀ cs : List (List (List Int)), (∀ c ∈ cs, PyFlat.okCall PyMd35.shape c) → cs.map PyMd35.whole = cs
  | [], _ => rfl
  | c :: cs, h => by
    obtain ⟨p, a, reps, e, hm⟩ := parts (h c (by simp))
    rw [List.map_cons, map_whole cs fun d hd => h d (List.mem_cons_of_mem _ hd), e, (both_parts hm).2 reps]
end
/-- a line of calls as the desk reads it -/
theorem line_read {l : List Int} (h : PyMd35.answers_asked l = true) : ∃ cs, l = PyFlat.put cs ∧ (∀ c ∈ cs, PyFlat.okCall PyMd35.shape c) ∧ cs.length ≤ 300 ∧ Md35Neutral.few 0 Md35Neutral.start cs = true ∧ PyMd35.answers l = PyFlat.told (PyFlat.played Md35Neutral.step Md35Neutral.start cs) := by
  have h' : (match PyMd35.calls l with
    | none => false
    | some cs => PyFlat.atMost 300 cs && Md35Neutral.asked cs) = true := h
  cases e : PyMd35.calls l with
  | none => rw [e] at h'; cases h'
  | some cs =>
    rw [e] at h'
    have e' : (match PyFlat.calls PyMd35.shape l.length l with
      | none => none
      | some cs => some (cs.map PyMd35.whole)) = some cs := e
    cases e2 : PyFlat.calls PyMd35.shape l.length l with
    | none => rw [e2] at e'; cases e'
    | some cs' =>
      rw [e2] at e'
      have e3 : cs'.map PyMd35.whole = cs := Option.some.inj e'
      obtain ⟨p1, p2⟩ := PyFlat.put_calls _ _ _ e2
      rw [map_whole _ p2] at e3
      subst e3
      have h2 : (PyFlat.atMost 300 cs' && Md35Neutral.asked cs') = true := h'
      rw [Bool.and_eq_true] at h2
      have h3 : ((cs'.all Md35Neutral.asked1 && decide ((cs'.head?.bind fun (c : Md35Neutral.Call) => c.head?) = some [1])) && Md35Neutral.few 0 Md35Neutral.start cs') = true := h2.2
      rw [Bool.and_eq_true, Bool.and_eq_true] at h3
      refine ⟨cs', p1, p2, of_decide_eq_true h2.1, h3.2, ?_⟩
      show (match PyMd35.calls l with
        | none => []
        | some cs => PyFlat.told (PyFlat.played Md35Neutral.step Md35Neutral.start cs)) = _
      rw [e]
end Th
namespace Th
open PySem PySem.Spec PySem.Calls PyProof.Rows L2
abbrev RW : PySem.W.OpenSpec := PySem.Challenge.rw_throwstack_s01_answers
/-- the call of the def, at the heap behind the top: what is wanted of its answer is Q -/
theorem spec_call {P : Program} {w : World} {K : PySem.W.Frag} {mg mb : Str → Option Value} {CX : CXT} {k : Nat} {fa a : Addr} {fd : FuncData} {x : Str} {sp : Sp} {s₁ : Shared} {vs : List Value} {ns : List Int} {W : VK}
    (KX : K.In s₁.heap) (hns : s₁.heap.Ns mainGlobals mg) (hb : s₁.heap.Ns builtinsNs mb) (hbb : ∀ x : Str, x ≠ "__name__" → mb x = bootBuiltins x) (hlim : s₁.heap.NoLimit) (hg : s₁.gens = #[])
    (ha : s₁.heap.get? a = some { cls := .type "list", data := .seq vs.toArray }) (hi : IntsAre vs ns) (hl : ns.length ≤ sizeLine) (hr : Room k callerA)
    (F : ∀ base : Heap, K.In base → base.Ns mainGlobals mg → FnOk P w K mg base CX k fa fd [x] sp) (hbind : ∀ (s : Shared) (u : Value), BindsTo s fd ⟨[u], []⟩ [(x, u)])
    (hsp : ∀ H : Hp, Only H → SqL K H a (ns.map V.int) → sp [.ref a] H W fun _ _ _ => False)
    (hCX : ∀ H e s', CX [] H s₁ (fun _ _ _ => False) e s' → False) :
    codeAny (model P w) callerA (.call (.ref fa) ⟨[.ref a], []⟩) (fun r s' => (∃ u v H', r = .ok (.ret u) ∧ RelV v u ∧ HOk P w H' s'.heap ∧ W v H') ∧ OldK s₁.heap s'.heap ∧ s'.os = s₁.os ∧ AllBare s'.gens) s₁ := by
  have rv := vals_ints hi
  have lenV := hi.length
  have core : ∀ H : Hp, Only H → SqL K H a (ns.map V.int) → HOk P w H s₁.heap → (∀ b, H b ≠ none → b = a) → (H a ≠ none → K.lookup a = none) →
      codeAny (model P w) callerA (.call (.ref fa) ⟨[.ref a], []⟩) (fun r s' => (∃ u v H', r = .ok (.ret u) ∧ RelV v u ∧ HOk P w H' s'.heap ∧ W v H') ∧ OldK s₁.heap s'.heap ∧ s'.os = s₁.os ∧ AllBare s'.gens) s₁ := by
    intro H hO hS hok hA hK
    have base_of : ∀ {b : Addr} {o : Obj}, s₁.heap.get? b = some o → H b = none → (hidT s₁.heap H).get? b = some o := fun e n => hidT_get e n
    have noA : ∀ {b : Addr} {o : Obj} {es : Array DictEntry} {ep : Nat}, s₁.heap.get? b = some o → o.data = .dict es ep → H b = none := fun {b o es ep} e d => by
      cases q : H b with
      | none => rfl
      | some u =>
        have e' : b = a := hA b (by rw [q]; simp)
        subst e'
        rw [ha] at e; cases e
        have d' : Data.seq vs.toArray _ = Data.dict es ep := d
        cases d'
    have nsK : ∀ {b : Addr} {m : Str → Option Value}, s₁.heap.Ns b m → (hidT s₁.heap H).Ns b m := fun {b m} ⟨o, es, ep, e, d, r⟩ => ⟨o, es, ep, base_of e (noA e d), d, r⟩
    have hKb : K.In (hidT s₁.heap H) := fun b o e => base_of (KX b o e) (by
      cases q : H b with
      | none => rfl
      | some u =>
        have e' : b = a := hA b (by rw [q]; simp)
        subst e'
        rw [hK (by rw [q]; simp)] at e; cases e)
    have hM : Mod K mg (hidT s₁.heap H) := ⟨hKb, nsK hns, ⟨mb, nsK hb, hbb⟩, let ⟨mc, h1, h2⟩ := hlim; ⟨mc, nsK h1, h2⟩⟩
    have e0 : Env0 P w K mg (hidT s₁.heap H) callerA [] s₁ H := ⟨rfl, hM, fun b o e => of_hidT e, Nat.le_of_eq (hidT_size _ _), trivial, fun b hb => absurd (show b ∈ ([] : List Addr) from hb) (by simp), hok, .of_eq hg⟩
    refine codeAny_mono ((F _ hKb (nsK hns)).run callerA [] s₁ H ⟨[.ref a], []⟩ [.ref a] [.ref a] _ _ hr e0 (hbind s₁ (.ref a)) (.cons rfl .nil) (hsp H hO hS)) fun r s' h => ?_
    cases r with
    | error e => exact (hCX H e s' h).elim
    | ok fl =>
      cases fl with
      | next => exact False.elim h
      | brk => exact False.elim h
      | cont => exact False.elim h
      | ret u =>
        obtain ⟨v, H', os, bare, un, hok', r', q⟩ := h
        refine ⟨⟨u, v, H', rfl, r', hok', q⟩, OldK.of_keep fun b o e => ?_, os, bare⟩
        cases q : H b with
        | none => exact un.keep b o e q (by intro z; exact absurd (show b ∈ ([] : List Addr) from z) (by simp)) (by simp)
        | some u =>
          rcases hO b with z | ⟨ob, xs, z⟩
          · rw [q] at z; cases z
          · have z2 := un.frzs b ob _ z
            obtain ⟨e1, _⟩ := hok b _ z
            obtain ⟨e2, _⟩ := hok' b _ z2
            rw [e] at e1; cases e1
            exact e2
  cases hk : K.lookup a with
  | some o =>
    have e := KX a o hk
    rw [ha] at e
    cases e
    refine core (fun _ => none) (fun _ => .inl rfl) (.inr ⟨_, vs.toArray, _, hk, rfl, rfl, rfl, by rw [List.size_toArray, lenV]; exact hl, by simpa using rv⟩) (fun b u z => by have z' : (none : Option HO) = some u := z; cases z') (fun b z => absurd rfl z) fun z => absurd rfl z
  | none =>
    refine core (fun b => if b = a then some (.frz { cls := .type "list", data := .seq vs.toArray } (.lst (ns.map V.int))) else none) (fun b => ?_) (.inl (.inr ⟨{ cls := .type "list", data := .seq vs.toArray }, if_pos rfl⟩)) (fun b u z => ?_) (fun b z => ?_) fun _ => hk
    · by_cases hb : b = a
      · exact .inr ⟨_, _, if_pos hb⟩
      · exact .inl (if_neg hb)
    · by_cases hb : b = a
      · have z' := (if_pos hb).symm.trans z
        cases z'
        subst hb
        exact ⟨ha, by rw [List.length_map]; exact hl, vs, _, rv, ha⟩
      · have z' := (if_neg hb).symm.trans z
        cases z'
    · by_cases hb : b = a
      · exact hb
      · exact absurd (if_neg hb) z
theorem readsAll_ints {R : PySem.W.WRecords} {cl : Str → Option Addr} {h : Heap} : ∀ {ns : List Int} {us : List Value}, Vals (ns.map V.int) us → PySem.W.ReadsAllW R cl h us (ns.map PySem.W.WData.int) []
  | [], us, r => by
    cases r
    exact .nil
  | n :: ns, us, r => by
    cases r with
    | cons a b =>
      obtain ⟨t, rfl⟩ := a
      exact PySem.W.ReadsAllW.cons (.int n t) (readsAll_ints b)
theorem dec_script {args : List PySem.W.WData} (h : RW.pre args = true) : ∃ ns : List Int, args = [.list (ns.map .int)] ∧ ns.length ≤ 30000 ∧ (∀ x ∈ ns, -2147483648 ≤ x ∧ x ≤ 2147483647) ∧ PyMd35.answers_asked ns = true ∧
    PySem.W.Codec.decAll RW.args args = some (ns, ()) := by
  obtain ⟨a, e, q⟩ := PySem.W.os_pre_some h
  obtain ⟨e1, e2⟩ := PySem.W.Codec.encAll_of_decAll _ _ _ e
  obtain ⟨ns, u⟩ := a
  have e2' : (PySem.W.Codec.inPair (PySem.W.Codec.inList 0 30000 (PySem.W.Codec.inInt (_root_.Int.negSucc 2147483647) (_root_.Int.ofNat 2147483647))) (fun _ => true) (ns, u)) = true := e2
  have e3 : (PySem.W.Codec.inList 0 30000 (PySem.W.Codec.inInt (_root_.Int.negSucc 2147483647) (_root_.Int.ofNat 2147483647)) ns) = true := (PySem.W.Codec.and_of e2').1
  obtain ⟨e4, e5⟩ := PySem.W.Codec.and_of e3
  refine ⟨ns, e1, (PySem.W.Codec.inNat_iff.mp e4).2, fun x hx => ?_, q, e⟩
  have := List.all_eq_true.mp e5 x hx
  obtain ⟨h1, h2⟩ := PySem.W.Codec.inInt_iff.mp this
  exact ⟨h1, h2⟩
theorem same_refl_ints (ns : List Int) (d : PySem.W.WData) (e : d = .list (ns.map .int)) : PySem.W.same d (RW.ret.enc ns) = true := by
  subst e
  exact PySem.W.same_self _
/-- the goal that k_headS leaves, from the promise of answers -/
theorem walk_spec {k : Nat} {q : Program} {loose : List Str} {XP : (Str → Option Value) → Heap → Prop} {YP : World → Heap → Prop} {d : DefRec} {K : Params → PySem.W.Frag} {sp : PySem.W.Frag → Sp} {x : Str}
    (hdf : d.params.defaults = []) (hr : Room k callerA)
    (hY : ∀ (w : World) (h : Heap), YP w h → (K w.params).In h)
    (F : ∀ (w : World) (mg : Str → Option Value) (fa : Addr) (h : Heap), (K w.params).In h → h.Ns mainGlobals mg → mg d.name = some (.ref fa) →
      ∃ fd : FuncData, (∀ (s : Shared) (u : Value), BindsTo s fd ⟨[u], []⟩ [(x, u)]) ∧
        ∀ base : Heap, (K w.params).In base → base.Ns mainGlobals mg → FnOk RW.prog w (K w.params) mg base CX0 k fa fd [x] (sp (K w.params)))
    (hsp : ∀ (K : PySem.W.Frag) (H : Hp) (a : Addr) (ns : List Int), ns.length ≤ 30000 → (∀ x ∈ ns, -2147483648 ≤ x ∧ x ≤ 2147483647) → PyMd35.answers_asked ns = true → Only H → SqL K H a (ns.map V.int) →
      sp K [.ref a] H (fun v H' => ∃ p, v = .ref p ∧ H' p = some (.lst ((PyMd35.answers ns).map V.int))) fun _ _ _ => False) :
    PySem.W.WalkOS q loose XP YP RW d [] (fun f vs => PySem.call f vs) := by
  intro w s₀ s₁ mg mb G Y fa o pm cd doc dV kV ho hd hcd hD hmg hg args vals as hpre hlay hrd hwl hlo
  obtain rfl : dV = .none := PySem.W.Dflts.none hD hdf
  obtain rfl : kV = .none := PySem.W.Dflts.noKw hD
  obtain ⟨ns, rfl, hlen, hin, hask, hdec⟩ := dec_script hpre
  have KX := hY w _ Y
  obtain ⟨fd, hb, hF⟩ := F w mg fa _ KX G.T.g hmg
  cases hwl with
  | cons w1 w2 =>
    cases w2
    cases w1 with
    | list hobj hall =>
      have hints := Att.ints_of_wellAll ns _ hall
      refine PySem.W.enter_call (codeAny_mono (spec_call (W := fun v H' => ∃ p, v = .ref p ∧ H' p = some (.lst ((PyMd35.answers ns).map V.int))) KX G.T.g G.T.b G.T.builtins G.T.nolimit hg hobj hints (Nat.le_trans hlen (by decide)) hr hF hb (fun H hO hS => hsp _ H _ ns hlen hin hask hO hS) fun H e s' h => h.elim) fun r s' hq => ?_)
      obtain ⟨⟨u, v, H', rfl, rv, hok, p, rfl, hp⟩, h2, h3, h4⟩ := hq
      cases rv
      obtain ⟨_, its, n, ri, eo⟩ := hok p _ hp
      exact ⟨.inl ⟨_, _, _, rfl, fun _ => rfl, .list eo rfl rfl (readsAll_ints ri), PySem.W.os_post hdec (same_refl_ints _ _ rfl), fun h => absurd h Bool.false_ne_true⟩, h2, h3, h4⟩
end Th
namespace Th
open PySem PySem.Spec PySem.Calls PyProof.Rows L2
open PySem.AutoSeq1 (wpAny_loadPart')
structure EqCls (K : PySem.W.Frag) (C : Addr) : Prop where
  eq : PySem.W.findIn K (.ref C) "__eq__" = some (some (.builtin "object.__eq__"))
  mak : PySem.W.makesIn K C = true
  sub : PySem.W.subIn K (.type "NoneType") (.ref C) = some false
section
variable {prog : Program} {w : World} {A : Around} {E : Value → Shared → Prop} {s : Shared} {K : PySem.W.Frag} {x C : Addr} {ox : Obj} {od : Option Obj}
theorem objEq_none {Q : Fin → Shared → Prop} (hq : Q (.done (.ret .notImplemented)) s) : wpAny (model prog w) A (Builtin.«object.__eq__» ⟨[.ref x, .none], []⟩) Q E s := by
  unfold Builtin.«object.__eq__»
  have e : isSame (.ref x) .none = pure false := rfl
  repeat (first | (with_reducible refine wpAny_of_eq e ?_) | wp_step)
  exact hq
theorem call_objEq_none (X : K.In s.heap) (I : PySem.W.InstAt s.heap x ox C od) (e : EqCls K C) {Q : Value → Shared → Prop} (hq : Q .notImplemented s) :
    wpAny (model prog w) A (call (.builtin "object.__eq__") [.ref x, .none]) Q E s := by
  have hi : PySem.W.Looks (model prog w) s.heap (isInstance (.ref x) (.type "object")) true := I.type.andThen (PySem.W.makes_of X e.mak).top
  exact wpAny_call (codeAny_call_builtin PySem.F.cmp_object.eq.plain PySem.F.cmpEntry_eq (PySem.W.check_slot PySem.F.cmpKind_eq PySem.F.cmpSplit_eq hi (PySem.F.cmpArgs_eq _ _) (objEq_none hq)))
theorem tc_inst_none (X : K.In s.heap) (I : PySem.W.InstAt s.heap x ox C od) (e : EqCls K C) {Q : Option Value → Shared → Prop} (hq : Q none s) :
    wpAny (model prog w) A (tryCompare (.ref x) "__eq__" .none) Q E s := by
  unfold tryCompare
  refine wpAny_bind ?_
  simp only [callSpecialIfBound?, bindSpecialIfBound?]
  refine wpAny_holding (wpAny_bind (wpAny_bind (wpAny_bind (I.type.here ((PySem.W.looks_findIn X e.eq).here ?_)))))
  simp only [PySem.F.cmp_object.eq.bind]
  refine wpAny_bind (wpAny_askSetting (wpAny_ite ?_))
  have fin : ∀ Q' : Option Value → Shared → Prop, Q' (some .notImplemented) s → wpAny (model prog w) A (call (.builtin "object.__eq__") ([.ref x] ++ [.none]) >>= fun v => pure (some v)) Q' E s := fun Q' h =>
    wpAny_bind (call_objEq_none X I e (wpAny_pure h))
  split
  · exact wpAny_bind (wpAny_pure (wpAny_pure (fin _ (wpAny_pure hq))))
  · exact wpAny_tryCatch (wpAny_bind (wpAny_pure (wpAny_pure (fin _ (wpAny_pure hq)))))
theorem rc_inst_none (X : K.In s.heap) (I : PySem.W.InstAt s.heap x ox C od) (e : EqCls K C) (hu : A.units < cLine) {Q : Value → Shared → Prop} (hq : Q (.bool false) s) :
    wpAny (model prog w) A (richCompare .Eq (.ref x) .none) Q E s := by
  have hi : cmpInfo CmpOp.Eq = (("==", "__eq__", "__eq__") : String × Str × Str) := rfl
  have h1 : oneThing? .Eq (.ref x) .none = none := rfl
  simp only [richCompare, hi, h1]
  refine wpAny_holding (wpAny_bind (wpAny_cRoomFor hu ?_))
  refine wpAny_bind (I.type.here (wpAny_bind (wpAny_typeOf (T := "NoneType") rfl ?_)))
  have hne : (Value.ref C != Value.type "NoneType") = true := rfl
  simp only [hne, if_true]
  refine wpAny_bind ((PySem.W.looks_subIn X e.sub).here ?_)
  simp only [Bool.false_eq_true, if_false, Bool.not_false, if_true]
  refine wpAny_bind (m := tryCompare (.ref x) _ .none) (tc_inst_none X I e ?_)
  refine wpAny_bind (m := tryCompare .none _ (.ref x)) (wpAny_tryCompare_declines (T := "NoneType") rfl PySem.F.slot_NoneType_eq_refl
    (call_gives PySem.F.slot_NoneType_eq_refl rfl PySem.F.entry_NoneType_eq (PySem.F.args_NoneType_eq_2 _ _) (SeqAt.NoneType___eq___none_ref_0 x) ⟨rfl, ?_⟩))
  have hs : isSame (.ref x) .none = pure false := rfl
  exact wpAny_bind (wpAny_rule (wpAny_bind (wpAny_of_eq hs (wpAny_pure hq))))
theorem eqAt_inst_none (X : K.In s.heap) (I : PySem.W.InstAt s.heap x ox C od) (e : EqCls K C) (hu : A.units < cLine) : SeqAt.EqAt A s (.ref x) .none false := fun prog w E Q h => by
  unfold eqBool
  refine wpAny_holding ?_
  refine wpAny_ite_split (fun hab => absurd (eq_of_beq hab) nofun) (fun _ => ?_)
  exact wpAny_bind (rc_inst_none X I e hu (wpAny_truthy_bool h))
end
/-- an item of the list of stacks: None, or an instance -/
def NoneOrIns (K : PySem.W.Frag) (H : Hp) (v : V) : Prop := v = .non ∨ ∃ a C dx fs, v = .ref a ∧ H a = some (.ins C dx fs) ∧ EqCls K C
def isNoneU (u : Value) : Bool := match u with
  | .none => true
  | _ => false
section
variable {X : Cx} {pins : List (Addr × Obj)} {σ : L2.St} {H : Hp} {s : Shared}
theorem eqAt_item {A : Around} {v : V} {u : Value} (I : Inv X pins σ H s) (h : NoneOrIns X.K H v) (r : RelV v u) (hu : A.units < cLine) : SeqAt.EqAt A s u .none (isNoneU u) := by
  rcases h with rfl | ⟨a, C, dx, fs, rfl, ha, e⟩
  · cases r
    exact SeqAt.EqAt.same _
  · cases r
    obtain ⟨hd, _, hne, ho, mA, hns, _⟩ := I.hok a _ ha
    obtain ⟨od, J, _⟩ := ObjM.look ⟨ho, hns, hne⟩
    exact eqAt_inst_none I.kIn J e hu
theorem all_items {A : Around} (hu : A.units < cLine) (I : Inv X pins σ H s) : ∀ {xs : List V} {us : List Value}, Vals xs us → (∀ v ∈ xs, NoneOrIns X.K H v) → ∀ u ∈ us, SeqAt.EqAt A s u .none (isNoneU u)
  | _, _, .nil, _ => fun u hu => by cases hu
  | y :: xs, u :: us, .cons r t, f => fun u' hu' => by
    rcases List.mem_cons.mp hu' with rfl | hu'
    · exact eqAt_item I (f y (by simp)) r hu
    · exact all_items hu I t (fun v hv => f v (List.mem_cons_of_mem _ hv)) u' hu'
theorem isNoneU_of {v : V} {u : Value} (h : NoneOrIns X.K H v) (r : RelV v u) : isNoneU u = decide (v = .non) := by
  rcases h with rfl | ⟨a, C, dx, fs, rfl, ha, e⟩
  · cases r; rfl
  · cases r; rfl
theorem any_none : ∀ {xs : List V} {us : List Value}, Vals xs us → (∀ v ∈ xs, NoneOrIns X.K H v) → us.any isNoneU = xs.any fun v => decide (v = .non)
  | _, _, .nil, _ => rfl
  | y :: xs, u :: us, .cons r t, f => by
    rw [List.any_cons, List.any_cons, isNoneU_of (f y (by simp)) r, any_none t fun v hv => f v (List.mem_cons_of_mem _ hv)]
theorem op_notIn_none (hu : X.A.units + 1 < cLine) : OpR X (compareOp .NotIn) (fun x y H Q => ∃ p xs, x = .non ∧ y = .ref p ∧ SqL X.K H p xs ∧ (∀ v ∈ xs, NoneOrIns X.K H v) ∧ Q (.bl (!(xs.any fun v => decide (v = .non)))) H) := by
  intro pins s σ H x y v u Q I rx ry h
  obtain ⟨p, xs, rfl, rfl, hq, f, q⟩ := h
  cases rx
  cases ry
  obtain ⟨its, r, pl, hz⟩ := I.list hq
  refine SeqAt.notIn_listAt isNoneU pl.isList (fun w hw => all_items (by omega) I r f w (by simpa using hw)) ⟨.bl _, H, I, rfl, ?_⟩
  rw [show its.toArray.any isNoneU = its.any isNoneU by simp, any_none r f]
  exact q
/-- xs.index(None): the first None -/
def rIndexN (K : PySem.W.Frag) : V → List V → Hp → VK → Prop := fun x xs H Q => ∃ (a : Addr) (ys : List V) (j : Nat), x = V.ref a ∧ xs = [.non] ∧ SqL K H a ys ∧ (∀ v ∈ ys, NoneOrIns K H v) ∧ ys[j]? = some .non ∧
  (∀ (m : Nat) (z' : V), m < j → ys[m]? = some z' → z' ≠ .non) ∧ Q (.int (j : Nat)) H
theorem mt_indexN (hu : X.A.units + 1 < cLine) : MtR X "list.index" (rIndexN X.K) := by
  intro pins s σ H x xs v us Q I rx rxs h
  obtain ⟨a, ys, j, rfl, rfl, hs, f, hz, hno, q⟩ := h
  cases rx
  cases rxs with
  | cons ry rt =>
    rename_i uy ut
    cases rt
    cases ry
    obtain ⟨its, rv, ⟨⟨cls, dd, data, sl⟩, n, ho, hc, hdn, hd⟩, hlen⟩ := I.list hs
    simp only at hc hd
    subst hc hd
    obtain ⟨u, hu', ru⟩ := rv.get hz
    obtain ⟨hjl, hje⟩ := List.getElem?_eq_some_iff.mp hu'
    have hvl := rv.length
    have hj : j < its.toArray.size := by simpa using hjl
    have hsl := sizeLine_eq
    refine call_meets PySem.F.slot_list_index ⟨_, ho, rfl⟩ PySem.F.entry_list_index (PySem.F.args_list_index_2 _ _)
      (SeqAt.list_indexAt a its.toArray n dd sl .none isNoneU j hj (by omega) ?_ ?_) ⟨ho, fun u' hu' => all_items (A := X.A.in1) hu I rv f u' (by simpa using hu'), ?_⟩
    · have e1 : its.toArray[j] = u := by simpa using hje
      rw [e1]
      cases ru
      rfl
    · intro m hm hmj
      have hml : m < its.length := by simpa using hm
      have hmy : m < ys.length := by omega
      have hy' : ys[m]? = some ys[m] := List.getElem?_eq_getElem hmy
      obtain ⟨u2, hu2, ru2⟩ := rv.get hy'
      obtain ⟨_, hme⟩ := List.getElem?_eq_some_iff.mp hu2
      have e1 : its.toArray[m] = u2 := by simpa using hme
      rw [e1, isNoneU_of (f _ (List.mem_of_getElem? hy')) ru2]
      exact decide_eq_false (hno m _ hmj hy')
    · exact ⟨.int (j : Nat), H, I.tok _, ⟨_, rfl⟩, q⟩
end
theorem list_extend_tuple (l : Addr) (items : Array Value) (n : Nat) (b : Addr) (items2 : Array Value) (n2 : Nat) (dd : Option Addr) (sl : Array (Option Value)) (hs0 : ¬(!items.isEmpty && Builtin.List.listTooLong (items.size + items2.size)) = true) (hs1 : items.size ≤ sizeLine) (hs2 : items.size + items2.size ≤ sizeLine + 1) :
    Meets (Builtin.«list.extend» ⟨[.ref l, .ref b], []⟩) (fun _ R s => s.heap.get? l = some { cls := .type "list", dict := none, data := .seq items n, slots := #[] } ∧ s.heap.get? b = some { cls := .type "tuple", dict := dd, data := .seq items2 n2, slots := sl } ∧ R (.ok (.ret Value.none)) { s with heap := s.heap.update l (Obj.mapSeq fun x => x ++ items2), toks := s.toks }) :=
  .of_wp fun prog w A R s h => by
    obtain ⟨hp, g, d, tk, os⟩ := s; obtain ⟨hl, hb, h⟩ := h; have f1 := AutoSeq1.idx_int; have f2 := AutoSeq1.sub_tuple_tuple; have f3 := AutoSeq1.sub_list_list; have f4 := AutoSeq1.sub_tuple_list; have f5 := AutoSeq1.sub_list_tuple;
    have hz' : (items ++ items2).size ≤ sizeLine + 1 := by rw [Array.size_append]; exact hs2
    wp_walk using (wpAny_updateSeq hl rfl (hz := hs1) (_hz' := hz')), wpAny_loadPart' hl, wpAny_loadPart' hb; exact ⟨_, rfl, h⟩
section
variable {X : Cx}
def rExtendT (K : PySem.W.Frag) : V → List V → Hp → VK → Prop := fun x vs H Q => ∃ l b xs zs, x = .ref l ∧ vs = [.ref b] ∧ H l = some (.lst xs) ∧ SqT K H b zs ∧ xs.length + zs.length ≤ sizeLine ∧ Q .non (upd H l (.lst (xs ++ zs)))
theorem mt_extendT : MtM X "list.extend" (rExtendT X.K) := by
  intro pins s σ H x vs v us Q I rx rv h
  obtain ⟨l, b, xs, zs, rfl, rfl, hH, hB, hz, q⟩ := h
  cases rx
  obtain ⟨u, rfl, ru⟩ := rv.one
  cases ru
  obtain ⟨z, its, n, r, hl, e⟩ := I.lstM hH
  obtain ⟨its2, r2, ⟨⟨cls, dd, data, sl⟩, e2, hc, n2, hd⟩, z2⟩ := I.tuple hB
  simp only at hc hd
  subst hc hd
  have hl2 := r2.length
  have hsz : its.toArray.size + its2.toArray.size ≤ sizeLine := by rw [List.size_toArray, List.size_toArray]; omega
  have hlong : ¬ (!its.toArray.isEmpty && Builtin.List.listTooLong (its.toArray.size + its2.toArray.size)) = true := by
    rw [notLongL hsz, Bool.and_false]
    exact Bool.false_ne_true
  refine call_meets PySem.F.slot_list_extend ⟨_, e, rfl⟩ PySem.F.entry_list_extend (PySem.F.args_list_extend_2 _ _)
    (list_extend_tuple l its.toArray n b its2.toArray n2 dd sl hlong (by rw [List.size_toArray]; omega) (by omega)) ⟨e, e2, ?_⟩
  refine ⟨.non, _, I.lset (its' := its ++ its2) hH e (by simp) (r.append r2) ?_, rfl, q⟩
  rw [List.length_append]
  omega
end
section
variable {X : Cx} {k : Nat} {p pos : Pos} {e a b : Expr} {es : List Expr} {te : TE} {t : TA} {Ok : Addr → Prop} {sp : Addr → Sp}
def tCallV (Ok : Addr → Prop) (sp : Addr → Sp) (te : TE) (t : TA) : TE := fun σ H Q => te σ H fun x H1 => ∃ f, x = .ref f ∧ Ok f ∧ t σ H1 fun vs H2 => sp f vs H2 Q E0
theorem pe_callV (he : PE X (.Subscript a b p) te) (F : ∀ f, Ok f → ∃ fd ps, FnOk X.prog X.w X.K X.mg X.base CX0 k f fd ps (sp f) ∧ PySem.W.keepIn X.K (.ref f) = true ∧ Binds X.K fd ps []) (hr : Room k X.A)
    (ha : PA X (e :: es) t) (hst : starEach (e :: es) X.env = (false, eval e X.env) :: starEach es X.env := by rfl) (hpl : (backTo pos (starEach es X.env)).any (·.1) = false := by rfl)
    (ht : eval (.Call (.Subscript a b p) (e :: es) [] pos) X.env = (do
      callWith pos (← eval (.Subscript a b p) X.env) [] (backTo pos (starEach (e :: es) X.env)) (backToKw pos (keywordEach [] X.env))) := by rfl) :
    PE X (.Call (.Subscript a b p) (e :: es) [] pos) (tCallV Ok sp te t) := by
  intro pins s σ H Q I h
  rw [ht]
  refine wpAny_bind (thn (he pins s σ H _ I h) fun u s1 ⟨x, H1, I1, rx, f, ex, hok, q⟩ => ?_)
  subst ex
  obtain rfl : u = Value.ref f := rx
  obtain ⟨fd, ps, Ff, hk, hb⟩ := F f hok
  refine PySem.W.callWith_K (h₀ := X.base) I.ok.mod.kin hk (thn (ha pos pins s1 σ H1 _ I1 q) fun us s2 ⟨vs, H2, I2, r, q2⟩ => ⟨I2.kIn, ?_⟩) hst hpl
  exact run_fn (us := us) (vs := vs) (dvs := []) (ds := []) Ff hr hb .nil pass0 I2 r (by rw [List.append_nil]; exact q2)
end
section
variable {X : Cx}
/-- the module's dict at a has these pairs -/
def KD (P : Program) (w : World) (K : PySem.W.Frag) (a : Addr) (kvs : List (Int × Value)) : Prop :=
  ∃ o es ep, K.lookup a = some o ∧ o.ExactDict ∧ o.data = .dict es ep ∧ KeysOf (intKind P w) es ∧ Pairs (intKind P w) es.toList kvs ∧ (kvs.map (·.1)).Nodup
def tKD (P : Program) (w : World) (K : PySem.W.Frag) (td ty : TE) : TE := fun σ H Q => td σ H fun x H1 => ty σ H1 fun y H2 => ∃ a kvs i v u, x = .ref a ∧ y = .int i ∧ KD P w K a kvs ∧ valueAt kvs i = some u ∧ RelV v u ∧ Q v H2
theorem pe_kd {o i : Expr} {pos : Pos} {td ty : TE} (ho : PE X o td) (hi : PE X i ty) (hs : NoSl i) : PE X (.Subscript o i pos) (tKD X.prog X.w X.K td ty) := by
  intro pins s σ H Q I h
  refine subD_of PySem.F.slot_dict_getitem.lookup hs (thn (ho pins s σ H _ I h) fun u s1 ⟨x, H1, I1, rx, q1⟩ => thn (hi pins s1 σ H1 _ I1 q1) fun iv s2 ⟨y, H2, I2, ry, a, kvs, j, v, u', ex, ey, kd, hv, r, q2⟩ => ?_)
  subst ex ey
  obtain rfl : u = Value.ref a := rx
  obtain ⟨t, rfl⟩ := ry
  obtain ⟨ob, es, ep, hk, h1, h2, h3, h4, h5⟩ := kd
  have dd : s2.heap.DictOf (intKind X.prog X.w) a kvs := ⟨ob, es, ep, I2.kIn a ob hk, h1, h2, h3, h4, h5⟩
  exact ⟨dd.typeIs, wpAny_getItem_of (intKind_is X.prog X.w j t) dd.mapOf hv ⟨v, H2, I2.tok _, r, q2⟩⟩
end
end Th
namespace Th
open PySem PySem.Spec PyProof.Rows L2
structure MS where
  S : Nat → Option Md35.Stack
  row : List Nat
  unc : Option Md35.Throw
def ms (s : Md35.State) : MS := ⟨s.stack, s.row, s.uncaught⟩
def upS (S : Nat → Option Md35.Stack) (k : Nat) (v : Option Md35.Stack) : Nat → Option Md35.Stack := fun j => if j = k then v else S j
theorem upS_same {S : Nat → Option Md35.Stack} {k : Nat} {v : Option Md35.Stack} : upS S k v k = v := if_pos rfl
theorem upS_ne {S : Nat → Option Md35.Stack} {k j : Nat} {v : Option Md35.Stack} (h : j ≠ k) : upS S k v j = S j := if_neg h
theorem ms_with {s : Md35.State} {k : Nat} {x y : Md35.Stack} (h : s.stack k = some x) (hy : y.number = k) : ms (s.with_ y) = ⟨upS s.stack k (some y), s.row, s.uncaught⟩ := by
  have e : (s.with_ y).stack = upS s.stack k (some y) := by
    funext j
    by_cases hj : j = k
    · subst hj
      rw [upS_same]
      exact stack_with_same h hy
    · rw [upS_ne hj]
      exact stack_with_ne (by omega)
  unfold ms
  rw [e]
  rfl
theorem ms_without (s : Md35.State) (k : Nat) : ms (s.without k) = ⟨upS s.stack k none, s.row, s.uncaught⟩ := by
  have e : (s.without k).stack = upS s.stack k none := by
    funext j
    rw [stack_without]
    rfl
  unfold ms
  rw [e]
  rfl
structure Cl where
  keep : Addr
  stack : Addr
  frame : Addr
  throw : Addr
  asks : Addr
def kf (sl tl : Addr) (r : V) (c : Addr) (u : V) : List (Str × V) := [(("stacks" : Str), .ref sl), (("taken" : Str), .ref tl), (("running" : Str), r), (("come" : Str), .ref c), (("uncaught" : Str), u)]
def sf (k : Nat) (fr pc : Addr) (on : Bool) (w : V) : List (Str × V) := [(("number" : Str), .int (k : Int)), (("frames" : Str), .ref fr), (("pieces" : Str), .ref pc), (("on" : Str), .bl on), (("waiter" : Str), w)]
def ff (fn place : Nat) (wd : Addr) (cg : V) (ac : Addr) : List (Str × V) := [(("function" : Str), .int (fn : Int)), (("place" : Str), .int (place : Int)), (("words" : Str), .ref wd), (("caught" : Str), cg), (("acts" : Str), .ref ac)]
def tf (k : Nat) (v : Int) (cs : Addr) : List (Str × V) := [(("kind" : Str), .int (k : Int)), (("value" : Str), .int v), (("causes" : Str), .ref cs)]
def af (r : Addr) (n : Nat) (t : Addr) : List (Str × V) := [(("replies" : Str), .ref r), (("asked" : Str), .int (n : Int)), (("told" : Str), .ref t)]
section
variable (sl tl c fr pc wd ac cs r t sl' tl' c' wd' ac' cs' r' t' fr' pc' : Addr) (u w g u' w' g' rn rn' : V) (k n m i j : Nat) (on on' : Bool) (v v' : Int)
theorem kf_stacks : (kf sl tl rn c u).lookup ("stacks" : Str) = some (.ref sl) := by kernel_rfl
theorem kf_taken : (kf sl tl rn c u).lookup ("taken" : Str) = some (.ref tl) := by kernel_rfl
theorem kf_running : (kf sl tl rn c u).lookup ("running" : Str) = some rn := by kernel_rfl
theorem kf_come : (kf sl tl rn c u).lookup ("come" : Str) = some (.ref c) := by kernel_rfl
theorem kf_uncaught : (kf sl tl rn c u).lookup ("uncaught" : Str) = some u := by kernel_rfl
theorem kf_pstacks : putF ("stacks" : Str) (.ref sl') (kf sl tl rn c u) = kf sl' tl rn c u := by kernel_rfl
theorem kf_ptaken : putF ("taken" : Str) (.ref tl') (kf sl tl rn c u) = kf sl tl' rn c u := by kernel_rfl
theorem kf_prunning : putF ("running" : Str) rn' (kf sl tl rn c u) = kf sl tl rn' c u := by kernel_rfl
theorem kf_pcome : putF ("come" : Str) (.ref c') (kf sl tl rn c u) = kf sl tl rn c' u := by kernel_rfl
theorem kf_puncaught : putF ("uncaught" : Str) u' (kf sl tl rn c u) = kf sl tl rn c u' := by kernel_rfl
theorem sf_number : (sf k fr pc on w).lookup ("number" : Str) = some (.int (k : Int)) := by kernel_rfl
theorem sf_frames : (sf k fr pc on w).lookup ("frames" : Str) = some (.ref fr) := by kernel_rfl
theorem sf_pieces : (sf k fr pc on w).lookup ("pieces" : Str) = some (.ref pc) := by kernel_rfl
theorem sf_on : (sf k fr pc on w).lookup ("on" : Str) = some (.bl on) := by kernel_rfl
theorem sf_waiter : (sf k fr pc on w).lookup ("waiter" : Str) = some w := by kernel_rfl
theorem sf_pon : putF ("on" : Str) (.bl on') (sf k fr pc on w) = sf k fr pc on' w := by kernel_rfl
theorem sf_pwaiter : putF ("waiter" : Str) w' (sf k fr pc on w) = sf k fr pc on w' := by kernel_rfl
theorem ff_function : (ff n m wd g ac).lookup ("function" : Str) = some (.int (n : Int)) := by kernel_rfl
theorem ff_place : (ff n m wd g ac).lookup ("place" : Str) = some (.int (m : Int)) := by kernel_rfl
theorem ff_words : (ff n m wd g ac).lookup ("words" : Str) = some (.ref wd) := by kernel_rfl
theorem ff_caught : (ff n m wd g ac).lookup ("caught" : Str) = some g := by kernel_rfl
theorem ff_acts : (ff n m wd g ac).lookup ("acts" : Str) = some (.ref ac) := by kernel_rfl
theorem ff_pplace : putF ("place" : Str) (.int (j : Int)) (ff n m wd g ac) = ff n j wd g ac := by kernel_rfl
theorem ff_pcaught : putF ("caught" : Str) g' (ff n m wd g ac) = ff n m wd g' ac := by kernel_rfl
theorem tf_kind : (tf k v cs).lookup ("kind" : Str) = some (.int (k : Int)) := by kernel_rfl
theorem tf_value : (tf k v cs).lookup ("value" : Str) = some (.int v) := by kernel_rfl
theorem tf_causes : (tf k v cs).lookup ("causes" : Str) = some (.ref cs) := by kernel_rfl
theorem af_replies : (af r n t).lookup ("replies" : Str) = some (.ref r) := by kernel_rfl
theorem af_asked : (af r n t).lookup ("asked" : Str) = some (.int (n : Int)) := by kernel_rfl
theorem af_told : (af r n t).lookup ("told" : Str) = some (.ref t) := by kernel_rfl
theorem af_pasked : putF ("asked" : Str) (.int (m : Int)) (af r n t) = af r m t := by kernel_rfl
end
inductive Ro where
  | kp | sl | tl
  | st (k : Nat) | fr (k : Nat) | pc (k : Nat)
  | fm (k i : Nat) | wd (k i : Nat) | ac (k i : Nat)
  | ak | td | res
  deriving DecidableEq
abbrev Gh := Addr → Option Ro
/-- the keep's own -/
def kr : Ro → Bool
  | .ak => false
  | .td => false
  | .res => false
  | _ => true
structure Lay where
  kp : Addr
  sl : Addr
  tl : Addr
  cm : Addr
  un : V
  st : Nat → Addr
  fr : Nat → Addr
  pc : Nat → Addr
  fm : Nat → Nat → Addr
  wd : Nat → Nat → Addr
  ac : Nat → Nat → Addr
  cg : Nat → Nat → V
  aa : Nat → Nat → List Addr
def Lay.adr (L : Lay) : Ro → Addr
  | .kp => L.kp
  | .sl => L.sl
  | .tl => L.tl
  | .st k => L.st k
  | .fr k => L.fr k
  | .pc k => L.pc k
  | .fm k i => L.fm k i
  | .wd k i => L.wd k i
  | .ac k i => L.ac k i
  | _ => 0
def Fx (H : Hp) (G : Gh) (a : Addr) (o : HO) : Prop := H a = some o ∧ G a = none
def actV : Md35.Act → List V
  | .handler h => [.int 0, .int (h : Int)]
  | .last g => [.int 1, .int (g : Int)]
def Acts (H : Hp) (G : Gh) (as : List Addr) (l : List Md35.Act) : Prop := Paired (fun a c => Fx H G a (.tup (actV c))) as l
def Causes (H : Hp) (G : Gh) (as : List Addr) (l : List (Nat × Int)) : Prop := Paired (fun a (c : Nat × Int) => Fx H G a (.tup [.int (c.1 : Int), .int c.2])) as l
def ThAt (T : Cl) (H : Hp) (G : Gh) (v : V) (t : Md35.Throw) : Prop :=
  ∃ a dx ca cs, v = .ref a ∧ Fx H G a (.ins T.throw dx (tf t.kind t.value ca)) ∧ Fx H G ca (.lst (cs.map V.ref)) ∧ Causes H G cs t.causes ∧ t.causes.length ≤ 16
def ThO (T : Cl) (H : Hp) (G : Gh) (v : V) : Option Md35.Throw → Prop
  | none => v = .non
  | some t => ThAt T H G v t
/-- a tuple of the module -/
def KT (K : PySem.W.Frag) (a : Addr) (xs : List V) : Prop :=
  ∃ (o : Obj) (its : Array Value) (n : Nat), K.lookup a = some o ∧ o.cls = .type "tuple" ∧ o.data = .seq its n ∧ its.size ≤ sizeLine ∧ Vals xs its.toList
def cameV (c : Md35.Came) : List V := [.int c.why, .int c.value, .int c.more]
def Tup (K : PySem.W.Frag) (H : Hp) (G : Gh) (a : Addr) (xs : List V) : Prop := Fx H G a (.tup xs) ∨ KT K a xs
theorem Tup.sq {K : PySem.W.Frag} {H : Hp} {G : Gh} {a : Addr} {xs : List V} (h : Tup K H G a xs) : SqT K H a xs := by
  rcases h with h | h
  · exact .inl (.inl h.1)
  · exact .inr h
/-- what nobody owns stays -/
def Stay (G : Gh) (H : Hp) (G' : Gh) (H' : Hp) : Prop := ∀ a o, H a = some o → (G a = none ∨ G a = some .res) → H' a = some o ∧ G' a = G a
theorem Stay.refl (G : Gh) (H : Hp) : Stay G H G H := fun a o h g => ⟨h, rfl⟩
theorem Fx.stay {H H' : Hp} {G G' : Gh} {a : Addr} {o : HO} (h : Fx H G a o) (z : Stay G H G' H') : Fx H' G' a o :=
  let ⟨h1, h2⟩ := z a o h.1 (.inl h.2)
  ⟨h1, h2.trans h.2⟩
def gad (G : Gh) (a : Addr) (r : Ro) : Gh := fun b => if b = a then some r else G b
theorem gad_same {G : Gh} {a : Addr} {r : Ro} : gad G a r a = some r := if_pos rfl
theorem gad_ne {G : Gh} {a b : Addr} {r : Ro} (h : b ≠ a) : gad G a r b = G b := if_neg h
theorem Paired.mono {α β : Type} {F F' : α → β → Prop} (h : ∀ a b, F a b → F' a b) : ∀ {l : List α} {r : List β}, Paired F l r → Paired F' l r
  | _, _, .nil => .nil
  | _, _, .cons a b => .cons (h _ _ a) (Paired.mono h b)
theorem Acts.stay {H H' : Hp} {G G' : Gh} {as : List Addr} {l : List Md35.Act} (h : Acts H G as l) (z : Stay G H G' H') : Acts H' G' as l := Paired.mono (fun a c (x : Fx H G a _) => x.stay z) h
theorem Causes.stay {H H' : Hp} {G G' : Gh} {as : List Addr} {l : List (Nat × Int)} (h : Causes H G as l) (z : Stay G H G' H') : Causes H' G' as l := Paired.mono (fun a c (x : Fx H G a _) => x.stay z) h
theorem ThAt.stay {T : Cl} {H H' : Hp} {G G' : Gh} {v : V} {t : Md35.Throw} (h : ThAt T H G v t) (z : Stay G H G' H') : ThAt T H' G' v t := by
  obtain ⟨a, dx, ca, cs, e, h1, h2, h3, h4⟩ := h
  exact ⟨a, dx, ca, cs, e, h1.stay z, h2.stay z, h3.stay z, h4⟩
theorem ThO.stay {T : Cl} {H H' : Hp} {G G' : Gh} {v : V} : ∀ {t : Option Md35.Throw}, ThO T H G v t → Stay G H G' H' → ThO T H' G' v t
  | none, h, _ => h
  | some _, h, z => ThAt.stay h z
theorem Tup.stay {K : PySem.W.Frag} {H H' : Hp} {G G' : Gh} {a : Addr} {xs : List V} (h : Tup K H G a xs) (z : Stay G H G' H') : Tup K H' G' a xs := by
  rcases h with h | h
  · exact .inl (h.stay z)
  · exact .inr h
inductive Ct where
  | lst (xs : List V)
  | ins (C : Addr) (fs : List (Str × V))
def Fit (o : HO) : Ct → Prop
  | .lst xs => o = .lst xs
  | .ins C fs => ∃ dx, o = .ins C dx fs
def At (H : Hp) (a : Addr) (c : Ct) : Prop := ∃ o, H a = some o ∧ Fit o c
def frameAt (M : MS) (k i : Nat) : Option Md35.Frame := (M.S k).bind fun x => x.frames.reverse[i]?
def tk (M : MS) (p : Nat) : Bool := (List.range 64).any fun k => ((M.S k).map fun x => x.pieces.contains p).getD false
def nxt : List Nat → Nat → Option Nat
  | a :: b :: r, k => if a = k then some b else nxt (b :: r) k
  | _, _ => none
def wtV (L : Lay) (row : List Nat) (k : Nat) : V := match nxt row k with
  | some j => .ref (L.st j)
  | none => .non
def runV (L : Lay) : List Nat → V
  | [] => .non
  | r :: _ => .ref (L.st r)
def stksV (L : Lay) (M : MS) : List V := (List.range 64).map fun k => if (M.S k).isSome = true then V.ref (L.st k) else .non
def takenV (M : MS) : List V := (List.range 256).map fun p => V.bl (tk M p)
def frsV (L : Lay) (k n : Nat) : List V := (List.range n).map fun i => V.ref (L.fm k i)
def cont (T : Cl) (L : Lay) (M : MS) : Ro → Option Ct
  | .kp => some (.ins T.keep (kf L.sl L.tl (runV L M.row) L.cm L.un))
  | .sl => some (.lst (stksV L M))
  | .tl => some (.lst (takenV M))
  | .st k => if ((M.S k).isSome || M.row.contains k) = true then some (.ins T.stack (sf k (L.fr k) (L.pc k) (M.row.contains k) (wtV L M.row k))) else none
  | .fr k => (M.S k).map fun x => .lst (frsV L k x.frames.length)
  | .pc k => (M.S k).map fun x => .lst (x.pieces.map fun (p : Nat) => V.int (p : Int))
  | .fm k i => (frameAt M k i).map fun f => .ins T.frame (ff f.fn f.place (L.wd k i) (L.cg k i) (L.ac k i))
  | .wd k i => (frameAt M k i).map fun f => .lst (f.words.map V.int)
  | .ac k i => (frameAt M k i).map fun _ => .lst ((L.aa k i).map V.ref)
  | _ => none
structure Misc (T : Cl) (K : PySem.W.Frag) (H : Hp) (G : Gh) (L : Lay) (M : MS) : Prop where
  act : ∀ k i f, frameAt M k i = some f → Acts H G (L.aa k i) f.acts.reverse
  cau : ∀ k i f, frameAt M k i = some f → ThO T H G (L.cg k i) f.caught
  unc : ThO T H G L.un M.unc
/-- what has come for the running stack is what the keep holds -/
def Com (K : PySem.W.Frag) (H : Hp) (G : Gh) (L : Lay) (M : MS) : Prop := ∀ r x, M.row.head? = some r → M.S r = some x → Tup K H G L.cm (cameV x.came)
structure Rep (T : Cl) (K : PySem.W.Frag) (H : Hp) (G : Gh) (L : Lay) (M : MS) : Prop where
  own : ∀ r c, cont T L M r = some c → G (L.adr r) = some r ∧ At H (L.adr r) c
  dom : ∀ a r, G a = some r → H a ≠ none
  misc : Misc T K H G L M
section
variable {T : Cl} {K : PySem.W.Frag} {H H' : Hp} {G G' : Gh} {L L' : Lay} {M M' : MS}
theorem Misc.stay (h : Misc T K H G L M) (z : Stay G H G' H') : Misc T K H' G' L M :=
  ⟨fun k i f e => (h.act k i f e).stay z, fun k i f e => (h.cau k i f e).stay z, h.unc.stay z⟩
theorem cont_kr {r : Ro} {c : Ct} (h : cont T L M r = some c) : kr r = true := by
  cases r <;> first | rfl | cases h
theorem Rep.free (R : Rep T K H G L M) {a : Addr} (h : H a = none) : G a = none := by
  cases e : G a with
  | none => rfl
  | some r => exact absurd h (R.dom a r e)
/-- nothing of the keep's changes -/
theorem Misc.keep (m : Misc T K H G L M) (h : ∀ a o, H a = some o → G a = none → H' a = some o ∧ G' a = none) : Misc T K H' G' L M := by
  have fx : ∀ {a o}, Fx H G a o → Fx H' G' a o := fun {a o} z => h a o z.1 z.2
  have th : ∀ {v t}, ThO T H G v t → ThO T H' G' v t := fun {v t} z => by
    cases t with
    | none => exact z
    | some t =>
      obtain ⟨a, dx, ca, cs, e, h1, h2, h3, h4⟩ := z
      exact ⟨a, dx, ca, cs, e, fx h1, fx h2, Paired.mono (fun _ _ x => fx x) h3, h4⟩
  exact ⟨fun k i f e => Paired.mono (fun _ _ x => fx x) (m.act k i f e), fun k i f e => th (m.cau k i f e), th m.unc⟩
theorem Rep.mono (R : Rep T K H G L M) (h : ∀ a o, H a = some o → (G a = none ∨ ∃ r, G a = some r ∧ kr r = true) → H' a = some o ∧ G' a = G a) (hd : ∀ a r, G' a = some r → H' a ≠ none) : Rep T K H' G' L M := by
  refine ⟨fun r c e => ?_, hd, R.misc.keep fun a o e g => ?_⟩
  · obtain ⟨g, o, ho, hf⟩ := R.own r c e
    obtain ⟨h1, h2⟩ := h _ _ ho (.inr ⟨r, g, cont_kr e⟩)
    exact ⟨h2.trans g, o, h1, hf⟩
  · obtain ⟨h1, h2⟩ := h a o e (.inl g)
    exact ⟨h1, h2.trans g⟩
theorem upd_dom {a : Addr} {o : HO} (d : ∀ b r, G b = some r → H b ≠ none) : ∀ b r, G b = some r → upd H a o b ≠ none := fun b r e => by
  unfold upd
  split
  · simp
  · exact d b r e
theorem upd_stay {a : Addr} {o : HO} {r : Ro} (g : G a = some r) (hr : r ≠ .res) : Stay G H G (upd H a o) := fun b u e n => by
  refine ⟨?_, rfl⟩
  rw [upd_ne (fun z => by subst z; rcases n with n | n <;> rw [g] at n <;> cases n; exact hr rfl)]
  exact e
theorem new_stay {a : Addr} {o : HO} (h : H a = none) : Stay G H G (upd H a o) := fun b u e n => by
  refine ⟨?_, rfl⟩
  rw [upd_ne (ne_of_none e h)]
  exact e
theorem add_stay {a : Addr} {o : HO} {r : Ro} (h : H a = none) : Stay G H (gad G a r) (upd H a o) := fun b u e n => by
  have hb := ne_of_none e h
  exact ⟨by rw [upd_ne hb]; exact e, gad_ne hb⟩
theorem Stay.trans {H1 H2 H3 : Hp} {G1 G2 G3 : Gh} (a : Stay G1 H1 G2 H2) (b : Stay G2 H2 G3 H3) : Stay G1 H1 G3 H3 := fun c o e g =>
  let ⟨e2, g2⟩ := a c o e g
  let ⟨e3, g3⟩ := b c o e2 (by rw [g2]; exact g)
  ⟨e3, g3.trans g2⟩
theorem cont_nres {r : Ro} {c : Ct} (h : cont T L M r = some c) : r ≠ .res := fun e => by
  subst e
  cases h
/-- one thing of the keep's is changed -/
theorem Rep.upd1 {r0 : Ro} {c0 : Ct} {o : HO} (R : Rep T K H G L M) (live : cont T L M r0 = some c0) (hadr : ∀ r c, cont T L' M' r = some c → L'.adr r = L.adr r)
    (hoth : ∀ r c, r ≠ r0 → cont T L' M' r = some c → cont T L M r = some c) (hnew : ∀ c, cont T L' M' r0 = some c → Fit o c) (hm : Misc T K H G L' M') :
    Rep T K (L2.upd H (L.adr r0) o) G L' M' := by
  have g0 := (R.own r0 c0 live).1
  refine ⟨fun r c e => ?_, upd_dom R.dom, hm.stay (upd_stay g0 (cont_nres live))⟩
  by_cases hr : r = r0
  · subst hr
    rw [hadr r c e]
    exact ⟨g0, o, upd_same, hnew c e⟩
  · obtain ⟨g, u, hu, hf⟩ := R.own r c (hoth r c hr e)
    rw [hadr r c e]
    refine ⟨g, u, ?_, hf⟩
    rw [upd_ne (fun z => hr ?_)]
    · exact hu
    · rw [z, g0] at g
      exact (Option.some.inj g).symm
/-- fewer things, none changed -/
theorem Rep.less (R : Rep T K H G L M) (hadr : ∀ r c, cont T L' M' r = some c → L'.adr r = L.adr r) (hoth : ∀ r c, cont T L' M' r = some c → cont T L M r = some c) (hm : Misc T K H G L' M') : Rep T K H G L' M' :=
  ⟨fun r c e => by rw [hadr r c e]; exact R.own r c (hoth r c e), R.dom, hm⟩
end
end Th
namespace Th
open PySem PySem.Spec PyProof.Rows L2
section
variable {T : Cl} {K : PySem.W.Frag} {H H' : Hp} {G G' : Gh} {L L' : Lay} {M M' : MS}
theorem Rep.ne {r r' : Ro} {c c' : Ct} (R : Rep T K H G L M) (h : cont T L M r = some c) (h' : cont T L M r' = some c') (hne : r ≠ r') : L.adr r ≠ L.adr r' := fun e => by
  have g := (R.own r c h).1
  have g' := (R.own r' c' h').1
  rw [e, g'] at g
  exact hne (Option.some.inj g).symm
theorem Rep.make (R : Rep T K H G L M)
    (h : ∀ r c, cont T L' M' r = some c → (cont T L M r = some c ∧ L'.adr r = L.adr r ∧ H' (L.adr r) = H (L.adr r) ∧ G' (L.adr r) = G (L.adr r)) ∨ (G' (L'.adr r) = some r ∧ At H' (L'.adr r) c))
    (hd : ∀ b r, G' b = some r → H' b ≠ none) (hm : Misc T K H' G' L' M') : Rep T K H' G' L' M' := by
  refine ⟨fun r c e => ?_, hd, hm⟩
  rcases h r c e with ⟨h1, h2, h3, h4⟩ | h1
  · obtain ⟨g, o, ho, hf⟩ := R.own r c h1
    rw [h2]
    exact ⟨h4.trans g, o, h3.trans ho, hf⟩
  · exact h1
theorem Rep.upd2 {r1 r2 : Ro} {c1 c2 : Ct} {o1 o2 : HO} (R : Rep T K H G L M) (l1 : cont T L M r1 = some c1) (l2 : cont T L M r2 = some c2) (hne : r1 ≠ r2) (hadr : ∀ r c, cont T L' M' r = some c → L'.adr r = L.adr r)
    (hoth : ∀ r c, r ≠ r1 → r ≠ r2 → cont T L' M' r = some c → cont T L M r = some c) (hn1 : ∀ c, cont T L' M' r1 = some c → Fit o1 c) (hn2 : ∀ c, cont T L' M' r2 = some c → Fit o2 c)
    (hm : Misc T K H G L' M') : Rep T K (L2.upd (L2.upd H (L.adr r1) o1) (L.adr r2) o2) G L' M' := by
  have g1 := (R.own r1 c1 l1).1
  have g2 := (R.own r2 c2 l2).1
  have n12 := R.ne l1 l2 hne
  refine R.make (fun r c e => ?_) (upd_dom (upd_dom R.dom)) (hm.stay ((upd_stay g1 (cont_nres l1)).trans (upd_stay g2 (cont_nres l2))))
  rw [hadr r c e]
  by_cases h1 : r = r1
  · subst h1
    exact .inr ⟨g1, o1, by rw [upd_ne n12, upd_same], hn1 c e⟩
  · by_cases h2 : r = r2
    · subst h2
      exact .inr ⟨g2, o2, upd_same, hn2 c e⟩
    · have q := hoth r c h1 h2 e
      exact .inl ⟨q, rfl, by rw [upd_ne (R.ne q l2 h2), upd_ne (R.ne q l1 h1)], rfl⟩
abbrev MS.up (M : MS) (k : Nat) (v : Option Md35.Stack) : MS := { M with S := upS M.S k v }
variable {k : Nat} {x y : Md35.Stack}
theorem isSome_up (hx : M.S k = some x) (j : Nat) : ((M.up k (some y)).S j).isSome = (M.S j).isSome := by
  by_cases h : j = k
  · subst h
    show (upS M.S j (some y) j).isSome = _
    rw [upS_same, hx]
    rfl
  · show (upS M.S k (some y) j).isSome = _
    rw [upS_ne h]
theorem stksV_up (hx : M.S k = some x) : stksV L (M.up k (some y)) = stksV L M := by
  unfold stksV
  refine List.map_congr_left fun j _ => ?_
  rw [isSome_up hx]
theorem tk_up (hx : M.S k = some x) (hp : y.pieces = x.pieces) (p : Nat) : tk (M.up k (some y)) p = tk M p := by
  unfold tk
  congr 1
  funext j
  by_cases h : j = k
  · subst h
    show ((upS M.S j (some y) j).map _).getD false = _
    rw [upS_same, hx]
    show y.pieces.contains p = x.pieces.contains p
    rw [hp]
  · show ((upS M.S k (some y) j).map _).getD false = _
    rw [upS_ne h]
theorem takenV_up (hx : M.S k = some x) (hp : y.pieces = x.pieces) : takenV (M.up k (some y)) = takenV M := by
  unfold takenV
  refine List.map_congr_left fun p _ => ?_
  rw [tk_up hx hp]
theorem frameAt_ne {v : Option Md35.Stack} {j : Nat} (h : j ≠ k) (i : Nat) : frameAt (M.up k v) j i = frameAt M j i := by
  show ((upS M.S k v j).bind _) = _
  rw [upS_ne h]
  rfl
theorem frameAt_same {v : Option Md35.Stack} (i : Nat) : frameAt (M.up k v) k i = v.bind fun x => x.frames.reverse[i]? := by
  show ((upS M.S k v k).bind _) = _
  rw [upS_same]
theorem frameAt_of (hx : M.S k = some x) (i : Nat) : frameAt M k i = x.frames.reverse[i]? := by
  show ((M.S k).bind _) = _
  rw [hx]
  rfl
theorem rev_top {α : Type} (f : α) (fs : List α) (i : Nat) : (f :: fs).reverse[i]? = if i = fs.length then some f else fs.reverse[i]? := by
  rw [List.reverse_cons]
  by_cases h : i = fs.length
  · subst h
    rw [if_pos rfl, List.getElem?_append_right (by simp)]
    simp
  · rw [if_neg h]
    by_cases h2 : i < fs.length
    · rw [List.getElem?_append_left (by simpa using h2)]
    · rw [List.getElem?_append_right (by simp; omega), List.getElem?_eq_none (by simp; omega), List.getElem?_eq_none (by simp; omega)]
/-- layouts that agree but for one frame's caught and acts, and for come -/
structure Lay.But (L L' : Lay) (k n : Nat) : Prop where
  kp : L'.kp = L.kp
  sl : L'.sl = L.sl
  tl : L'.tl = L.tl
  un : L'.un = L.un
  st : L'.st = L.st
  fr : L'.fr = L.fr
  pc : L'.pc = L.pc
  fm : L'.fm = L.fm
  wd : L'.wd = L.wd
  ac : L'.ac = L.ac
  cg : ∀ j i, (j = k ∧ i = n) ∨ L'.cg j i = L.cg j i
  aa : ∀ j i, (j = k ∧ i = n) ∨ L'.aa j i = L.aa j i
theorem Lay.But.adr {n : Nat} (h : L.But L' k n) (r : Ro) : L'.adr r = L.adr r := by
  cases r <;> simp only [Lay.adr, h.kp, h.sl, h.tl, h.st, h.fr, h.pc, h.fm, h.wd, h.ac]
theorem Lay.But.refl {n : Nat} (L : Lay) : L.But L k n := ⟨rfl, rfl, rfl, rfl, rfl, rfl, rfl, rfl, rfl, rfl, fun _ _ => .inr rfl, fun _ _ => .inr rfl⟩
theorem runV_but {n : Nat} (h : L.But L' k n) (row : List Nat) : runV L' row = runV L row := by
  cases row with
  | nil => rfl
  | cons r t => show V.ref (L'.st r) = V.ref (L.st r); rw [h.st]
theorem wtV_but {n : Nat} (h : L.But L' k n) (row : List Nat) (j : Nat) : wtV L' row j = wtV L row j := by
  unfold wtV
  rw [h.st]
/-- the innermost frame of a stack is changed: the rest is as it was -/
theorem cont_top {f f' : Md35.Frame} {fs : List Md35.Frame} (hx : M.S k = some x) (hf : x.frames = f :: fs) (hy : y.frames = f' :: fs) (hp : y.pieces = x.pieces) (hL : L.But L' k fs.length) (hc : L'.cm = L.cm) {r : Ro}
    (h1 : r ≠ .fm k fs.length) (h2 : r ≠ .wd k fs.length) (h3 : r ≠ .ac k fs.length) : cont T L' (M.up k (some y)) r = cont T L M r := by
  have fr_at : ∀ j i, ¬ (j = k ∧ i = fs.length) → frameAt (M.up k (some y)) j i = frameAt M j i := fun j i hn => by
    by_cases hj : j = k
    · subst hj
      have hi : ¬ i = fs.length := fun e => hn ⟨rfl, e⟩
      rw [frameAt_same, frameAt_of hx]
      show y.frames.reverse[i]? = _
      rw [hy, hf, rev_top, rev_top, if_neg hi, if_neg hi]
    · exact frameAt_ne hj i
  cases r with
  | kp =>
    show some (Ct.ins T.keep (kf L'.sl L'.tl (runV L' M.row) L'.cm L'.un)) = some (Ct.ins T.keep (kf L.sl L.tl (runV L M.row) L.cm L.un))
    rw [hL.sl, hL.tl, runV_but hL, hc, hL.un]
  | sl =>
    show some (Ct.lst (stksV L' (M.up k (some y)))) = some (Ct.lst (stksV L M))
    rw [stksV_up hx]
    unfold stksV
    rw [hL.st]
  | tl =>
    show some (Ct.lst (takenV (M.up k (some y)))) = some (Ct.lst (takenV M))
    rw [takenV_up hx hp]
  | st j =>
    show (if (((M.up k (some y)).S j).isSome || M.row.contains j) = true then some (Ct.ins T.stack (sf j (L'.fr j) (L'.pc j) (M.row.contains j) (wtV L' M.row j))) else none) = _
    rw [isSome_up hx, hL.fr, hL.pc, wtV_but hL]
    rfl
  | fr j =>
    show ((upS M.S k (some y) j).map fun x => Ct.lst (frsV L' j x.frames.length)) = (M.S j).map fun x => Ct.lst (frsV L j x.frames.length)
    by_cases hj : j = k
    · subst hj
      rw [upS_same, hx]
      show some (Ct.lst (frsV L' j y.frames.length)) = some (Ct.lst (frsV L j x.frames.length))
      rw [hy, hf]
      unfold frsV
      rw [hL.fm]
      rfl
    · rw [upS_ne hj]
      unfold frsV
      rw [hL.fm]
  | pc j =>
    show ((upS M.S k (some y) j).map fun x => Ct.lst (x.pieces.map fun (p : Nat) => V.int (p : Int))) = (M.S j).map fun x => Ct.lst (x.pieces.map fun (p : Nat) => V.int (p : Int))
    by_cases hj : j = k
    · subst hj
      rw [upS_same, hx]
      show some (Ct.lst (y.pieces.map fun (p : Nat) => V.int (p : Int))) = some (Ct.lst (x.pieces.map fun (p : Nat) => V.int (p : Int)))
      rw [hp]
    · rw [upS_ne hj]
  | fm j i =>
    have hn : ¬ (j = k ∧ i = fs.length) := fun ⟨a, b⟩ => h1 (by rw [a, b])
    show (frameAt (M.up k (some y)) j i).map _ = (frameAt M j i).map _
    rw [fr_at j i hn, hL.wd, hL.ac]
    rcases hL.cg j i with e | e
    · exact absurd e hn
    · rw [e]
  | wd j i =>
    have hn : ¬ (j = k ∧ i = fs.length) := fun ⟨a, b⟩ => h2 (by rw [a, b])
    show (frameAt (M.up k (some y)) j i).map _ = (frameAt M j i).map _
    rw [fr_at j i hn]
  | ac j i =>
    have hn : ¬ (j = k ∧ i = fs.length) := fun ⟨a, b⟩ => h3 (by rw [a, b])
    show (frameAt (M.up k (some y)) j i).map _ = (frameAt M j i).map _
    rw [fr_at j i hn]
    rcases hL.aa j i with e | e
    · exact absurd e hn
    · rw [e]
  | _ => rfl
theorem frameAt_top {f' : Md35.Frame} {fs : List Md35.Frame} (hy : y.frames = f' :: fs) : frameAt (M.up k (some y)) k fs.length = some f' := by
  rw [frameAt_same]
  show y.frames.reverse[fs.length]? = _
  rw [hy, rev_top, if_pos rfl]
theorem frameAt_head {f : Md35.Frame} {fs : List Md35.Frame} (hx : M.S k = some x) (hf : x.frames = f :: fs) : frameAt M k fs.length = some f := by
  rw [frameAt_of hx, hf, rev_top, if_pos rfl]
theorem frameAt_up {f f' : Md35.Frame} {fs : List Md35.Frame} (hx : M.S k = some x) (hf : x.frames = f :: fs) (hy : y.frames = f' :: fs) {j i : Nat} {g : Md35.Frame} (h : frameAt (M.up k (some y)) j i = some g) :
    (j = k ∧ i = fs.length ∧ g = f') ∨ (¬ (j = k ∧ i = fs.length) ∧ frameAt M j i = some g) := by
  by_cases hj : j = k
  · subst hj
    by_cases hi : i = fs.length
    · subst hi
      rw [frameAt_top hy] at h
      exact .inl ⟨rfl, rfl, (Option.some.inj h).symm⟩
    · refine .inr ⟨fun z => hi z.2, ?_⟩
      rw [frameAt_same] at h
      have h' : y.frames.reverse[i]? = some g := h
      rw [hy, rev_top, if_neg hi] at h'
      rw [frameAt_of hx, hf, rev_top, if_neg hi]
      exact h'
  · exact .inr ⟨fun z => hj z.1, by rw [frameAt_ne hj] at h; exact h⟩
/-- the misc part behind a change of the innermost frame -/
theorem misc_top {f f' : Md35.Frame} {fs : List Md35.Frame} (m : Misc T K H G L M) (hx : M.S k = some x) (hf : x.frames = f :: fs) (hy : y.frames = f' :: fs) (hL : L.But L' k fs.length)
    (ha : Acts H G (L'.aa k fs.length) f'.acts.reverse) (hg : ThO T H G (L'.cg k fs.length) f'.caught) : Misc T K H G L' (M.up k (some y)) where
  act := fun j i g e => by
    rcases frameAt_up hx hf hy e with ⟨rfl, rfl, rfl⟩ | ⟨hn, e'⟩
    · exact ha
    · rcases hL.aa j i with q | q
      · exact absurd q hn
      · rw [q]
        exact m.act j i g e'
  cau := fun j i g e => by
    rcases frameAt_up hx hf hy e with ⟨rfl, rfl, rfl⟩ | ⟨hn, e'⟩
    · exact hg
    · rcases hL.cg j i with q | q
      · exact absurd q hn
      · rw [q]
        exact m.cau j i g e'
  unc := by
    rw [hL.un]
    exact m.unc
end
end Th
namespace Th
open PySem PySem.Spec PyProof.Rows L2
section
variable {T : Cl} {K : PySem.W.Frag} {H H' : Hp} {G G' : Gh} {L L' : Lay} {M M' : MS} {k : Nat} {x y : Md35.Stack}
theorem Rep.kp (R : Rep T K H G L M) : ∃ dx, H L.kp = some (.ins T.keep dx (kf L.sl L.tl (runV L M.row) L.cm L.un)) := by
  obtain ⟨_, o, ho, dx, rfl⟩ := R.own .kp _ rfl
  exact ⟨dx, ho⟩
theorem Rep.sls (R : Rep T K H G L M) : H L.sl = some (.lst (stksV L M)) := by
  obtain ⟨_, o, ho, e⟩ := R.own .sl _ rfl
  cases e
  exact ho
theorem Rep.tls (R : Rep T K H G L M) : H L.tl = some (.lst (takenV M)) := by
  obtain ⟨_, o, ho, e⟩ := R.own .tl _ rfl
  cases e
  exact ho
theorem cont_st (h : ((M.S k).isSome || M.row.contains k) = true) : cont T L M (.st k) = some (.ins T.stack (sf k (L.fr k) (L.pc k) (M.row.contains k) (wtV L M.row k))) := if_pos h
theorem live_of (hx : M.S k = some x) : ((M.S k).isSome || M.row.contains k) = true := by rw [hx]; rfl
theorem Rep.stk (R : Rep T K H G L M) (h : ((M.S k).isSome || M.row.contains k) = true) : ∃ dx, H (L.st k) = some (.ins T.stack dx (sf k (L.fr k) (L.pc k) (M.row.contains k) (wtV L M.row k))) := by
  obtain ⟨_, o, ho, dx, rfl⟩ := R.own (.st k) _ (cont_st h)
  exact ⟨dx, ho⟩
theorem cont_fr (hx : M.S k = some x) : cont T L M (.fr k) = some (.lst (frsV L k x.frames.length)) := by
  show (M.S k).map _ = _
  rw [hx]
  rfl
theorem cont_pc (hx : M.S k = some x) : cont T L M (.pc k) = some (.lst (x.pieces.map fun (p : Nat) => V.int (p : Int))) := by
  show (M.S k).map _ = _
  rw [hx]
  rfl
theorem Rep.frs (R : Rep T K H G L M) (hx : M.S k = some x) : H (L.fr k) = some (.lst (frsV L k x.frames.length)) := by
  obtain ⟨_, o, ho, e⟩ := R.own (.fr k) _ (cont_fr hx)
  cases e
  exact ho
theorem Rep.pcs (R : Rep T K H G L M) (hx : M.S k = some x) : H (L.pc k) = some (.lst (x.pieces.map fun (p : Nat) => V.int (p : Int))) := by
  obtain ⟨_, o, ho, e⟩ := R.own (.pc k) _ (cont_pc hx)
  cases e
  exact ho
variable {i : Nat} {f : Md35.Frame}
theorem cont_fm (hf : frameAt M k i = some f) : cont T L M (.fm k i) = some (.ins T.frame (ff f.fn f.place (L.wd k i) (L.cg k i) (L.ac k i))) := by
  show (frameAt M k i).map _ = _
  rw [hf]
  rfl
theorem cont_wd (hf : frameAt M k i = some f) : cont T L M (.wd k i) = some (.lst (f.words.map V.int)) := by
  show (frameAt M k i).map _ = _
  rw [hf]
  rfl
theorem cont_ac (hf : frameAt M k i = some f) : cont T L M (.ac k i) = some (.lst ((L.aa k i).map V.ref)) := by
  show (frameAt M k i).map _ = _
  rw [hf]
  rfl
theorem Rep.frm (R : Rep T K H G L M) (hf : frameAt M k i = some f) : ∃ dx, H (L.fm k i) = some (.ins T.frame dx (ff f.fn f.place (L.wd k i) (L.cg k i) (L.ac k i))) := by
  obtain ⟨_, o, ho, dx, rfl⟩ := R.own (.fm k i) _ (cont_fm hf)
  exact ⟨dx, ho⟩
theorem Rep.wds (R : Rep T K H G L M) (hf : frameAt M k i = some f) : H (L.wd k i) = some (.lst (f.words.map V.int)) := by
  obtain ⟨_, o, ho, e⟩ := R.own (.wd k i) _ (cont_wd hf)
  cases e
  exact ho
theorem Rep.acs (R : Rep T K H G L M) (hf : frameAt M k i = some f) : H (L.ac k i) = some (.lst ((L.aa k i).map V.ref)) := by
  obtain ⟨_, o, ho, e⟩ := R.own (.ac k i) _ (cont_ac hf)
  cases e
  exact ho
theorem frsV_succ (L : Lay) (k n : Nat) : frsV L k (n + 1) = frsV L k n ++ [.ref (L.fm k n)] := by
  unfold frsV
  rw [List.range_succ, List.map_append]
  rfl
theorem Rep.setcm {dx c : Addr} (R : Rep T K H G L M) : Rep T K (upd H L.kp (.ins T.keep dx (kf L.sl L.tl (runV L M.row) c L.un))) G { L with cm := c } M := by
  refine R.upd1 (r0 := .kp) (L' := { L with cm := c }) rfl (fun r c e => by cases r <;> rfl) (fun r c hr e => ?_) (fun c e => ?_) ⟨R.misc.act, R.misc.cau, R.misc.unc⟩
  · cases r <;> first | exact absurd rfl hr | exact e
  · cases e
    exact ⟨dx, rfl⟩
theorem Rep.setun {dx : Addr} {v : V} {t : Option Md35.Throw} (R : Rep T K H G L M) (h : ThO T H G v t) : Rep T K (upd H L.kp (.ins T.keep dx (kf L.sl L.tl (runV L M.row) L.cm v))) G { L with un := v } { M with unc := t } := by
  refine R.upd1 (r0 := .kp) (L' := { L with un := v }) (M' := { M with unc := t }) rfl (fun r c e => by cases r <;> rfl) (fun r c hr e => ?_) (fun c e => ?_) ⟨R.misc.act, R.misc.cau, h⟩
  · cases r <;> first | exact absurd rfl hr | exact e
  · cases e
    exact ⟨dx, rfl⟩
/-- stacks that differ by what has come alone -/
theorem Rep.came (R : Rep T K H G L M) (hx : M.S k = some x) (hf : y.frames = x.frames) (hp : y.pieces = x.pieces) : Rep T K H G L (M.up k (some y)) := by
  have fr_at : ∀ j i, frameAt (M.up k (some y)) j i = frameAt M j i := fun j i => by
    by_cases hj : j = k
    · subst hj
      rw [frameAt_same, frameAt_of hx]
      show y.frames.reverse[i]? = _
      rw [hf]
    · exact frameAt_ne hj i
  refine R.less (fun r c e => rfl) (fun r c e => ?_) ⟨fun j i g e => R.misc.act j i g (by rw [fr_at] at e; exact e), fun j i g e => R.misc.cau j i g (by rw [fr_at] at e; exact e), R.misc.unc⟩
  rw [← e]
  cases r with
  | sl =>
    show some (Ct.lst (stksV L M)) = some (Ct.lst (stksV L (M.up k (some y))))
    rw [stksV_up hx]
  | tl =>
    show some (Ct.lst (takenV M)) = some (Ct.lst (takenV (M.up k (some y))))
    rw [takenV_up hx hp]
  | st j =>
    show (if ((M.S j).isSome || M.row.contains j) = true then some (Ct.ins T.stack _) else none) = (if (((M.up k (some y)).S j).isSome || M.row.contains j) = true then some (Ct.ins T.stack _) else none)
    rw [isSome_up hx]
  | fr j =>
    show (M.S j).map _ = (upS M.S k (some y) j).map _
    by_cases hj : j = k
    · subst hj
      rw [upS_same, hx]
      show some (Ct.lst (frsV L j x.frames.length)) = some (Ct.lst (frsV L j y.frames.length))
      rw [hf]
    · rw [upS_ne hj]
  | pc j =>
    show (M.S j).map _ = (upS M.S k (some y) j).map _
    by_cases hj : j = k
    · subst hj
      rw [upS_same, hx]
      show some (Ct.lst (x.pieces.map fun (p : Nat) => V.int (p : Int))) = some (Ct.lst (y.pieces.map fun (p : Nat) => V.int (p : Int)))
      rw [hp]
    · rw [upS_ne hj]
  | fm j i =>
    show (frameAt M j i).map _ = (frameAt (M.up k (some y)) j i).map _
    rw [fr_at]
  | wd j i =>
    show (frameAt M j i).map _ = (frameAt (M.up k (some y)) j i).map _
    rw [fr_at]
  | ac j i =>
    show (frameAt M j i).map _ = (frameAt (M.up k (some y)) j i).map _
    rw [fr_at]
  | _ => rfl
theorem nxt_cons_ne {r j : Nat} {rest : List Nat} (h : j ≠ r) : nxt (r :: rest) j = nxt rest j := by
  cases rest with
  | nil => rfl
  | cons b t =>
    show (if r = j then some b else nxt (b :: t) j) = _
    rw [if_neg fun e => h e.symm]
theorem nxt_cons_same {r : Nat} {rest : List Nat} : nxt (r :: rest) r = rest.head? := by
  cases rest with
  | nil => rfl
  | cons b t =>
    show (if r = r then some b else nxt (b :: t) r) = _
    rw [if_pos rfl]
    rfl
theorem nxt_none {j : Nat} : ∀ {row : List Nat}, j ∉ row → nxt row j = none
  | [], _ => rfl
  | [a], _ => rfl
  | a :: b :: t, h => by
    show (if a = j then some b else nxt (b :: t) j) = none
    rw [if_neg fun e => h (by rw [e]; simp)]
    exact nxt_none fun m => h (List.mem_cons_of_mem _ m)
theorem nxt_mem {j i : Nat} : ∀ {row : List Nat}, nxt row j = some i → i ∈ row
  | a :: b :: t, h => by
    have h' : (if a = j then some b else nxt (b :: t) j) = some i := h
    split at h'
    · cases h'
      simp
    · exact List.mem_cons_of_mem _ (nxt_mem h')
theorem wtV_ne {r j : Nat} {rest : List Nat} (h : j ≠ r) : wtV L (r :: rest) j = wtV L rest j := by
  unfold wtV
  rw [nxt_cons_ne h]
theorem wtV_same {r : Nat} {rest : List Nat} : wtV L (r :: rest) r = runV L rest := by
  unfold wtV
  rw [nxt_cons_same]
  cases rest <;> rfl
theorem wtV_none {j : Nat} {row : List Nat} (h : j ∉ row) : wtV L row j = .non := by
  unfold wtV
  rw [nxt_none h]
theorem cont_ne {r j : Nat} {rest : List Nat} (h : j ≠ r) : (r :: rest).contains j = rest.contains j := by
  rw [List.contains_cons]
  have : (j == r) = false := by simp [h]
  rw [this, Bool.false_or]
theorem cont_same {r : Nat} {rest : List Nat} : (r :: rest).contains r = true := by simp
theorem not_cont {j : Nat} {row : List Nat} (h : j ∉ row) : row.contains j = false := by simpa using h
theorem Rep.puton {d1 d2 : Addr} (R : Rep T K H G L M) (hx : M.S k = some x) : Rep T K (upd (upd H (L.st k) (.ins T.stack d1 (sf k (L.fr k) (L.pc k) true (runV L M.row)))) L.kp (.ins T.keep d2 (kf L.sl L.tl (.ref (L.st k)) L.cm L.un))) G L { M with row := k :: M.row } := by
  refine R.upd2 (r1 := .st k) (r2 := .kp) (cont_st (live_of hx)) rfl (by simp) (fun _ _ _ => rfl) (fun r c h1 h2 e => ?_) (fun c e => ?_) (fun c e => ?_) ⟨R.misc.act, R.misc.cau, R.misc.unc⟩
  · rw [← e]
    cases r with
    | kp => exact absurd rfl h2
    | st j =>
      have hj : j ≠ k := fun q => h1 (by rw [q])
      show (if ((M.S j).isSome || M.row.contains j) = true then some (Ct.ins T.stack (sf j (L.fr j) (L.pc j) (M.row.contains j) (wtV L M.row j))) else none) =
        (if ((M.S j).isSome || (k :: M.row).contains j) = true then some (Ct.ins T.stack (sf j (L.fr j) (L.pc j) ((k :: M.row).contains j) (wtV L (k :: M.row) j))) else none)
      rw [cont_ne hj, wtV_ne hj]
    | _ => rfl
  · have e' : cont T L { M with row := k :: M.row } (.st k) = some (.ins T.stack (sf k (L.fr k) (L.pc k) ((k :: M.row).contains k) (wtV L (k :: M.row) k))) := cont_st (by show ((M.S k).isSome || _) = true; rw [hx]; rfl)
    rw [e'] at e
    cases e
    rw [cont_same, wtV_same]
    exact ⟨d1, rfl⟩
  · cases e
    exact ⟨d2, rfl⟩
theorem Rep.takeoff {d1 d2 : Addr} {r0 : Nat} {rest : List Nat} (R : Rep T K H G L M) (hr : M.row = r0 :: rest) (hn : r0 ∉ rest) : Rep T K (upd (upd H L.kp (.ins T.keep d2 (kf L.sl L.tl (runV L rest) L.cm L.un))) (L.st r0) (.ins T.stack d1 (sf r0 (L.fr r0) (L.pc r0) false .non))) G L { M with row := rest } := by
  have hl : ((M.S r0).isSome || M.row.contains r0) = true := by rw [hr, cont_same, Bool.or_true]
  refine R.upd2 (r1 := .kp) (r2 := .st r0) rfl (cont_st hl) (by simp) (fun _ _ _ => rfl) (fun r c h1 h2 e => ?_) (fun c e => ?_) (fun c e => ?_) ⟨R.misc.act, R.misc.cau, R.misc.unc⟩
  · rw [← e]
    cases r with
    | kp => exact absurd rfl h1
    | st j =>
      have hj : j ≠ r0 := fun q => h2 (by rw [q])
      show (if ((M.S j).isSome || M.row.contains j) = true then some (Ct.ins T.stack (sf j (L.fr j) (L.pc j) (M.row.contains j) (wtV L M.row j))) else none) =
        (if ((M.S j).isSome || rest.contains j) = true then some (Ct.ins T.stack (sf j (L.fr j) (L.pc j) (rest.contains j) (wtV L rest j))) else none)
      rw [hr, cont_ne hj, wtV_ne hj]
    | _ => rfl
  · cases e
    exact ⟨d2, rfl⟩
  · have e' : (if ((M.S r0).isSome || rest.contains r0) = true then some (Ct.ins T.stack (sf r0 (L.fr r0) (L.pc r0) (rest.contains r0) (wtV L rest r0))) else none) = some c := e
    split at e'
    · cases e'
      rw [not_cont hn, wtV_none hn]
      exact ⟨d1, rfl⟩
    · cases e'
end
end Th
namespace Th
open PySem PySem.Spec PyProof.Rows L2
structure MW (M : MS) : Prop where
  small : ∀ k x, M.S k = some x → k < 64
  num : ∀ k x, M.S k = some x → x.number = k
  rnd : M.row.Nodup
  sw : ∀ k x, M.S k = some x → SW x
  pdj : ∀ j k x y, M.S j = some x → M.S k = some y → j ≠ k → ∀ p ∈ x.pieces, p ∉ y.pieces
theorem WF.mw {s : Md35.State} (h : WF s) : MW (ms s) := ⟨h.small, fun _ _ e => stack_number e, h.rnd, h.sw, h.pdj⟩
theorem set_map {α : Type} (f : Nat → α) (n p : Nat) (v : α) : ((List.range n).map f).set p v = (List.range n).map fun q => if q = p then v else f q := by
  apply List.ext_getElem?
  intro i
  rw [List.getElem?_set, List.getElem?_map, List.getElem?_map]
  by_cases hi : i < n
  · rw [List.getElem?_range hi]
    by_cases hp : p = i
    · subst hp
      simp [hi]
    · have : ¬ i = p := fun e => hp e.symm
      simp [hp, this]
  · rw [List.getElem?_eq_none (by simpa using hi)]
    by_cases hp : p = i
    · subst hp
      simp [hi]
    · simp [hp]
section
variable {T : Cl} {K : PySem.W.Frag} {H H' : Hp} {G G' : Gh} {L L' : Lay} {M M' : MS} {k : Nat} {x y : Md35.Stack}
theorem tk_iff {p : Nat} : tk M p = true ↔ ∃ k x, k < 64 ∧ M.S k = some x ∧ p ∈ x.pieces := by
  unfold tk
  rw [List.any_eq_true]
  constructor
  · rintro ⟨j, hj, h⟩
    cases e : M.S j with
    | none => rw [e] at h; cases h
    | some x =>
      rw [e] at h
      have h' : x.pieces.contains p = true := h
      exact ⟨j, x, by simpa using hj, e, by simpa using h'⟩
  · rintro ⟨j, x, hj, e, h⟩
    refine ⟨j, by simpa using hj, ?_⟩
    rw [e]
    show x.pieces.contains p = true
    simpa using h
theorem tk_false {p : Nat} (h : ∀ j x, M.S j = some x → p ∉ x.pieces) : tk M p = false := by
  cases e : tk M p with
  | false => rfl
  | true =>
    obtain ⟨j, x, _, hs, hp⟩ := tk_iff.mp e
    exact absurd hp (h j x hs)
theorem tk_congr {p : Nat} (h : (∃ k x, k < 64 ∧ M'.S k = some x ∧ p ∈ x.pieces) ↔ ∃ k x, k < 64 ∧ M.S k = some x ∧ p ∈ x.pieces) : tk M' p = tk M p := by
  cases e : tk M p with
  | true => exact tk_iff.mpr (h.mpr (tk_iff.mp e))
  | false =>
    cases e' : tk M' p with
    | false => rfl
    | true => rw [tk_iff.mpr (h.mp (tk_iff.mp e'))] at e; cases e
theorem takenV_take {p : Nat} (hk : k < 64) (hx : M.S k = some x) (hy : y.pieces = x.pieces ++ [p]) : takenV (M.up k (some y)) = (takenV M).set p (.bl true) := by
  unfold takenV
  rw [set_map]
  refine List.map_congr_left fun q _ => ?_
  by_cases hq : q = p
  · subst hq
    rw [if_pos rfl, tk_iff.mpr ⟨k, y, hk, upS_same, by rw [hy]; simp⟩]
  · rw [if_neg hq]
    congr 1
    refine tk_congr ⟨fun ⟨j, z, h1, h2, h3⟩ => ?_, fun ⟨j, z, h1, h2, h3⟩ => ?_⟩
    · by_cases hj : j = k
      · subst hj
        have h2' : upS M.S j (some y) j = some z := h2
        rw [upS_same] at h2'
        cases h2'
        rw [hy] at h3
        exact ⟨j, x, h1, hx, by simpa [hq] using h3⟩
      · have h2' : upS M.S k (some y) j = some z := h2
        rw [upS_ne hj] at h2'
        exact ⟨j, z, h1, h2', h3⟩
    · by_cases hj : j = k
      · subst hj
        rw [hx] at h2
        cases h2
        exact ⟨j, y, h1, upS_same, by rw [hy]; simp [h3]⟩
      · exact ⟨j, z, h1, by show upS M.S k (some y) j = some z; rw [upS_ne hj]; exact h2, h3⟩
theorem takenV_drop {p : Nat} (W : MW M) (hx : M.S k = some x) (hy : x.pieces = y.pieces ++ [p]) : takenV (M.up k (some y)) = (takenV M).set p (.bl false) := by
  unfold takenV
  rw [set_map]
  refine List.map_congr_left fun q _ => ?_
  have hk := W.small k x hx
  have nd := (W.sw k x hx).pnd
  rw [hy] at nd
  have hny : p ∉ y.pieces := fun m => by
    have := (List.nodup_append.mp nd).2.2 p m p (by simp)
    exact this rfl
  by_cases hq : q = p
  · subst hq
    rw [if_pos rfl]
    congr 1
    refine tk_false fun j z h2 => ?_
    by_cases hj : j = k
    · subst hj
      have h2' : upS M.S j (some y) j = some z := h2
      rw [upS_same] at h2'
      cases h2'
      exact hny
    · have h2' : upS M.S k (some y) j = some z := h2
      rw [upS_ne hj] at h2'
      exact W.pdj k j x z hx h2' (fun e => hj e.symm) q (by rw [hy]; simp)
  · rw [if_neg hq]
    congr 1
    refine tk_congr ⟨fun ⟨j, z, h1, h2, h3⟩ => ?_, fun ⟨j, z, h1, h2, h3⟩ => ?_⟩
    · by_cases hj : j = k
      · subst hj
        have h2' : upS M.S j (some y) j = some z := h2
        rw [upS_same] at h2'
        cases h2'
        exact ⟨j, x, h1, hx, by rw [hy]; simp [h3]⟩
      · have h2' : upS M.S k (some y) j = some z := h2
        rw [upS_ne hj] at h2'
        exact ⟨j, z, h1, h2', h3⟩
    · by_cases hj : j = k
      · subst hj
        rw [hx] at h2
        cases h2
        refine ⟨j, y, h1, upS_same, ?_⟩
        rw [hy] at h3
        simpa [hq] using h3
      · exact ⟨j, z, h1, by show upS M.S k (some y) j = some z; rw [upS_ne hj]; exact h2, h3⟩
theorem tk_none {q : Nat} (W : MW M) (hx : M.S k = some x) : tk (M.up k none) q = (tk M q && !(x.pieces.contains q)) := by
  have hk := W.small k x hx
  by_cases hq : q ∈ x.pieces
  · have : x.pieces.contains q = true := by simpa using hq
    rw [this, Bool.not_true, Bool.and_false]
    refine tk_false fun j z h2 => ?_
    have h2' : upS M.S k none j = some z := h2
    by_cases hj : j = k
    · subst hj
      rw [upS_same] at h2'
      cases h2'
    · rw [upS_ne hj] at h2'
      exact W.pdj k j x z hx h2' (fun e => hj e.symm) q hq
  · have : x.pieces.contains q = false := by simpa using hq
    rw [this, Bool.not_false, Bool.and_true]
    refine tk_congr ⟨fun ⟨j, z, h1, h2, h3⟩ => ?_, fun ⟨j, z, h1, h2, h3⟩ => ?_⟩
    · have h2' : upS M.S k none j = some z := h2
      by_cases hj : j = k
      · subst hj
        rw [upS_same] at h2'
        cases h2'
      · rw [upS_ne hj] at h2'
        exact ⟨j, z, h1, h2', h3⟩
    · by_cases hj : j = k
      · subst hj
        rw [hx] at h2
        cases h2
        exact absurd h3 hq
      · exact ⟨j, z, h1, by show upS M.S k none j = some z; rw [upS_ne hj]; exact h2, h3⟩
theorem Rep.popframe {f : Md35.Frame} {fs : List Md35.Frame} (R : Rep T K H G L M) (hx : M.S k = some x) (hf : x.frames = f :: fs) (hy : y.frames = fs) (hp : y.pieces = x.pieces) :
    Rep T K (upd H (L.fr k) (.lst (frsV L k fs.length))) G L (M.up k (some y)) := by
  have fr_at : ∀ j i g, frameAt (M.up k (some y)) j i = some g → frameAt M j i = some g := fun j i g e => by
    by_cases hj : j = k
    · subst hj
      rw [frameAt_same] at e
      have e' : y.frames.reverse[i]? = some g := e
      rw [hy] at e'
      obtain ⟨hi, _⟩ := List.getElem?_eq_some_iff.mp e'
      rw [frameAt_of hx, hf, rev_top, if_neg (by simp at hi; omega)]
      exact e'
    · rw [frameAt_ne hj] at e
      exact e
  refine R.upd1 (r0 := .fr k) (cont_fr hx) (fun _ _ _ => rfl) (fun r c h1 e => ?_) (fun c e => ?_) ⟨fun j i g e => R.misc.act j i g (fr_at j i g e), fun j i g e => R.misc.cau j i g (fr_at j i g e), R.misc.unc⟩
  · cases r with
    | sl =>
      rw [← e]
      show some (Ct.lst (stksV L M)) = some (Ct.lst (stksV L (M.up k (some y))))
      rw [stksV_up hx]
    | tl =>
      rw [← e]
      show some (Ct.lst (takenV M)) = some (Ct.lst (takenV (M.up k (some y))))
      rw [takenV_up hx hp]
    | st j =>
      rw [← e]
      show (if ((M.S j).isSome || M.row.contains j) = true then some (Ct.ins T.stack _) else none) = (if (((M.up k (some y)).S j).isSome || M.row.contains j) = true then some (Ct.ins T.stack _) else none)
      rw [isSome_up hx]
    | fr j =>
      have hj : j ≠ k := fun q => h1 (by rw [q])
      rw [← e]
      show (M.S j).map _ = (upS M.S k (some y) j).map _
      rw [upS_ne hj]
    | pc j =>
      rw [← e]
      show (M.S j).map _ = (upS M.S k (some y) j).map _
      by_cases hj : j = k
      · subst hj
        rw [upS_same, hx]
        show some (Ct.lst (x.pieces.map fun (p : Nat) => V.int (p : Int))) = some (Ct.lst (y.pieces.map fun (p : Nat) => V.int (p : Int)))
        rw [hp]
      · rw [upS_ne hj]
    | fm j i =>
      obtain ⟨g, hg, rfl⟩ := Option.map_eq_some_iff.mp (show (frameAt (M.up k (some y)) j i).map _ = some c from e)
      exact cont_fm (fr_at j i g hg)
    | wd j i =>
      obtain ⟨g, hg, rfl⟩ := Option.map_eq_some_iff.mp (show (frameAt (M.up k (some y)) j i).map _ = some c from e)
      exact cont_wd (fr_at j i g hg)
    | ac j i =>
      obtain ⟨g, hg, rfl⟩ := Option.map_eq_some_iff.mp (show (frameAt (M.up k (some y)) j i).map _ = some c from e)
      exact cont_ac (fr_at j i g hg)
    | _ => exact e
  · rw [cont_fr (show (M.up k (some y)).S k = some y from upS_same)] at e
    cases e
    show HO.lst _ = HO.lst _
    rw [hy]
/-- other pieces, the same frames -/
theorem cont_pieces (hx : M.S k = some x) (hf : y.frames = x.frames) {r : Ro} (h1 : r ≠ .tl) (h2 : r ≠ .pc k) : cont T L (M.up k (some y)) r = cont T L M r := by
  have fr_at : ∀ j i, frameAt (M.up k (some y)) j i = frameAt M j i := fun j i => by
    by_cases hj : j = k
    · subst hj
      rw [frameAt_same, frameAt_of hx]
      show y.frames.reverse[i]? = _
      rw [hf]
    · exact frameAt_ne hj i
  cases r with
  | tl => exact absurd rfl h1
  | sl =>
    show some (Ct.lst (stksV L (M.up k (some y)))) = some (Ct.lst (stksV L M))
    rw [stksV_up hx]
  | st j =>
    show (if (((M.up k (some y)).S j).isSome || M.row.contains j) = true then some (Ct.ins T.stack _) else none) = (if ((M.S j).isSome || M.row.contains j) = true then some (Ct.ins T.stack _) else none)
    rw [isSome_up hx]
  | fr j =>
    show (upS M.S k (some y) j).map _ = (M.S j).map _
    by_cases hj : j = k
    · subst hj
      rw [upS_same, hx]
      show some (Ct.lst (frsV L j y.frames.length)) = some (Ct.lst (frsV L j x.frames.length))
      rw [hf]
    · rw [upS_ne hj]
  | pc j =>
    have hj : j ≠ k := fun q => h2 (by rw [q])
    show (upS M.S k (some y) j).map _ = (M.S j).map _
    rw [upS_ne hj]
  | fm j i =>
    show (frameAt (M.up k (some y)) j i).map _ = (frameAt M j i).map _
    rw [fr_at]
  | wd j i =>
    show (frameAt (M.up k (some y)) j i).map _ = (frameAt M j i).map _
    rw [fr_at]
  | ac j i =>
    show (frameAt (M.up k (some y)) j i).map _ = (frameAt M j i).map _
    rw [fr_at]
  | _ => rfl
theorem misc_pieces (m : Misc T K H G L M) (hx : M.S k = some x) (hf : y.frames = x.frames) : Misc T K H G L (M.up k (some y)) := by
  have fr_at : ∀ j i, frameAt (M.up k (some y)) j i = frameAt M j i := fun j i => by
    by_cases hj : j = k
    · subst hj
      rw [frameAt_same, frameAt_of hx]
      show y.frames.reverse[i]? = _
      rw [hf]
    · exact frameAt_ne hj i
  exact ⟨fun j i g e => m.act j i g (by rw [fr_at] at e; exact e), fun j i g e => m.cau j i g (by rw [fr_at] at e; exact e), m.unc⟩
theorem Rep.takepiece {p : Nat} (R : Rep T K H G L M) (hk : k < 64) (hx : M.S k = some x) (hf : y.frames = x.frames) (hy : y.pieces = x.pieces ++ [p]) :
    Rep T K (upd (upd H L.tl (.lst ((takenV M).set p (.bl true)))) (L.pc k) (.lst (x.pieces.map (fun (p : Nat) => V.int (p : Int)) ++ [.int (p : Int)]))) G L (M.up k (some y)) := by
  refine R.upd2 (r1 := .tl) (r2 := .pc k) rfl (cont_pc hx) (by simp) (fun _ _ _ => rfl) (fun r c h1 h2 e => ?_) (fun c e => ?_) (fun c e => ?_) (misc_pieces R.misc hx hf)
  · rw [cont_pieces hx hf h1 h2] at e
    exact e
  · cases e
    show HO.lst _ = HO.lst _
    rw [takenV_take hk hx hy]
  · rw [cont_pc (show (M.up k (some y)).S k = some y from upS_same)] at e
    cases e
    show HO.lst _ = HO.lst _
    rw [hy, List.map_append]
    rfl
theorem Rep.droppiece {p : Nat} (R : Rep T K H G L M) (W : MW M) (hx : M.S k = some x) (hf : y.frames = x.frames) (hy : x.pieces = y.pieces ++ [p]) :
    Rep T K (upd (upd H (L.pc k) (.lst (y.pieces.map fun (p : Nat) => V.int (p : Int)))) L.tl (.lst ((takenV M).set p (.bl false)))) G L (M.up k (some y)) := by
  refine R.upd2 (r1 := .pc k) (r2 := .tl) (cont_pc hx) rfl (by simp) (fun _ _ _ => rfl) (fun r c h1 h2 e => ?_) (fun c e => ?_) (fun c e => ?_) (misc_pieces R.misc hx hf)
  · rw [cont_pieces hx hf h2 h1] at e
    exact e
  · rw [cont_pc (show (M.up k (some y)).S k = some y from upS_same)] at e
    cases e
    rfl
  · cases e
    show HO.lst _ = HO.lst _
    rw [takenV_drop W hx hy]
theorem stksV_none (hk : k < 64) : stksV L (M.up k none) = (stksV L M).set k .non := by
  unfold stksV
  rw [set_map]
  refine List.map_congr_left fun j _ => ?_
  by_cases hj : j = k
  · subst hj
    rw [if_pos rfl]
    show (if (upS M.S j none j).isSome = true then _ else _) = _
    rw [upS_same]
    rfl
  · rw [if_neg hj]
    show (if (upS M.S k none j).isSome = true then _ else _) = _
    rw [upS_ne hj]
theorem Rep.dropstack (R : Rep T K H G L M) (W : MW M) (hx : M.S k = some x) :
    Rep T K (upd (upd H L.tl (.lst ((List.range 256).map fun q => V.bl (tk M q && !(x.pieces.contains q))))) L.sl (.lst ((stksV L M).set k .non))) G L (M.up k none) := by
  have fr_at : ∀ j i g, frameAt (M.up k none) j i = some g → frameAt M j i = some g := fun j i g e => by
    by_cases hj : j = k
    · subst hj
      rw [frameAt_same] at e
      cases e
    · rw [frameAt_ne hj] at e
      exact e
  refine R.upd2 (r1 := .tl) (r2 := .sl) rfl rfl (by simp) (fun _ _ _ => rfl) (fun r c h1 h2 e => ?_) (fun c e => ?_) (fun c e => ?_) ⟨fun j i g e => R.misc.act j i g (fr_at j i g e), fun j i g e => R.misc.cau j i g (fr_at j i g e), R.misc.unc⟩
  · cases r with
    | tl => exact absurd rfl h1
    | sl => exact absurd rfl h2
    | st j =>
      have e' : (if ((upS M.S k none j).isSome || M.row.contains j) = true then some (Ct.ins T.stack (sf j (L.fr j) (L.pc j) (M.row.contains j) (wtV L M.row j))) else none) = some c := e
      split at e'
      · rename_i hc
        rw [← e']
        refine cont_st ?_
        rw [Bool.or_eq_true] at hc ⊢
        rcases hc with hc | hc
        · refine .inl ?_
          by_cases hj : j = k
          · subst hj
            rw [upS_same] at hc
            cases hc
          · rw [upS_ne hj] at hc
            exact hc
        · exact .inr hc
      · cases e'
    | fr j =>
      have e' : (upS M.S k none j).map (fun x => Ct.lst (frsV L j x.frames.length)) = some c := e
      by_cases hj : j = k
      · subst hj
        rw [upS_same] at e'
        cases e'
      · rw [upS_ne hj] at e'
        exact e'
    | pc j =>
      have e' : (upS M.S k none j).map (fun x => Ct.lst (x.pieces.map fun (p : Nat) => V.int (p : Int))) = some c := e
      by_cases hj : j = k
      · subst hj
        rw [upS_same] at e'
        cases e'
      · rw [upS_ne hj] at e'
        exact e'
    | fm j i =>
      obtain ⟨g, hg, rfl⟩ := Option.map_eq_some_iff.mp (show (frameAt (M.up k none) j i).map _ = some c from e)
      exact cont_fm (fr_at j i g hg)
    | wd j i =>
      obtain ⟨g, hg, rfl⟩ := Option.map_eq_some_iff.mp (show (frameAt (M.up k none) j i).map _ = some c from e)
      exact cont_wd (fr_at j i g hg)
    | ac j i =>
      obtain ⟨g, hg, rfl⟩ := Option.map_eq_some_iff.mp (show (frameAt (M.up k none) j i).map _ = some c from e)
      exact cont_ac (fr_at j i g hg)
    | _ => exact e
  · cases e
    show HO.lst _ = HO.lst _
    unfold takenV
    congr 1
    exact List.map_congr_left fun q _ => by rw [tk_none W hx]
  · cases e
    show HO.lst _ = HO.lst _
    rw [stksV_none (W.small k x hx)]
end
end Th
namespace Th
open PySem PySem.Spec PyProof.Rows L2
def set1 {α : Type} (f : Nat → α) (k : Nat) (v : α) : Nat → α := fun j => if j = k then v else f j
def set2 {α : Type} (f : Nat → Nat → α) (k n : Nat) (v : α) : Nat → Nat → α := fun j i => if j = k ∧ i = n then v else f j i
theorem set1_same {α : Type} {f : Nat → α} {k : Nat} {v : α} : set1 f k v k = v := if_pos rfl
theorem set1_ne {α : Type} {f : Nat → α} {k j : Nat} {v : α} (h : j ≠ k) : set1 f k v j = f j := if_neg h
theorem set2_same {α : Type} {f : Nat → Nat → α} {k n : Nat} {v : α} : set2 f k n v k n = v := if_pos ⟨rfl, rfl⟩
theorem set2_ne {α : Type} {f : Nat → Nat → α} {k n j i : Nat} {v : α} (h : ¬ (j = k ∧ i = n)) : set2 f k n v j i = f j i := if_neg h
section
variable {T : Cl} {K : PySem.W.Frag} {H H' : Hp} {G G' : Gh} {L L' : Lay} {M M' : MS} {k : Nat} {x y : Md35.Stack}
/-- the layout with a new frame -/
def Lay.push (L : Lay) (k n : Nat) (p wd ac : Addr) : Lay := { L with fm := set2 L.fm k n p, wd := set2 L.wd k n wd, ac := set2 L.ac k n ac, cg := set2 L.cg k n .non, aa := set2 L.aa k n [] }
theorem Rep.push {p wd ac dx : Addr} {fn : Nat} (R : Rep T K H G L M) (hx : M.S k = some x) (hy : y.frames = { fn := fn } :: x.frames) (hp : y.pieces = x.pieces) (np : H p = none) (nw : H wd = none) (na : H ac = none)
    (pw : p ≠ wd) (pa : p ≠ ac) (wa : wd ≠ ac) (h1 : H' p = some (.ins T.frame dx (ff fn 0 wd .non ac))) (h2 : H' wd = some (.lst [.int 0, .int 0, .int 0, .int 0])) (h3 : H' ac = some (.lst []))
    (h4 : H' (L.fr k) = some (.lst (frsV L k x.frames.length ++ [.ref p]))) (h5 : ∀ b o, H b = some o → b ≠ L.fr k → H' b = some o) :
    Rep T K H' (gad (gad (gad G p (.fm k x.frames.length)) wd (.wd k x.frames.length)) ac (.ac k x.frames.length)) (L.push k x.frames.length p wd ac) (M.up k (some y)) := by
  have fr_at : ∀ j i g, frameAt (M.up k (some y)) j i = some g → (j = k ∧ i = x.frames.length ∧ g = { fn := fn }) ∨ (¬ (j = k ∧ i = x.frames.length) ∧ frameAt M j i = some g) := fun j i g e => by
    by_cases hj : j = k
    · subst hj
      rw [frameAt_same] at e
      have e' : y.frames.reverse[i]? = some g := e
      rw [hy, rev_top] at e'
      by_cases hi : i = x.frames.length
      · rw [if_pos hi] at e'
        exact .inl ⟨rfl, hi, (Option.some.inj e').symm⟩
      · rw [if_neg hi] at e'
        exact .inr ⟨fun z => hi z.2, by rw [frameAt_of hx]; exact e'⟩
    · rw [frameAt_ne hj] at e
      exact .inr ⟨fun z => hj z.1, e⟩
  have fresh : ∀ {b o}, H b = some o → b ≠ p ∧ b ≠ wd ∧ b ≠ ac := fun e => ⟨ne_of_none e np, ne_of_none e nw, ne_of_none e na⟩
  have gk : ∀ {b o}, H b = some o → gad (gad (gad G p (.fm k x.frames.length)) wd (.wd k x.frames.length)) ac (.ac k x.frames.length) b = G b := fun e => by
    obtain ⟨a1, a2, a3⟩ := fresh e
    rw [gad_ne a3, gad_ne a2, gad_ne a1]
  have hfr0 := R.frs hx
  have gfr : G (L.fr k) = some (.fr k) := (R.own (.fr k) _ (cont_fr hx)).1
  have st : Stay G H (gad (gad (gad G p (.fm k x.frames.length)) wd (.wd k x.frames.length)) ac (.ac k x.frames.length)) H' := fun b o e n => by
    refine ⟨h5 b o e fun z => ?_, gk e⟩
    subst z
    rcases n with n | n <;> rw [gfr] at n <;> cases n
  have old : ∀ r c, cont T L M r = some c → r ≠ .fr k → (L.push k x.frames.length p wd ac).adr r = L.adr r → (cont T L M r = some c ∧ (L.push k x.frames.length p wd ac).adr r = L.adr r ∧ H' (L.adr r) = H (L.adr r) ∧
      gad (gad (gad G p (.fm k x.frames.length)) wd (.wd k x.frames.length)) ac (.ac k x.frames.length) (L.adr r) = G (L.adr r)) := fun r c e hr ha => by
    obtain ⟨g, o, ho, _⟩ := R.own r c e
    exact ⟨e, ha, by rw [h5 _ _ ho (R.ne e (cont_fr hx) hr), ho], gk ho⟩
  refine R.make (fun r c e => ?_) (fun b r e => ?_) ⟨fun j i g e => ?_, fun j i g e => ?_, R.misc.unc.stay st⟩
  · cases r with
    | kp => exact .inl (old .kp c e (by simp) rfl)
    | sl =>
      have e' : some (Ct.lst (stksV L (M.up k (some y)))) = some c := e
      rw [stksV_up hx] at e'
      exact .inl (old .sl c e' (by simp) rfl)
    | tl =>
      have e' : some (Ct.lst (takenV (M.up k (some y)))) = some c := e
      rw [takenV_up hx hp] at e'
      exact .inl (old .tl c e' (by simp) rfl)
    | st j =>
      have e' : (if (((M.up k (some y)).S j).isSome || M.row.contains j) = true then some (Ct.ins T.stack (sf j (L.fr j) (L.pc j) (M.row.contains j) (wtV L M.row j))) else none) = some c := e
      rw [isSome_up hx] at e'
      exact .inl (old (.st j) c e' (by simp) rfl)
    | fr j =>
      have e' : (upS M.S k (some y) j).map (fun x => Ct.lst (frsV (L.push k _ p wd ac) j x.frames.length)) = some c := e
      have fe : ∀ n, ¬ (j = k ∧ x.frames.length < n) → frsV (L.push k x.frames.length p wd ac) j n = frsV L j n := fun n hn => by
        unfold frsV
        refine List.map_congr_left fun i hi => ?_
        have hi' : i < n := by simpa using hi
        show V.ref (set2 L.fm k x.frames.length p j i) = _
        rw [set2_ne fun z => hn ⟨z.1, by omega⟩]
      by_cases hj : j = k
      · subst hj
        rw [upS_same] at e'
        have e2 : some (Ct.lst (frsV (L.push j x.frames.length p wd ac) j y.frames.length)) = some c := e'
        cases e2
        refine .inr ⟨(gk hfr0).trans gfr, _, h4, ?_⟩
        show HO.lst _ = HO.lst _
        rw [hy, List.length_cons, frsV_succ, fe _ fun z => Nat.lt_irrefl _ z.2]
        show HO.lst (frsV L j x.frames.length ++ [V.ref p]) = HO.lst (frsV L j x.frames.length ++ [V.ref (set2 L.fm j x.frames.length p j x.frames.length)])
        rw [set2_same]
      · rw [upS_ne hj] at e'
        refine .inl (old (.fr j) c ?_ (fun z => hj (by injection z)) rfl)
        rw [← e']
        show (M.S j).map _ = (M.S j).map _
        congr 1
        funext z
        rw [fe _ fun q => hj q.1]
    | pc j =>
      have e' : (upS M.S k (some y) j).map (fun x => Ct.lst (x.pieces.map fun (p : Nat) => V.int (p : Int))) = some c := e
      by_cases hj : j = k
      · subst hj
        rw [upS_same] at e'
        have e2 : some (Ct.lst (y.pieces.map fun (p : Nat) => V.int (p : Int))) = some c := e'
        rw [hp] at e2
        exact .inl (old (.pc j) c (by rw [cont_pc hx]; exact e2) (by simp) rfl)
      · rw [upS_ne hj] at e'
        exact .inl (old (.pc j) c e' (by simp) rfl)
    | fm j i =>
      obtain ⟨g, hg, rfl⟩ := Option.map_eq_some_iff.mp (show (frameAt (M.up k (some y)) j i).map _ = some c from e)
      rcases fr_at j i g hg with ⟨rfl, rfl, rfl⟩ | ⟨hn, hg'⟩
      · refine .inr ?_
        show gad _ _ _ (set2 L.fm j x.frames.length p j x.frames.length) = _ ∧ At H' (set2 L.fm j x.frames.length p j x.frames.length) (Ct.ins T.frame (ff fn 0 (set2 L.wd j x.frames.length wd j x.frames.length) (set2 L.cg j x.frames.length .non j x.frames.length) (set2 L.ac j x.frames.length ac j x.frames.length)))
        rw [set2_same, set2_same, set2_same, set2_same]
        exact ⟨by rw [gad_ne pa, gad_ne pw, gad_same], _, h1, dx, rfl⟩
      · refine .inl (old (.fm j i) _ ?_ (by simp) (set2_ne hn))
        rw [cont_fm hg']
        show some (Ct.ins T.frame _) = some (Ct.ins T.frame (ff g.fn g.place (set2 L.wd k x.frames.length wd j i) (set2 L.cg k x.frames.length .non j i) (set2 L.ac k x.frames.length ac j i)))
        rw [set2_ne hn, set2_ne hn, set2_ne hn]
    | wd j i =>
      obtain ⟨g, hg, rfl⟩ := Option.map_eq_some_iff.mp (show (frameAt (M.up k (some y)) j i).map _ = some c from e)
      rcases fr_at j i g hg with ⟨rfl, rfl, rfl⟩ | ⟨hn, hg'⟩
      · refine .inr ?_
        show gad _ _ _ (set2 L.wd j x.frames.length wd j x.frames.length) = _ ∧ At H' (set2 L.wd j x.frames.length wd j x.frames.length) _
        rw [set2_same]
        exact ⟨by rw [gad_ne wa, gad_same], _, h2, rfl⟩
      · exact .inl (old (.wd j i) _ (cont_wd hg') (by simp) (set2_ne hn))
    | ac j i =>
      obtain ⟨g, hg, rfl⟩ := Option.map_eq_some_iff.mp (show (frameAt (M.up k (some y)) j i).map _ = some c from e)
      rcases fr_at j i g hg with ⟨rfl, rfl, rfl⟩ | ⟨hn, hg'⟩
      · refine .inr ?_
        show gad _ _ _ (set2 L.ac j x.frames.length ac j x.frames.length) = _ ∧ At H' (set2 L.ac j x.frames.length ac j x.frames.length) (Ct.lst ((set2 L.aa j x.frames.length [] j x.frames.length).map V.ref))
        rw [set2_same, set2_same]
        exact ⟨gad_same, _, h3, rfl⟩
      · refine .inl (old (.ac j i) _ ?_ (by simp) (set2_ne hn))
        rw [cont_ac hg']
        show some (Ct.lst ((L.aa j i).map V.ref)) = some (Ct.lst ((set2 L.aa k x.frames.length [] j i).map V.ref))
        rw [set2_ne hn]
    | _ => cases e
  · by_cases hb1 : b = ac
    · subst hb1
      rw [h3]
      simp
    · rw [gad_ne hb1] at e
      by_cases hb2 : b = wd
      · subst hb2
        rw [h2]
        simp
      · rw [gad_ne hb2] at e
        by_cases hb3 : b = p
        · subst hb3
          rw [h1]
          simp
        · rw [gad_ne hb3] at e
          cases q : H b with
          | none => exact absurd q (R.dom b r e)
          | some o =>
            by_cases hb4 : b = L.fr k
            · rw [hb4, h4]
              simp
            · rw [h5 b o q hb4]
              simp
  · rcases fr_at j i g e with ⟨rfl, rfl, rfl⟩ | ⟨hn, hg'⟩
    · show Acts _ _ (set2 L.aa j x.frames.length [] j x.frames.length) _
      rw [set2_same]
      exact .nil
    · show Acts _ _ (set2 L.aa k x.frames.length [] j i) _
      rw [set2_ne hn]
      exact (R.misc.act j i g hg').stay st
  · rcases fr_at j i g e with ⟨rfl, rfl, rfl⟩ | ⟨hn, hg'⟩
    · show ThO _ _ _ (set2 L.cg j x.frames.length .non j x.frames.length) _
      rw [set2_same]
      rfl
    · show ThO _ _ _ (set2 L.cg k x.frames.length .non j i) _
      rw [set2_ne hn]
      exact (R.misc.cau j i g hg').stay st
def Lay.addst (L : Lay) (k : Nat) (p fr pc : Addr) : Lay := { L with st := set1 L.st k p, fr := set1 L.fr k fr, pc := set1 L.pc k pc }
theorem runV_addst {p fr pc : Addr} {row : List Nat} (h : k ∉ row) : runV (L.addst k p fr pc) row = runV L row := by
  cases row with
  | nil => rfl
  | cons r t =>
    show V.ref (set1 L.st k p r) = V.ref (L.st r)
    rw [set1_ne fun e => h (by rw [e]; simp)]
theorem wtV_addst {p fr pc : Addr} {row : List Nat} (h : k ∉ row) (j : Nat) : wtV (L.addst k p fr pc) row j = wtV L row j := by
  unfold wtV
  cases e : nxt row j with
  | none => rfl
  | some i =>
    show V.ref (set1 L.st k p i) = V.ref (L.st i)
    rw [set1_ne fun q => h (by rw [← q]; exact nxt_mem e)]
theorem Rep.addst {p fr pc dx : Addr} {cm : Md35.Came} (R : Rep T K H G L M) (hk : k < 64) (hx : M.S k = none) (hr : k ∉ M.row) (np : H p = none) (nf : H fr = none) (nc : H pc = none)
    (pf : p ≠ fr) (ppc : p ≠ pc) (fpc : fr ≠ pc) (h1 : H' p = some (.ins T.stack dx (sf k fr pc false .non))) (h2 : H' fr = some (.lst [])) (h3 : H' pc = some (.lst []))
    (h4 : H' L.sl = some (.lst ((stksV L M).set k (.ref p)))) (h5 : ∀ b o, H b = some o → b ≠ L.sl → H' b = some o) :
    Rep T K H' (gad (gad (gad G p (.st k)) fr (.fr k)) pc (.pc k)) (L.addst k p fr pc) (M.up k (some ⟨k, [], [], cm⟩)) := by
  have fresh : ∀ {b o}, H b = some o → b ≠ p ∧ b ≠ fr ∧ b ≠ pc := fun e => ⟨ne_of_none e np, ne_of_none e nf, ne_of_none e nc⟩
  have gk : ∀ {b o}, H b = some o → gad (gad (gad G p (.st k)) fr (.fr k)) pc (.pc k) b = G b := fun e => by
    obtain ⟨a1, a2, a3⟩ := fresh e
    rw [gad_ne a3, gad_ne a2, gad_ne a1]
  have hsl := R.sls
  have gsl := (R.own .sl _ rfl).1
  have st : Stay G H (gad (gad (gad G p (.st k)) fr (.fr k)) pc (.pc k)) H' := fun b o e n => by
    refine ⟨h5 b o e fun z => ?_, gk e⟩
    subst z
    rcases n with n | n <;> rw [show G L.sl = some .sl from gsl] at n <;> cases n
  have fr_at : ∀ j i g, frameAt (M.up k (some ⟨k, [], [], cm⟩)) j i = some g → j ≠ k ∧ frameAt M j i = some g := fun j i g e => by
    by_cases hj : j = k
    · subst hj
      rw [frameAt_same] at e
      have e' : ([] : List Md35.Frame).reverse[i]? = some g := e
      simp at e'
    · rw [frameAt_ne hj] at e
      exact ⟨hj, e⟩
  have old : ∀ r c, cont T L M r = some c → r ≠ .sl → (L.addst k p fr pc).adr r = L.adr r → (cont T L M r = some c ∧ (L.addst k p fr pc).adr r = L.adr r ∧ H' (L.adr r) = H (L.adr r) ∧
      gad (gad (gad G p (.st k)) fr (.fr k)) pc (.pc k) (L.adr r) = G (L.adr r)) := fun r c e hr ha => by
    obtain ⟨g, o, ho, _⟩ := R.own r c e
    exact ⟨e, ha, by rw [h5 _ _ ho (R.ne e (r' := .sl) rfl hr), ho], gk ho⟩
  refine R.make (fun r c e => ?_) (fun b r e => ?_) ⟨fun j i g e => (R.misc.act j i g (fr_at j i g e).2).stay st, fun j i g e => (R.misc.cau j i g (fr_at j i g e).2).stay st, R.misc.unc.stay st⟩
  · cases r with
    | kp =>
      have e' : some (Ct.ins T.keep (kf L.sl L.tl (runV (L.addst k p fr pc) M.row) L.cm L.un)) = some c := e
      rw [runV_addst hr] at e'
      exact .inl (old .kp c e' (by simp) rfl)
    | sl =>
      have e' : some (Ct.lst (stksV (L.addst k p fr pc) (M.up k (some ⟨k, [], [], cm⟩)))) = some c := e
      cases e'
      refine .inr ⟨(gk hsl).trans gsl, _, h4, ?_⟩
      show HO.lst _ = HO.lst _
      unfold stksV
      rw [set_map]
      congr 1
      refine List.map_congr_left fun j _ => ?_
      by_cases hj : j = k
      · subst hj
        rw [if_pos rfl]
        show _ = (if (upS M.S j _ j).isSome = true then V.ref (set1 L.st j p j) else .non)
        rw [upS_same, set1_same]
        rfl
      · rw [if_neg hj]
        show _ = (if (upS M.S k _ j).isSome = true then V.ref (set1 L.st k p j) else .non)
        rw [upS_ne hj, set1_ne hj]
    | tl =>
      have e' : some (Ct.lst (takenV (M.up k (some ⟨k, [], [], cm⟩)))) = some c := e
      have te : takenV (M.up k (some ⟨k, [], [], cm⟩)) = takenV M := by
        unfold takenV
        refine List.map_congr_left fun q _ => ?_
        congr 1
        refine tk_congr ⟨fun ⟨j, z, h1, h2, h3⟩ => ?_, fun ⟨j, z, h1, h2, h3⟩ => ?_⟩
        · have h2' : upS M.S k (some ⟨k, [], [], cm⟩) j = some z := h2
          by_cases hj : j = k
          · subst hj
            rw [upS_same] at h2'
            cases h2'
            simp at h3
          · rw [upS_ne hj] at h2'
            exact ⟨j, z, h1, h2', h3⟩
        · have hj : j ≠ k := fun e => by rw [e, hx] at h2; cases h2
          exact ⟨j, z, h1, by show upS M.S k _ j = some z; rw [upS_ne hj]; exact h2, h3⟩
      rw [te] at e'
      exact .inl (old .tl c e' (by simp) rfl)
    | st j =>
      have e' : (if ((upS M.S k (some ⟨k, [], [], cm⟩) j).isSome || M.row.contains j) = true then some (Ct.ins T.stack (sf j (set1 L.fr k fr j) (set1 L.pc k pc j) (M.row.contains j) (wtV (L.addst k p fr pc) M.row j))) else none) = some c := e
      rw [wtV_addst hr] at e'
      by_cases hj : j = k
      · subst hj
        rw [upS_same, set1_same, set1_same, not_cont hr, wtV_none hr] at e'
        cases e'
        refine .inr ?_
        show gad _ _ _ (set1 L.st j p j) = _ ∧ At H' (set1 L.st j p j) _
        rw [set1_same]
        exact ⟨by rw [gad_ne ppc, gad_ne pf, gad_same], _, h1, dx, rfl⟩
      · rw [upS_ne hj, set1_ne hj, set1_ne hj] at e'
        exact .inl (old (.st j) c e' (by simp) (set1_ne hj))
    | fr j =>
      have e' : (upS M.S k (some ⟨k, [], [], cm⟩) j).map (fun x => Ct.lst (frsV L j x.frames.length)) = some c := e
      by_cases hj : j = k
      · subst hj
        rw [upS_same] at e'
        cases e'
        refine .inr ?_
        show gad _ _ _ (set1 L.fr j fr j) = _ ∧ At H' (set1 L.fr j fr j) _
        rw [set1_same]
        exact ⟨by rw [gad_ne fpc, gad_same], _, h2, rfl⟩
      · rw [upS_ne hj] at e'
        exact .inl (old (.fr j) c e' (by simp) (set1_ne hj))
    | pc j =>
      have e' : (upS M.S k (some ⟨k, [], [], cm⟩) j).map (fun x => Ct.lst (x.pieces.map fun (p : Nat) => V.int (p : Int))) = some c := e
      by_cases hj : j = k
      · subst hj
        rw [upS_same] at e'
        cases e'
        refine .inr ?_
        show gad _ _ _ (set1 L.pc j pc j) = _ ∧ At H' (set1 L.pc j pc j) _
        rw [set1_same]
        exact ⟨gad_same, _, h3, rfl⟩
      · rw [upS_ne hj] at e'
        exact .inl (old (.pc j) c e' (by simp) (set1_ne hj))
    | fm j i =>
      obtain ⟨g, hg, rfl⟩ := Option.map_eq_some_iff.mp (show (frameAt (M.up k _) j i).map _ = some c from e)
      exact .inl (old (.fm j i) _ (cont_fm (fr_at j i g hg).2) (by simp) rfl)
    | wd j i =>
      obtain ⟨g, hg, rfl⟩ := Option.map_eq_some_iff.mp (show (frameAt (M.up k _) j i).map _ = some c from e)
      exact .inl (old (.wd j i) _ (cont_wd (fr_at j i g hg).2) (by simp) rfl)
    | ac j i =>
      obtain ⟨g, hg, rfl⟩ := Option.map_eq_some_iff.mp (show (frameAt (M.up k _) j i).map _ = some c from e)
      exact .inl (old (.ac j i) _ (cont_ac (fr_at j i g hg).2) (by simp) rfl)
    | _ => cases e
  · by_cases hb1 : b = pc
    · subst hb1
      rw [h3]
      simp
    · rw [gad_ne hb1] at e
      by_cases hb2 : b = fr
      · subst hb2
        rw [h2]
        simp
      · rw [gad_ne hb2] at e
        by_cases hb3 : b = p
        · subst hb3
          rw [h1]
          simp
        · rw [gad_ne hb3] at e
          cases q : H b with
          | none => exact absurd q (R.dom b r e)
          | some o =>
            by_cases hb4 : b = L.sl
            · rw [hb4, h4]
              simp
            · rw [h5 b o q hb4]
              simp
def MS0 : MS := ⟨fun _ => none, [], none⟩
theorem ms_empty : ms {} = MS0 := rfl
theorem tk0 (p : Nat) : tk MS0 p = false := tk_false fun j x h => by cases h
theorem takenV0 : takenV MS0 = List.replicate 256 (.bl false) := by
  unfold takenV
  rw [List.map_congr_left (g := fun _ => V.bl false) fun q _ => by rw [tk0]]
  rfl
theorem Rep.empty {dx : Addr} (d : ∀ a r, G a = some r → H a ≠ none) (g1 : G L.kp = some .kp) (g2 : G L.sl = some .sl) (g3 : G L.tl = some .tl) (hu : L.un = .non) (h1 : H L.kp = some (.ins T.keep dx (kf L.sl L.tl .non L.cm .non)))
    (h2 : H L.sl = some (.lst (List.replicate 64 .non))) (h3 : H L.tl = some (.lst (List.replicate 256 (.bl false)))) : Rep T K H G L MS0 := by
  refine ⟨fun r c e => ?_, d, ⟨fun k i f e => (by cases e), fun k i f e => (by cases e), hu⟩⟩
  cases r with
  | kp =>
    cases e
    refine ⟨g1, _, h1, dx, ?_⟩
    rw [hu]
    rfl
  | sl =>
    cases e
    exact ⟨g2, _, h2, rfl⟩
  | tl =>
    cases e
    exact ⟨g3, _, h3, by show HO.lst _ = HO.lst _; rw [takenV0]⟩
  | st k => cases e
  | fr k => cases e
  | pc k => cases e
  | fm k i => cases e
  | wd k i => cases e
  | ac k i => cases e
  | ak => cases e
  | td => cases e
  | res => cases e
end
end Th
namespace Th
open PySem PySem.Spec PyProof.Rows L2
section
variable {T : Cl} {K : PySem.W.Frag} {H H' : Hp} {G G' : Gh} {L L' : Lay} {M M' : MS} {k : Nat} {x y : Md35.Stack} {f f' : Md35.Frame} {fs : List Md35.Frame}
theorem Rep.top1 {r0 : Ro} {c0 : Ct} {o : HO} (R : Rep T K H G L M) (hx : M.S k = some x) (hf : x.frames = f :: fs) (hy : y.frames = f' :: fs) (hp : y.pieces = x.pieces) (hL : L.But L' k fs.length) (hc : L'.cm = L.cm)
    (live : cont T L M r0 = some c0) (h3 : ∀ r c, r ≠ r0 → (r = .fm k fs.length ∨ r = .wd k fs.length ∨ r = .ac k fs.length) → cont T L' (M.up k (some y)) r = some c → cont T L M r = some c)
    (hnew : ∀ c, cont T L' (M.up k (some y)) r0 = some c → Fit o c) (ha : Acts H G (L'.aa k fs.length) f'.acts.reverse) (hg : ThO T H G (L'.cg k fs.length) f'.caught) :
    Rep T K (upd H (L.adr r0) o) G L' (M.up k (some y)) := by
  refine R.upd1 live (fun r c _ => hL.adr r) (fun r c hr e => ?_) hnew (misc_top R.misc hx hf hy hL ha hg)
  by_cases h1 : r = .fm k fs.length
  · exact h3 r c hr (.inl h1) e
  · by_cases h2 : r = .wd k fs.length
    · exact h3 r c hr (.inr (.inl h2)) e
    · by_cases h4 : r = .ac k fs.length
      · exact h3 r c hr (.inr (.inr h4)) e
      · rw [cont_top hx hf hy hp hL hc h1 h2 h4] at e
        exact e
theorem up_fm (hy : y.frames = f' :: fs) : cont T L (M.up k (some y)) (.fm k fs.length) = some (.ins T.frame (ff f'.fn f'.place (L.wd k fs.length) (L.cg k fs.length) (L.ac k fs.length))) := cont_fm (frameAt_top hy)
theorem up_wd (hy : y.frames = f' :: fs) : cont T L (M.up k (some y)) (.wd k fs.length) = some (.lst (f'.words.map V.int)) := cont_wd (frameAt_top hy)
theorem up_ac (hy : y.frames = f' :: fs) : cont T L (M.up k (some y)) (.ac k fs.length) = some (.lst ((L.aa k fs.length).map V.ref)) := cont_ac (frameAt_top hy)
theorem Rep.setplace {dx : Addr} {m : Nat} (R : Rep T K H G L M) (hx : M.S k = some x) (hf : x.frames = f :: fs) (hy : y.frames = { f with place := m } :: fs) (hp : y.pieces = x.pieces) :
    Rep T K (upd H (L.fm k fs.length) (.ins T.frame dx (ff f.fn m (L.wd k fs.length) (L.cg k fs.length) (L.ac k fs.length)))) G L (M.up k (some y)) := by
  have hfr := frameAt_head hx hf
  have hact := R.misc.act _ _ _ hfr
  have hcau := R.misc.cau _ _ _ hfr
  refine R.top1 (r0 := .fm k fs.length) hx hf hy hp (Lay.But.refl L) rfl (cont_fm hfr) (fun r c hr h e => ?_) (fun c e => ?_) hact hcau
  · rcases h with h | h | h
    · exact absurd h hr
    · subst h
      rw [up_wd hy] at e
      rw [cont_wd hfr]
      exact e
    · subst h
      rw [up_ac hy] at e
      rw [cont_ac hfr]
      exact e
  · rw [up_fm hy] at e
    cases e
    exact ⟨dx, rfl⟩
theorem Rep.setcaught {dx : Addr} {v : V} {t : Option Md35.Throw} (R : Rep T K H G L M) (hx : M.S k = some x) (hf : x.frames = f :: fs) (hy : y.frames = { f with caught := t } :: fs) (hp : y.pieces = x.pieces) (ht : ThO T H G v t) :
    Rep T K (upd H (L.fm k fs.length) (.ins T.frame dx (ff f.fn f.place (L.wd k fs.length) v (L.ac k fs.length)))) G { L with cg := set2 L.cg k fs.length v } (M.up k (some y)) := by
  have hfr := frameAt_head hx hf
  have hact := R.misc.act _ _ _ hfr
  have hcau := R.misc.cau _ _ _ hfr
  have hL : L.But { L with cg := set2 L.cg k fs.length v } k fs.length := ⟨rfl, rfl, rfl, rfl, rfl, rfl, rfl, rfl, rfl, rfl, fun j i => by
    by_cases h : j = k ∧ i = fs.length
    · exact .inl h
    · exact .inr (set2_ne h), fun _ _ => .inr rfl⟩
  refine R.top1 (r0 := .fm k fs.length) hx hf hy hp hL rfl (cont_fm hfr) (fun r c hr h e => ?_) (fun c e => ?_) hact (by
    show ThO T H G (set2 L.cg k fs.length v k fs.length) t
    rw [set2_same]
    exact ht)
  · rcases h with h | h | h
    · exact absurd h hr
    · subst h
      rw [up_wd hy] at e
      rw [cont_wd hfr]
      exact e
    · subst h
      rw [up_ac hy] at e
      rw [cont_ac hfr]
      exact e
  · rw [up_fm hy] at e
    cases e
    refine ⟨dx, ?_⟩
    show HO.ins T.frame dx (ff f.fn f.place (L.wd k fs.length) v (L.ac k fs.length)) = HO.ins T.frame dx (ff f.fn f.place (L.wd k fs.length) (set2 L.cg k fs.length v k fs.length) (L.ac k fs.length))
    rw [set2_same]
def Lay.acts (L : Lay) (k n : Nat) (as : List Addr) : Lay := { L with aa := set2 L.aa k n as }
theorem Rep.setacts {as : List Addr} {l : List Md35.Act} (R : Rep T K H G L M) (hx : M.S k = some x) (hf : x.frames = f :: fs) (hy : y.frames = { f with acts := l } :: fs) (hp : y.pieces = x.pieces) (ha : Acts H G as l.reverse) :
    Rep T K (upd H (L.ac k fs.length) (.lst (as.map V.ref))) G (L.acts k fs.length as) (M.up k (some y)) := by
  have hfr := frameAt_head hx hf
  have hact := R.misc.act _ _ _ hfr
  have hcau := R.misc.cau _ _ _ hfr
  have hL : L.But (L.acts k fs.length as) k fs.length := ⟨rfl, rfl, rfl, rfl, rfl, rfl, rfl, rfl, rfl, rfl, fun _ _ => .inr rfl, fun j i => by
    by_cases h : j = k ∧ i = fs.length
    · exact .inl h
    · exact .inr (set2_ne h)⟩
  refine R.top1 (r0 := .ac k fs.length) hx hf hy hp hL rfl (cont_ac hfr) (fun r c hr h e => ?_) (fun c e => ?_) (by
    show Acts H G (set2 L.aa k fs.length as k fs.length) l.reverse
    rw [set2_same]
    exact ha) hcau
  · rcases h with h | h | h
    · subst h
      rw [up_fm hy] at e
      rw [cont_fm hfr]
      exact e
    · subst h
      rw [up_wd hy] at e
      rw [cont_wd hfr]
      exact e
    · exact absurd h hr
  · rw [up_ac hy] at e
    cases e
    show HO.lst (as.map V.ref) = HO.lst ((set2 L.aa k fs.length as k fs.length).map V.ref)
    rw [set2_same]
theorem Rep.setwords {ws : List Int} (R : Rep T K H G L M) (hx : M.S k = some x) (hf : x.frames = f :: fs) (hy : y.frames = { f with words := ws } :: fs) (hp : y.pieces = x.pieces) :
    Rep T K (upd H (L.wd k fs.length) (.lst (ws.map V.int))) G L (M.up k (some y)) := by
  have hfr := frameAt_head hx hf
  have hact := R.misc.act _ _ _ hfr
  have hcau := R.misc.cau _ _ _ hfr
  refine R.top1 (r0 := .wd k fs.length) hx hf hy hp (Lay.But.refl L) rfl (cont_wd hfr) (fun r c hr h e => ?_) (fun c e => ?_) hact hcau
  · rcases h with h | h | h
    · subst h
      rw [up_fm hy] at e
      rw [cont_fm hfr]
      exact e
    · exact absurd h hr
    · subst h
      rw [up_ac hy] at e
      rw [cont_ac hfr]
      exact e
  · rw [up_wd hy] at e
    cases e
    rfl
/-- whatever is not the keep's own stays -/
def Kst (G : Gh) (H : Hp) (G' : Gh) (H' : Hp) : Prop := ∀ b o, H b = some o → (∀ r, G b = some r → kr r = false) → H' b = some o ∧ G' b = G b
theorem Kst.refl (G : Gh) (H : Hp) : Kst G H G H := fun _ _ e _ => ⟨e, rfl⟩
theorem Kst.trans {H1 H2 H3 : Hp} {G1 G2 G3 : Gh} (a : Kst G1 H1 G2 H2) (b : Kst G2 H2 G3 H3) : Kst G1 H1 G3 H3 := fun c o e n =>
  let ⟨e2, g2⟩ := a c o e n
  let ⟨e3, g3⟩ := b c o e2 (by rw [g2]; exact n)
  ⟨e3, g3.trans g2⟩
theorem Kst.stay (a : Kst G H G' H') : Stay G H G' H' := fun b o e n => a b o e fun r hr => by
  rcases n with n | n
  · rw [n] at hr
    cases hr
  · rw [n] at hr
    cases hr
    rfl
theorem Kst.upd {a : Addr} {o : HO} {r : Ro} (g : G a = some r) (hr : kr r = true) : Kst G H G (upd H a o) := fun b u e n => by
  refine ⟨?_, rfl⟩
  rw [upd_ne (fun z => by
    subst z
    rw [n r g] at hr
    cases hr)]
  exact e
theorem Kst.same (s : Same H H') : Kst G H G H' := fun b o e _ => ⟨s b o e, rfl⟩
theorem Kst.own {r : Ro} {c : Ct} {o : HO} (R : Rep T K H G L M) (h : cont T L M r = some c) : Kst G H G (L2.upd H (L.adr r) o) := Kst.upd (R.own r c h).1 (cont_kr h)
end
end Th
namespace Th
open PySem PySem.Spec PyProof.Rows L2
def top (i : Nat) : Stmt := PySem.Challenge.pw_throwstack_s01_answers.main.body.getD i (.Pass ⟨0, 0, 0, 0⟩)
inductive Df where
  | d_frame_init
  | d_frame_is_new
  | d_stack_init
  | d_stack_innermost
  | d_throw_init
  | d_throw_of_number
  | d_in_place_of
  | d_asks_init
  | d_asks_ask
  | d_asks_run
  | d_asks_clean
  | d_keep_init
  | d_keep_make_empty
  | d_keep_is_stopped
  | d_keep_find_stack
  | d_keep_cut_stack
  | d_keep_add_stack
  | d_keep_add_frame
  | d_keep_drop_frame
  | d_keep_drop_stack
  | d_keep_put_on
  | d_keep_put_on_sending
  | d_keep_take_off
  | d_tell_frames
  | d_tell_acts
  | d_tell_row
  | d_tell_pieces
  | d_tell_causes
  | d_drop_act
  | d_throw_on
  | d_throw_through_frame
  | d_catches
  | d_end_stack
  | d_joined
  | d_refuse
  | d_go_on
  | d_want_return
  | d_want_call
  | d_want_throw
  | d_want_handler
  | d_want_last
  | d_add_act
  | d_want_drop_act
  | d_want_hand_out
  | d_want_new_stack
  | d_want_go_on_with
  | d_want_end
  | d_want_throw_again
  | d_want_set_word
  | d_want_tell_word
  | d_take_step
  | d_call_new
  | d_call_go
  | d_call_send
  | d_call_hurl
  | d_call_end
  | d_call_on
  | d_call_frames
  | d_call_acts
  | d_call_row
  | d_call_pieces
  | d_call_causes
  | d_in_range
  | d_run_steps
  | d_how_many_numbers
  | d_do_call
  | d_answers
def Df.nm : Df → Str
  | .d_frame_init => "__init__"
  | .d_frame_is_new => "is_new"
  | .d_stack_init => "__init__"
  | .d_stack_innermost => "innermost"
  | .d_throw_init => "__init__"
  | .d_throw_of_number => "throw_of_number"
  | .d_in_place_of => "in_place_of"
  | .d_asks_init => "__init__"
  | .d_asks_ask => "ask"
  | .d_asks_run => "run"
  | .d_asks_clean => "clean"
  | .d_keep_init => "__init__"
  | .d_keep_make_empty => "make_empty"
  | .d_keep_is_stopped => "is_stopped"
  | .d_keep_find_stack => "find_stack"
  | .d_keep_cut_stack => "cut_stack"
  | .d_keep_add_stack => "add_stack"
  | .d_keep_add_frame => "add_frame"
  | .d_keep_drop_frame => "drop_frame"
  | .d_keep_drop_stack => "drop_stack"
  | .d_keep_put_on => "put_on"
  | .d_keep_put_on_sending => "put_on_sending"
  | .d_keep_take_off => "take_off"
  | .d_tell_frames => "tell_frames"
  | .d_tell_acts => "tell_acts"
  | .d_tell_row => "tell_row"
  | .d_tell_pieces => "tell_pieces"
  | .d_tell_causes => "tell_causes"
  | .d_drop_act => "drop_act"
  | .d_throw_on => "throw_on"
  | .d_throw_through_frame => "throw_through_frame"
  | .d_catches => "catches"
  | .d_end_stack => "end_stack"
  | .d_joined => "joined"
  | .d_refuse => "refuse"
  | .d_go_on => "go_on"
  | .d_want_return => "want_return"
  | .d_want_call => "want_call"
  | .d_want_throw => "want_throw"
  | .d_want_handler => "want_handler"
  | .d_want_last => "want_last"
  | .d_add_act => "add_act"
  | .d_want_drop_act => "want_drop_act"
  | .d_want_hand_out => "want_hand_out"
  | .d_want_new_stack => "want_new_stack"
  | .d_want_go_on_with => "want_go_on_with"
  | .d_want_end => "want_end"
  | .d_want_throw_again => "want_throw_again"
  | .d_want_set_word => "want_set_word"
  | .d_want_tell_word => "want_tell_word"
  | .d_take_step => "take_step"
  | .d_call_new => "call_new"
  | .d_call_go => "call_go"
  | .d_call_send => "call_send"
  | .d_call_hurl => "call_hurl"
  | .d_call_end => "call_end"
  | .d_call_on => "call_on"
  | .d_call_frames => "call_frames"
  | .d_call_acts => "call_acts"
  | .d_call_row => "call_row"
  | .d_call_pieces => "call_pieces"
  | .d_call_causes => "call_causes"
  | .d_in_range => "in_range"
  | .d_run_steps => "run_steps"
  | .d_how_many_numbers => "how_many_numbers"
  | .d_do_call => "do_call"
  | .d_answers => "answers"
def Df.ql : Df → Str
  | .d_frame_init => "Frame.__init__"
  | .d_frame_is_new => "Frame.is_new"
  | .d_stack_init => "Stack.__init__"
  | .d_stack_innermost => "Stack.innermost"
  | .d_throw_init => "Throw.__init__"
  | .d_throw_of_number => "throw_of_number"
  | .d_in_place_of => "in_place_of"
  | .d_asks_init => "Asks.__init__"
  | .d_asks_ask => "Asks.ask"
  | .d_asks_run => "Asks.run"
  | .d_asks_clean => "Asks.clean"
  | .d_keep_init => "Keep.__init__"
  | .d_keep_make_empty => "Keep.make_empty"
  | .d_keep_is_stopped => "Keep.is_stopped"
  | .d_keep_find_stack => "Keep.find_stack"
  | .d_keep_cut_stack => "Keep.cut_stack"
  | .d_keep_add_stack => "Keep.add_stack"
  | .d_keep_add_frame => "Keep.add_frame"
  | .d_keep_drop_frame => "Keep.drop_frame"
  | .d_keep_drop_stack => "Keep.drop_stack"
  | .d_keep_put_on => "Keep.put_on"
  | .d_keep_put_on_sending => "Keep.put_on_sending"
  | .d_keep_take_off => "Keep.take_off"
  | .d_tell_frames => "tell_frames"
  | .d_tell_acts => "tell_acts"
  | .d_tell_row => "tell_row"
  | .d_tell_pieces => "tell_pieces"
  | .d_tell_causes => "tell_causes"
  | .d_drop_act => "drop_act"
  | .d_throw_on => "throw_on"
  | .d_throw_through_frame => "throw_through_frame"
  | .d_catches => "catches"
  | .d_end_stack => "end_stack"
  | .d_joined => "joined"
  | .d_refuse => "refuse"
  | .d_go_on => "go_on"
  | .d_want_return => "want_return"
  | .d_want_call => "want_call"
  | .d_want_throw => "want_throw"
  | .d_want_handler => "want_handler"
  | .d_want_last => "want_last"
  | .d_add_act => "add_act"
  | .d_want_drop_act => "want_drop_act"
  | .d_want_hand_out => "want_hand_out"
  | .d_want_new_stack => "want_new_stack"
  | .d_want_go_on_with => "want_go_on_with"
  | .d_want_end => "want_end"
  | .d_want_throw_again => "want_throw_again"
  | .d_want_set_word => "want_set_word"
  | .d_want_tell_word => "want_tell_word"
  | .d_take_step => "take_step"
  | .d_call_new => "call_new"
  | .d_call_go => "call_go"
  | .d_call_send => "call_send"
  | .d_call_hurl => "call_hurl"
  | .d_call_end => "call_end"
  | .d_call_on => "call_on"
  | .d_call_frames => "call_frames"
  | .d_call_acts => "call_acts"
  | .d_call_row => "call_row"
  | .d_call_pieces => "call_pieces"
  | .d_call_causes => "call_causes"
  | .d_in_range => "in_range"
  | .d_run_steps => "run_steps"
  | .d_how_many_numbers => "how_many_numbers"
  | .d_do_call => "do_call"
  | .d_answers => "answers"
def Df.pars : Df → List Str
  | .d_frame_init => [("self" : Str), ("function" : Str)]
  | .d_frame_is_new => [("self" : Str)]
  | .d_stack_init => [("self" : Str), ("number" : Str)]
  | .d_stack_innermost => [("self" : Str)]
  | .d_throw_init => [("self" : Str), ("kind" : Str), ("value" : Str), ("causes" : Str)]
  | .d_throw_of_number => [("number" : Str)]
  | .d_in_place_of => [("older" : Str), ("newer" : Str)]
  | .d_asks_init => [("self" : Str), ("replies" : Str)]
  | .d_asks_ask => [("self" : Str), ("numbers" : Str)]
  | .d_asks_run => [("self" : Str), ("frame" : Str), ("come" : Str)]
  | .d_asks_clean => [("self" : Str), ("function" : Str), ("why" : Str)]
  | .d_keep_init => [("self" : Str)]
  | .d_keep_make_empty => [("self" : Str)]
  | .d_keep_is_stopped => [("self" : Str)]
  | .d_keep_find_stack => [("self" : Str), ("number" : Str)]
  | .d_keep_cut_stack => [("self" : Str), ("number" : Str)]
  | .d_keep_add_stack => [("self" : Str), ("function" : Str)]
  | .d_keep_add_frame => [("self" : Str), ("stack" : Str), ("function" : Str)]
  | .d_keep_drop_frame => [("self" : Str), ("stack" : Str)]
  | .d_keep_drop_stack => [("self" : Str), ("stack" : Str)]
  | .d_keep_put_on => [("self" : Str), ("stack" : Str)]
  | .d_keep_put_on_sending => [("self" : Str), ("stack" : Str), ("number" : Str)]
  | .d_keep_take_off => [("self" : Str)]
  | .d_tell_frames => [("stack" : Str)]
  | .d_tell_acts => [("frame" : Str)]
  | .d_tell_row => [("stacks" : Str)]
  | .d_tell_pieces => [("stack" : Str)]
  | .d_tell_causes => [("throw" : Str)]
  | .d_drop_act => [("asks" : Str), ("frame" : Str), ("why" : Str)]
  | .d_throw_on => [("keep" : Str), ("asks" : Str), ("throw" : Str)]
  | .d_throw_through_frame => [("keep" : Str), ("asks" : Str), ("throw" : Str)]
  | .d_catches => [("act" : Str), ("throw" : Str)]
  | .d_end_stack => [("keep" : Str), ("asks" : Str), ("stack" : Str)]
  | .d_joined => [("throws" : Str)]
  | .d_refuse => [("keep" : Str), ("want" : Str)]
  | .d_go_on => [("keep" : Str)]
  | .d_want_return => [("keep" : Str), ("asks" : Str), ("v" : Str)]
  | .d_want_call => [("keep" : Str), ("asks" : Str), ("v" : Str)]
  | .d_want_throw => [("keep" : Str), ("asks" : Str), ("v" : Str)]
  | .d_want_handler => [("keep" : Str), ("asks" : Str), ("v" : Str)]
  | .d_want_last => [("keep" : Str), ("asks" : Str), ("v" : Str)]
  | .d_add_act => [("keep" : Str), ("want" : Str), ("act" : Str)]
  | .d_want_drop_act => [("keep" : Str), ("asks" : Str), ("v" : Str)]
  | .d_want_hand_out => [("keep" : Str), ("asks" : Str), ("v" : Str)]
  | .d_want_new_stack => [("keep" : Str), ("asks" : Str), ("v" : Str)]
  | .d_want_go_on_with => [("keep" : Str), ("asks" : Str), ("v" : Str)]
  | .d_want_end => [("keep" : Str), ("asks" : Str), ("v" : Str)]
  | .d_want_throw_again => [("keep" : Str), ("asks" : Str), ("v" : Str)]
  | .d_want_set_word => [("keep" : Str), ("asks" : Str), ("v" : Str)]
  | .d_want_tell_word => [("keep" : Str), ("asks" : Str), ("v" : Str)]
  | .d_take_step => [("keep" : Str), ("asks" : Str)]
  | .d_call_new => [("keep" : Str), ("asks" : Str), ("numbers" : Str)]
  | .d_call_go => [("keep" : Str), ("asks" : Str), ("numbers" : Str)]
  | .d_call_send => [("keep" : Str), ("asks" : Str), ("numbers" : Str)]
  | .d_call_hurl => [("keep" : Str), ("asks" : Str), ("numbers" : Str)]
  | .d_call_end => [("keep" : Str), ("asks" : Str), ("numbers" : Str)]
  | .d_call_on => [("keep" : Str), ("asks" : Str), ("numbers" : Str)]
  | .d_call_frames => [("keep" : Str), ("asks" : Str), ("numbers" : Str)]
  | .d_call_acts => [("keep" : Str), ("asks" : Str), ("numbers" : Str)]
  | .d_call_row => [("keep" : Str), ("asks" : Str), ("numbers" : Str)]
  | .d_call_pieces => [("keep" : Str), ("asks" : Str), ("numbers" : Str)]
  | .d_call_causes => [("keep" : Str), ("asks" : Str), ("numbers" : Str)]
  | .d_in_range => [("number" : Str), ("most" : Str)]
  | .d_run_steps => [("keep" : Str), ("asks" : Str), ("budget" : Str)]
  | .d_how_many_numbers => [("call" : Str)]
  | .d_do_call => [("keep" : Str), ("asks" : Str), ("call" : Str), ("numbers" : Str)]
  | .d_answers => [("calls" : Str)]
abbrev s_frame_init : Stmt := inClass (top 7) 0
abbrev s_frame_is_new : Stmt := inClass (top 7) 1
abbrev s_stack_init : Stmt := inClass (top 8) 0
abbrev s_stack_innermost : Stmt := inClass (top 8) 1
abbrev s_throw_init : Stmt := inClass (top 9) 0
abbrev s_throw_of_number : Stmt := top 10
abbrev s_in_place_of : Stmt := top 11
abbrev s_asks_init : Stmt := inClass (top 18) 0
abbrev s_asks_ask : Stmt := inClass (top 18) 1
abbrev s_asks_run : Stmt := inClass (top 18) 2
abbrev s_asks_clean : Stmt := inClass (top 18) 3
abbrev s_keep_init : Stmt := inClass (top 25) 0
abbrev s_keep_make_empty : Stmt := inClass (top 25) 1
abbrev s_keep_is_stopped : Stmt := inClass (top 25) 2
abbrev s_keep_find_stack : Stmt := inClass (top 25) 3
abbrev s_keep_cut_stack : Stmt := inClass (top 25) 4
abbrev s_keep_add_stack : Stmt := inClass (top 25) 5
abbrev s_keep_add_frame : Stmt := inClass (top 25) 6
abbrev s_keep_drop_frame : Stmt := inClass (top 25) 7
abbrev s_keep_drop_stack : Stmt := inClass (top 25) 8
abbrev s_keep_put_on : Stmt := inClass (top 25) 9
abbrev s_keep_put_on_sending : Stmt := inClass (top 25) 10
abbrev s_keep_take_off : Stmt := inClass (top 25) 11
abbrev s_tell_frames : Stmt := top 30
abbrev s_tell_acts : Stmt := top 31
abbrev s_tell_row : Stmt := top 32
abbrev s_tell_pieces : Stmt := top 33
abbrev s_tell_causes : Stmt := top 34
abbrev s_drop_act : Stmt := top 38
abbrev s_throw_on : Stmt := top 39
abbrev s_throw_through_frame : Stmt := top 40
abbrev s_catches : Stmt := top 41
abbrev s_end_stack : Stmt := top 42
abbrev s_joined : Stmt := top 43
abbrev s_refuse : Stmt := top 59
abbrev s_go_on : Stmt := top 60
abbrev s_want_return : Stmt := top 61
abbrev s_want_call : Stmt := top 62
abbrev s_want_throw : Stmt := top 63
abbrev s_want_handler : Stmt := top 64
abbrev s_want_last : Stmt := top 65
abbrev s_add_act : Stmt := top 66
abbrev s_want_drop_act : Stmt := top 67
abbrev s_want_hand_out : Stmt := top 68
abbrev s_want_new_stack : Stmt := top 69
abbrev s_want_go_on_with : Stmt := top 70
abbrev s_want_end : Stmt := top 71
abbrev s_want_throw_again : Stmt := top 72
abbrev s_want_set_word : Stmt := top 73
abbrev s_want_tell_word : Stmt := top 74
abbrev s_take_step : Stmt := top 76
abbrev s_call_new : Stmt := top 89
abbrev s_call_go : Stmt := top 90
abbrev s_call_send : Stmt := top 91
abbrev s_call_hurl : Stmt := top 92
abbrev s_call_end : Stmt := top 93
abbrev s_call_on : Stmt := top 94
abbrev s_call_frames : Stmt := top 95
abbrev s_call_acts : Stmt := top 96
abbrev s_call_row : Stmt := top 97
abbrev s_call_pieces : Stmt := top 98
abbrev s_call_causes : Stmt := top 99
abbrev s_in_range : Stmt := top 100
abbrev s_run_steps : Stmt := top 101
abbrev s_how_many_numbers : Stmt := top 104
abbrev s_do_call : Stmt := top 105
abbrev s_answers : Stmt := top 107
def Df.stm : Df → Stmt
  | .d_frame_init => s_frame_init
  | .d_frame_is_new => s_frame_is_new
  | .d_stack_init => s_stack_init
  | .d_stack_innermost => s_stack_innermost
  | .d_throw_init => s_throw_init
  | .d_throw_of_number => s_throw_of_number
  | .d_in_place_of => s_in_place_of
  | .d_asks_init => s_asks_init
  | .d_asks_ask => s_asks_ask
  | .d_asks_run => s_asks_run
  | .d_asks_clean => s_asks_clean
  | .d_keep_init => s_keep_init
  | .d_keep_make_empty => s_keep_make_empty
  | .d_keep_is_stopped => s_keep_is_stopped
  | .d_keep_find_stack => s_keep_find_stack
  | .d_keep_cut_stack => s_keep_cut_stack
  | .d_keep_add_stack => s_keep_add_stack
  | .d_keep_add_frame => s_keep_add_frame
  | .d_keep_drop_frame => s_keep_drop_frame
  | .d_keep_drop_stack => s_keep_drop_stack
  | .d_keep_put_on => s_keep_put_on
  | .d_keep_put_on_sending => s_keep_put_on_sending
  | .d_keep_take_off => s_keep_take_off
  | .d_tell_frames => s_tell_frames
  | .d_tell_acts => s_tell_acts
  | .d_tell_row => s_tell_row
  | .d_tell_pieces => s_tell_pieces
  | .d_tell_causes => s_tell_causes
  | .d_drop_act => s_drop_act
  | .d_throw_on => s_throw_on
  | .d_throw_through_frame => s_throw_through_frame
  | .d_catches => s_catches
  | .d_end_stack => s_end_stack
  | .d_joined => s_joined
  | .d_refuse => s_refuse
  | .d_go_on => s_go_on
  | .d_want_return => s_want_return
  | .d_want_call => s_want_call
  | .d_want_throw => s_want_throw
  | .d_want_handler => s_want_handler
  | .d_want_last => s_want_last
  | .d_add_act => s_add_act
  | .d_want_drop_act => s_want_drop_act
  | .d_want_hand_out => s_want_hand_out
  | .d_want_new_stack => s_want_new_stack
  | .d_want_go_on_with => s_want_go_on_with
  | .d_want_end => s_want_end
  | .d_want_throw_again => s_want_throw_again
  | .d_want_set_word => s_want_set_word
  | .d_want_tell_word => s_want_tell_word
  | .d_take_step => s_take_step
  | .d_call_new => s_call_new
  | .d_call_go => s_call_go
  | .d_call_send => s_call_send
  | .d_call_hurl => s_call_hurl
  | .d_call_end => s_call_end
  | .d_call_on => s_call_on
  | .d_call_frames => s_call_frames
  | .d_call_acts => s_call_acts
  | .d_call_row => s_call_row
  | .d_call_pieces => s_call_pieces
  | .d_call_causes => s_call_causes
  | .d_in_range => s_in_range
  | .d_run_steps => s_run_steps
  | .d_how_many_numbers => s_how_many_numbers
  | .d_do_call => s_do_call
  | .d_answers => s_answers
theorem sc_frame_init : FnScope [("self" : Str), ("function" : Str)] [("self" : Str), ("function" : Str)] (defScope s_frame_init) := ⟨rfl, rfl, rfl, by decide +kernel, rfl, by decide +kernel, by decide +kernel⟩
theorem sc_frame_is_new : FnScope [("self" : Str)] [("self" : Str)] (defScope s_frame_is_new) := ⟨rfl, rfl, rfl, by decide +kernel, rfl, by decide +kernel, by decide +kernel⟩
theorem sc_stack_init : FnScope [("self" : Str), ("number" : Str)] [("self" : Str), ("number" : Str)] (defScope s_stack_init) := ⟨rfl, rfl, rfl, by decide +kernel, rfl, by decide +kernel, by decide +kernel⟩
theorem sc_stack_innermost : FnScope [("self" : Str)] [("self" : Str)] (defScope s_stack_innermost) := ⟨rfl, rfl, rfl, by decide +kernel, rfl, by decide +kernel, by decide +kernel⟩
theorem sc_throw_init : FnScope [("self" : Str), ("kind" : Str), ("value" : Str), ("causes" : Str)] [("self" : Str), ("kind" : Str), ("value" : Str), ("causes" : Str)] (defScope s_throw_init) := ⟨rfl, rfl, rfl, by decide +kernel, rfl, by decide +kernel, by decide +kernel⟩
theorem sc_throw_of_number : FnScope [("number" : Str)] [("number" : Str)] (defScope s_throw_of_number) := ⟨rfl, rfl, rfl, by decide +kernel, rfl, by decide +kernel, by decide +kernel⟩
theorem sc_in_place_of : FnScope [("older" : Str), ("newer" : Str), ("causes" : Str)] [("older" : Str), ("newer" : Str)] (defScope s_in_place_of) := ⟨rfl, rfl, rfl, by decide +kernel, rfl, by decide +kernel, by decide +kernel⟩
theorem sc_asks_init : FnScope [("self" : Str), ("replies" : Str)] [("self" : Str), ("replies" : Str)] (defScope s_asks_init) := ⟨rfl, rfl, rfl, by decide +kernel, rfl, by decide +kernel, by decide +kernel⟩
theorem sc_asks_ask : FnScope [("self" : Str), ("numbers" : Str), ("at" : Str)] [("self" : Str), ("numbers" : Str)] (defScope s_asks_ask) := ⟨rfl, rfl, rfl, by decide +kernel, rfl, by decide +kernel, by decide +kernel⟩
theorem sc_asks_run : FnScope [("self" : Str), ("frame" : Str), ("come" : Str)] [("self" : Str), ("frame" : Str), ("come" : Str)] (defScope s_asks_run) := ⟨rfl, rfl, rfl, by decide +kernel, rfl, by decide +kernel, by decide +kernel⟩
theorem sc_asks_clean : FnScope [("self" : Str), ("function" : Str), ("why" : Str), ("answer" : Str)] [("self" : Str), ("function" : Str), ("why" : Str)] (defScope s_asks_clean) := ⟨rfl, rfl, rfl, by decide +kernel, rfl, by decide +kernel, by decide +kernel⟩
theorem sc_keep_init : FnScope [("self" : Str)] [("self" : Str)] (defScope s_keep_init) := ⟨rfl, rfl, rfl, by decide +kernel, rfl, by decide +kernel, by decide +kernel⟩
theorem sc_keep_make_empty : FnScope [("self" : Str)] [("self" : Str)] (defScope s_keep_make_empty) := ⟨rfl, rfl, rfl, by decide +kernel, rfl, by decide +kernel, by decide +kernel⟩
theorem sc_keep_is_stopped : FnScope [("self" : Str)] [("self" : Str)] (defScope s_keep_is_stopped) := ⟨rfl, rfl, rfl, by decide +kernel, rfl, by decide +kernel, by decide +kernel⟩
theorem sc_keep_find_stack : FnScope [("self" : Str), ("number" : Str)] [("self" : Str), ("number" : Str)] (defScope s_keep_find_stack) := ⟨rfl, rfl, rfl, by decide +kernel, rfl, by decide +kernel, by decide +kernel⟩
theorem sc_keep_cut_stack : FnScope [("self" : Str), ("number" : Str), ("stack" : Str)] [("self" : Str), ("number" : Str)] (defScope s_keep_cut_stack) := ⟨rfl, rfl, rfl, by decide +kernel, rfl, by decide +kernel, by decide +kernel⟩
theorem sc_keep_add_stack : FnScope [("self" : Str), ("function" : Str), ("stack" : Str)] [("self" : Str), ("function" : Str)] (defScope s_keep_add_stack) := ⟨rfl, rfl, rfl, by decide +kernel, rfl, by decide +kernel, by decide +kernel⟩
theorem sc_keep_add_frame : FnScope [("self" : Str), ("stack" : Str), ("function" : Str), ("piece" : Str)] [("self" : Str), ("stack" : Str), ("function" : Str)] (defScope s_keep_add_frame) := ⟨rfl, rfl, rfl, by decide +kernel, rfl, by decide +kernel, by decide +kernel⟩
theorem sc_keep_drop_frame : FnScope [("self" : Str), ("stack" : Str), ("before_last" : Str)] [("self" : Str), ("stack" : Str)] (defScope s_keep_drop_frame) := ⟨rfl, rfl, rfl, by decide +kernel, rfl, by decide +kernel, by decide +kernel⟩
theorem sc_keep_drop_stack : FnScope [("self" : Str), ("stack" : Str), ("piece" : Str)] [("self" : Str), ("stack" : Str)] (defScope s_keep_drop_stack) := ⟨rfl, rfl, rfl, by decide +kernel, rfl, by decide +kernel, by decide +kernel⟩
theorem sc_keep_put_on : FnScope [("self" : Str), ("stack" : Str)] [("self" : Str), ("stack" : Str)] (defScope s_keep_put_on) := ⟨rfl, rfl, rfl, by decide +kernel, rfl, by decide +kernel, by decide +kernel⟩
theorem sc_keep_put_on_sending : FnScope [("self" : Str), ("stack" : Str), ("number" : Str), ("why" : Str)] [("self" : Str), ("stack" : Str), ("number" : Str)] (defScope s_keep_put_on_sending) := ⟨rfl, rfl, rfl, by decide +kernel, rfl, by decide +kernel, by decide +kernel⟩
theorem sc_keep_take_off : FnScope [("self" : Str), ("stack" : Str)] [("self" : Str)] (defScope s_keep_take_off) := ⟨rfl, rfl, rfl, by decide +kernel, rfl, by decide +kernel, by decide +kernel⟩
theorem sc_tell_frames : FnScope [("stack" : Str), ("told" : Str), ("frame" : Str)] [("stack" : Str)] (defScope s_tell_frames) := ⟨rfl, rfl, rfl, by decide +kernel, rfl, by decide +kernel, by decide +kernel⟩
theorem sc_tell_acts : FnScope [("frame" : Str), ("told" : Str), ("act" : Str)] [("frame" : Str)] (defScope s_tell_acts) := ⟨rfl, rfl, rfl, by decide +kernel, rfl, by decide +kernel, by decide +kernel⟩
theorem sc_tell_row : FnScope [("stacks" : Str), ("there" : Str), ("told" : Str), ("stack" : Str), ("waiter" : Str)] [("stacks" : Str)] (defScope s_tell_row) := ⟨rfl, rfl, rfl, by decide +kernel, rfl, by decide +kernel, by decide +kernel⟩
theorem sc_tell_pieces : FnScope [("stack" : Str)] [("stack" : Str)] (defScope s_tell_pieces) := ⟨rfl, rfl, rfl, by decide +kernel, rfl, by decide +kernel, by decide +kernel⟩
theorem sc_tell_causes : FnScope [("throw" : Str), ("told" : Str), ("cause" : Str)] [("throw" : Str)] (defScope s_tell_causes) := ⟨rfl, rfl, rfl, by decide +kernel, rfl, by decide +kernel, by decide +kernel⟩
theorem sc_drop_act : FnScope [("asks" : Str), ("frame" : Str), ("why" : Str), ("act" : Str)] [("asks" : Str), ("frame" : Str), ("why" : Str)] (defScope s_drop_act) := ⟨rfl, rfl, rfl, by decide +kernel, rfl, by decide +kernel, by decide +kernel⟩
theorem sc_throw_on : FnScope [("keep" : Str), ("asks" : Str), ("throw" : Str), ("stack" : Str)] [("keep" : Str), ("asks" : Str), ("throw" : Str)] (defScope s_throw_on) := ⟨rfl, rfl, rfl, by decide +kernel, rfl, by decide +kernel, by decide +kernel⟩
theorem sc_throw_through_frame : FnScope [("keep" : Str), ("asks" : Str), ("throw" : Str), ("frame" : Str), ("thrown" : Str)] [("keep" : Str), ("asks" : Str), ("throw" : Str)] (defScope s_throw_through_frame) := ⟨rfl, rfl, rfl, by decide +kernel, rfl, by decide +kernel, by decide +kernel⟩
theorem sc_catches : FnScope [("act" : Str), ("throw" : Str)] [("act" : Str), ("throw" : Str)] (defScope s_catches) := ⟨rfl, rfl, rfl, by decide +kernel, rfl, by decide +kernel, by decide +kernel⟩
theorem sc_end_stack : FnScope [("keep" : Str), ("asks" : Str), ("stack" : Str), ("throws" : Str), ("frame" : Str), ("thrown" : Str)] [("keep" : Str), ("asks" : Str), ("stack" : Str)] (defScope s_end_stack) := ⟨rfl, rfl, rfl, by decide +kernel, rfl, by decide +kernel, by decide +kernel⟩
theorem sc_joined : FnScope [("throws" : Str), ("throw" : Str), ("newer" : Str)] [("throws" : Str)] (defScope s_joined) := ⟨rfl, rfl, rfl, by decide +kernel, rfl, by decide +kernel, by decide +kernel⟩
theorem sc_refuse : FnScope [("keep" : Str), ("want" : Str)] [("keep" : Str), ("want" : Str)] (defScope s_refuse) := ⟨rfl, rfl, rfl, by decide +kernel, rfl, by decide +kernel, by decide +kernel⟩
theorem sc_go_on : FnScope [("keep" : Str)] [("keep" : Str)] (defScope s_go_on) := ⟨rfl, rfl, rfl, by decide +kernel, rfl, by decide +kernel, by decide +kernel⟩
theorem sc_want_return : FnScope [("keep" : Str), ("asks" : Str), ("v" : Str), ("stack" : Str), ("frame" : Str), ("thrown" : Str)] [("keep" : Str), ("asks" : Str), ("v" : Str)] (defScope s_want_return) := ⟨rfl, rfl, rfl, by decide +kernel, rfl, by decide +kernel, by decide +kernel⟩
theorem sc_want_call : FnScope [("keep" : Str), ("asks" : Str), ("v" : Str)] [("keep" : Str), ("asks" : Str), ("v" : Str)] (defScope s_want_call) := ⟨rfl, rfl, rfl, by decide +kernel, rfl, by decide +kernel, by decide +kernel⟩
theorem sc_want_throw : FnScope [("keep" : Str), ("asks" : Str), ("v" : Str)] [("keep" : Str), ("asks" : Str), ("v" : Str)] (defScope s_want_throw) := ⟨rfl, rfl, rfl, by decide +kernel, rfl, by decide +kernel, by decide +kernel⟩
theorem sc_want_handler : FnScope [("keep" : Str), ("asks" : Str), ("v" : Str)] [("keep" : Str), ("asks" : Str), ("v" : Str)] (defScope s_want_handler) := ⟨rfl, rfl, rfl, by decide +kernel, rfl, by decide +kernel, by decide +kernel⟩
theorem sc_want_last : FnScope [("keep" : Str), ("asks" : Str), ("v" : Str)] [("keep" : Str), ("asks" : Str), ("v" : Str)] (defScope s_want_last) := ⟨rfl, rfl, rfl, by decide +kernel, rfl, by decide +kernel, by decide +kernel⟩
theorem sc_add_act : FnScope [("keep" : Str), ("want" : Str), ("act" : Str), ("acts" : Str)] [("keep" : Str), ("want" : Str), ("act" : Str)] (defScope s_add_act) := ⟨rfl, rfl, rfl, by decide +kernel, rfl, by decide +kernel, by decide +kernel⟩
theorem sc_want_drop_act : FnScope [("keep" : Str), ("asks" : Str), ("v" : Str), ("frame" : Str), ("thrown" : Str)] [("keep" : Str), ("asks" : Str), ("v" : Str)] (defScope s_want_drop_act) := ⟨rfl, rfl, rfl, by decide +kernel, rfl, by decide +kernel, by decide +kernel⟩
theorem sc_want_hand_out : FnScope [("keep" : Str), ("asks" : Str), ("v" : Str), ("number" : Str)] [("keep" : Str), ("asks" : Str), ("v" : Str)] (defScope s_want_hand_out) := ⟨rfl, rfl, rfl, by decide +kernel, rfl, by decide +kernel, by decide +kernel⟩
theorem sc_want_new_stack : FnScope [("keep" : Str), ("asks" : Str), ("v" : Str), ("stack" : Str)] [("keep" : Str), ("asks" : Str), ("v" : Str)] (defScope s_want_new_stack) := ⟨rfl, rfl, rfl, by decide +kernel, rfl, by decide +kernel, by decide +kernel⟩
theorem sc_want_go_on_with : FnScope [("keep" : Str), ("asks" : Str), ("v" : Str), ("stack" : Str)] [("keep" : Str), ("asks" : Str), ("v" : Str)] (defScope s_want_go_on_with) := ⟨rfl, rfl, rfl, by decide +kernel, rfl, by decide +kernel, by decide +kernel⟩
theorem sc_want_end : FnScope [("keep" : Str), ("asks" : Str), ("v" : Str), ("stack" : Str), ("throws" : Str)] [("keep" : Str), ("asks" : Str), ("v" : Str)] (defScope s_want_end) := ⟨rfl, rfl, rfl, by decide +kernel, rfl, by decide +kernel, by decide +kernel⟩
theorem sc_want_throw_again : FnScope [("keep" : Str), ("asks" : Str), ("v" : Str), ("caught" : Str)] [("keep" : Str), ("asks" : Str), ("v" : Str)] (defScope s_want_throw_again) := ⟨rfl, rfl, rfl, by decide +kernel, rfl, by decide +kernel, by decide +kernel⟩
theorem sc_want_set_word : FnScope [("keep" : Str), ("asks" : Str), ("v" : Str), ("words" : Str)] [("keep" : Str), ("asks" : Str), ("v" : Str)] (defScope s_want_set_word) := ⟨rfl, rfl, rfl, by decide +kernel, rfl, by decide +kernel, by decide +kernel⟩
theorem sc_want_tell_word : FnScope [("keep" : Str), ("asks" : Str), ("v" : Str)] [("keep" : Str), ("asks" : Str), ("v" : Str)] (defScope s_want_tell_word) := ⟨rfl, rfl, rfl, by decide +kernel, rfl, by decide +kernel, by decide +kernel⟩
theorem sc_take_step : FnScope [("keep" : Str), ("asks" : Str), ("frame" : Str), ("answer" : Str), ("want" : Str)] [("keep" : Str), ("asks" : Str)] (defScope s_take_step) := ⟨rfl, rfl, rfl, by decide +kernel, rfl, by decide +kernel, by decide +kernel⟩
theorem sc_call_new : FnScope [("keep" : Str), ("asks" : Str), ("numbers" : Str)] [("keep" : Str), ("asks" : Str), ("numbers" : Str)] (defScope s_call_new) := ⟨rfl, rfl, rfl, by decide +kernel, rfl, by decide +kernel, by decide +kernel⟩
theorem sc_call_go : FnScope [("keep" : Str), ("asks" : Str), ("numbers" : Str), ("budget" : Str), ("stack" : Str)] [("keep" : Str), ("asks" : Str), ("numbers" : Str)] (defScope s_call_go) := ⟨rfl, rfl, rfl, by decide +kernel, rfl, by decide +kernel, by decide +kernel⟩
theorem sc_call_send : FnScope [("keep" : Str), ("asks" : Str), ("numbers" : Str), ("budget" : Str), ("stack" : Str)] [("keep" : Str), ("asks" : Str), ("numbers" : Str)] (defScope s_call_send) := ⟨rfl, rfl, rfl, by decide +kernel, rfl, by decide +kernel, by decide +kernel⟩
theorem sc_call_hurl : FnScope [("keep" : Str), ("asks" : Str), ("numbers" : Str), ("kind" : Str), ("budget" : Str), ("stack" : Str), ("told" : Str)] [("keep" : Str), ("asks" : Str), ("numbers" : Str)] (defScope s_call_hurl) := ⟨rfl, rfl, rfl, by decide +kernel, rfl, by decide +kernel, by decide +kernel⟩
theorem sc_call_end : FnScope [("keep" : Str), ("asks" : Str), ("numbers" : Str), ("stack" : Str), ("throws" : Str)] [("keep" : Str), ("asks" : Str), ("numbers" : Str)] (defScope s_call_end) := ⟨rfl, rfl, rfl, by decide +kernel, rfl, by decide +kernel, by decide +kernel⟩
theorem sc_call_on : FnScope [("keep" : Str), ("asks" : Str), ("numbers" : Str), ("budget" : Str)] [("keep" : Str), ("asks" : Str), ("numbers" : Str)] (defScope s_call_on) := ⟨rfl, rfl, rfl, by decide +kernel, rfl, by decide +kernel, by decide +kernel⟩
theorem sc_call_frames : FnScope [("keep" : Str), ("asks" : Str), ("numbers" : Str), ("stack" : Str)] [("keep" : Str), ("asks" : Str), ("numbers" : Str)] (defScope s_call_frames) := ⟨rfl, rfl, rfl, by decide +kernel, rfl, by decide +kernel, by decide +kernel⟩
theorem sc_call_acts : FnScope [("keep" : Str), ("asks" : Str), ("numbers" : Str), ("i" : Str), ("stack" : Str)] [("keep" : Str), ("asks" : Str), ("numbers" : Str)] (defScope s_call_acts) := ⟨rfl, rfl, rfl, by decide +kernel, rfl, by decide +kernel, by decide +kernel⟩
theorem sc_call_row : FnScope [("keep" : Str), ("asks" : Str), ("numbers" : Str)] [("keep" : Str), ("asks" : Str), ("numbers" : Str)] (defScope s_call_row) := ⟨rfl, rfl, rfl, by decide +kernel, rfl, by decide +kernel, by decide +kernel⟩
theorem sc_call_pieces : FnScope [("keep" : Str), ("asks" : Str), ("numbers" : Str), ("stack" : Str)] [("keep" : Str), ("asks" : Str), ("numbers" : Str)] (defScope s_call_pieces) := ⟨rfl, rfl, rfl, by decide +kernel, rfl, by decide +kernel, by decide +kernel⟩
theorem sc_call_causes : FnScope [("keep" : Str), ("asks" : Str), ("numbers" : Str)] [("keep" : Str), ("asks" : Str), ("numbers" : Str)] (defScope s_call_causes) := ⟨rfl, rfl, rfl, by decide +kernel, rfl, by decide +kernel, by decide +kernel⟩
theorem sc_in_range : FnScope [("number" : Str), ("most" : Str)] [("number" : Str), ("most" : Str)] (defScope s_in_range) := ⟨rfl, rfl, rfl, by decide +kernel, rfl, by decide +kernel, by decide +kernel⟩
theorem sc_run_steps : FnScope [("keep" : Str), ("asks" : Str), ("budget" : Str), ("step" : Str), ("told" : Str)] [("keep" : Str), ("asks" : Str), ("budget" : Str)] (defScope s_run_steps) := ⟨rfl, rfl, rfl, by decide +kernel, rfl, by decide +kernel, by decide +kernel⟩
theorem sc_how_many_numbers : FnScope [("call" : Str)] [("call" : Str)] (defScope s_how_many_numbers) := ⟨rfl, rfl, rfl, by decide +kernel, rfl, by decide +kernel, by decide +kernel⟩
theorem sc_do_call : FnScope [("keep" : Str), ("asks" : Str), ("call" : Str), ("numbers" : Str)] [("keep" : Str), ("asks" : Str), ("call" : Str), ("numbers" : Str)] (defScope s_do_call) := ⟨rfl, rfl, rfl, by decide +kernel, rfl, by decide +kernel, by decide +kernel⟩
theorem sc_answers : FnScope [("calls" : Str), ("keep" : Str), ("result" : Str), ("at" : Str), ("count_at" : Str), ("behind" : Str), ("asks" : Str), ("told" : Str)] [("calls" : Str)] (defScope s_answers) := ⟨rfl, rfl, rfl, by decide +kernel, rfl, by decide +kernel, by decide +kernel⟩
structure Ad where
  cl : Cl
  f : Df → Addr
  fd : Df → FuncData
  nm3 : Addr
  wants : Addr
  calls : Addr
  numb : Addr
structure Txt (P : Program) (w : World) (K : PySem.W.Frag) (mg : Str → Option Value) (A : Ad) : Prop where
  fn : ∀ d, Fun K d.nm d.ql d.stm (A.f d) (A.fd d)
  bi : ∀ d, Binds K (A.fd d) d.pars []
  g_throw_of_number : mg "throw_of_number" = some (.ref (A.f .d_throw_of_number))
  g_in_place_of : mg "in_place_of" = some (.ref (A.f .d_in_place_of))
  g_tell_frames : mg "tell_frames" = some (.ref (A.f .d_tell_frames))
  g_tell_acts : mg "tell_acts" = some (.ref (A.f .d_tell_acts))
  g_tell_row : mg "tell_row" = some (.ref (A.f .d_tell_row))
  g_tell_pieces : mg "tell_pieces" = some (.ref (A.f .d_tell_pieces))
  g_tell_causes : mg "tell_causes" = some (.ref (A.f .d_tell_causes))
  g_drop_act : mg "drop_act" = some (.ref (A.f .d_drop_act))
  g_throw_on : mg "throw_on" = some (.ref (A.f .d_throw_on))
  g_throw_through_frame : mg "throw_through_frame" = some (.ref (A.f .d_throw_through_frame))
  g_catches : mg "catches" = some (.ref (A.f .d_catches))
  g_end_stack : mg "end_stack" = some (.ref (A.f .d_end_stack))
  g_joined : mg "joined" = some (.ref (A.f .d_joined))
  g_refuse : mg "refuse" = some (.ref (A.f .d_refuse))
  g_go_on : mg "go_on" = some (.ref (A.f .d_go_on))
  g_want_return : mg "want_return" = some (.ref (A.f .d_want_return))
  g_want_call : mg "want_call" = some (.ref (A.f .d_want_call))
  g_want_throw : mg "want_throw" = some (.ref (A.f .d_want_throw))
  g_want_handler : mg "want_handler" = some (.ref (A.f .d_want_handler))
  g_want_last : mg "want_last" = some (.ref (A.f .d_want_last))
  g_add_act : mg "add_act" = some (.ref (A.f .d_add_act))
  g_want_drop_act : mg "want_drop_act" = some (.ref (A.f .d_want_drop_act))
  g_want_hand_out : mg "want_hand_out" = some (.ref (A.f .d_want_hand_out))
  g_want_new_stack : mg "want_new_stack" = some (.ref (A.f .d_want_new_stack))
  g_want_go_on_with : mg "want_go_on_with" = some (.ref (A.f .d_want_go_on_with))
  g_want_end : mg "want_end" = some (.ref (A.f .d_want_end))
  g_want_throw_again : mg "want_throw_again" = some (.ref (A.f .d_want_throw_again))
  g_want_set_word : mg "want_set_word" = some (.ref (A.f .d_want_set_word))
  g_want_tell_word : mg "want_tell_word" = some (.ref (A.f .d_want_tell_word))
  g_take_step : mg "take_step" = some (.ref (A.f .d_take_step))
  g_call_new : mg "call_new" = some (.ref (A.f .d_call_new))
  g_call_go : mg "call_go" = some (.ref (A.f .d_call_go))
  g_call_send : mg "call_send" = some (.ref (A.f .d_call_send))
  g_call_hurl : mg "call_hurl" = some (.ref (A.f .d_call_hurl))
  g_call_end : mg "call_end" = some (.ref (A.f .d_call_end))
  g_call_on : mg "call_on" = some (.ref (A.f .d_call_on))
  g_call_frames : mg "call_frames" = some (.ref (A.f .d_call_frames))
  g_call_acts : mg "call_acts" = some (.ref (A.f .d_call_acts))
  g_call_row : mg "call_row" = some (.ref (A.f .d_call_row))
  g_call_pieces : mg "call_pieces" = some (.ref (A.f .d_call_pieces))
  g_call_causes : mg "call_causes" = some (.ref (A.f .d_call_causes))
  g_in_range : mg "in_range" = some (.ref (A.f .d_in_range))
  g_run_steps : mg "run_steps" = some (.ref (A.f .d_run_steps))
  g_how_many_numbers : mg "how_many_numbers" = some (.ref (A.f .d_how_many_numbers))
  g_do_call : mg "do_call" = some (.ref (A.f .d_do_call))
  g_answers : mg "answers" = some (.ref (A.f .d_answers))
  c_frame : Cls K A.cl.frame
  g_Frame : mg "Frame" = some (.ref A.cl.frame)
  mk_frame : Mk K A.cl.frame (A.f .d_frame_init)
  m_frame_is_new : Meth K A.cl.frame "is_new" (A.f .d_frame_is_new)
  n_frame_function : NoAttr K A.cl.frame "function"
  n_frame_place : NoAttr K A.cl.frame "place"
  n_frame_words : NoAttr K A.cl.frame "words"
  n_frame_caught : NoAttr K A.cl.frame "caught"
  n_frame_acts : NoAttr K A.cl.frame "acts"
  c_stack : Cls K A.cl.stack
  g_Stack : mg "Stack" = some (.ref A.cl.stack)
  mk_stack : Mk K A.cl.stack (A.f .d_stack_init)
  m_stack_innermost : Meth K A.cl.stack "innermost" (A.f .d_stack_innermost)
  n_stack_number : NoAttr K A.cl.stack "number"
  n_stack_frames : NoAttr K A.cl.stack "frames"
  n_stack_pieces : NoAttr K A.cl.stack "pieces"
  n_stack_on : NoAttr K A.cl.stack "on"
  n_stack_waiter : NoAttr K A.cl.stack "waiter"
  c_throw : Cls K A.cl.throw
  g_Throw : mg "Throw" = some (.ref A.cl.throw)
  mk_throw : Mk K A.cl.throw (A.f .d_throw_init)
  n_throw_kind : NoAttr K A.cl.throw "kind"
  n_throw_value : NoAttr K A.cl.throw "value"
  n_throw_causes : NoAttr K A.cl.throw "causes"
  c_asks : Cls K A.cl.asks
  g_Asks : mg "Asks" = some (.ref A.cl.asks)
  mk_asks : Mk K A.cl.asks (A.f .d_asks_init)
  m_asks_ask : Meth K A.cl.asks "ask" (A.f .d_asks_ask)
  m_asks_run : Meth K A.cl.asks "run" (A.f .d_asks_run)
  m_asks_clean : Meth K A.cl.asks "clean" (A.f .d_asks_clean)
  n_asks_replies : NoAttr K A.cl.asks "replies"
  n_asks_asked : NoAttr K A.cl.asks "asked"
  n_asks_told : NoAttr K A.cl.asks "told"
  c_keep : Cls K A.cl.keep
  g_Keep : mg "Keep" = some (.ref A.cl.keep)
  mk_keep : Mk K A.cl.keep (A.f .d_keep_init)
  m_keep_make_empty : Meth K A.cl.keep "make_empty" (A.f .d_keep_make_empty)
  m_keep_is_stopped : Meth K A.cl.keep "is_stopped" (A.f .d_keep_is_stopped)
  m_keep_find_stack : Meth K A.cl.keep "find_stack" (A.f .d_keep_find_stack)
  m_keep_cut_stack : Meth K A.cl.keep "cut_stack" (A.f .d_keep_cut_stack)
  m_keep_add_stack : Meth K A.cl.keep "add_stack" (A.f .d_keep_add_stack)
  m_keep_add_frame : Meth K A.cl.keep "add_frame" (A.f .d_keep_add_frame)
  m_keep_drop_frame : Meth K A.cl.keep "drop_frame" (A.f .d_keep_drop_frame)
  m_keep_drop_stack : Meth K A.cl.keep "drop_stack" (A.f .d_keep_drop_stack)
  m_keep_put_on : Meth K A.cl.keep "put_on" (A.f .d_keep_put_on)
  m_keep_put_on_sending : Meth K A.cl.keep "put_on_sending" (A.f .d_keep_put_on_sending)
  m_keep_take_off : Meth K A.cl.keep "take_off" (A.f .d_keep_take_off)
  n_keep_stacks : NoAttr K A.cl.keep "stacks"
  n_keep_taken : NoAttr K A.cl.keep "taken"
  n_keep_running : NoAttr K A.cl.keep "running"
  n_keep_come : NoAttr K A.cl.keep "come"
  n_keep_uncaught : NoAttr K A.cl.keep "uncaught"
  e_stack : EqCls K A.cl.stack
  k_HANDLER : ∃ t, mg "HANDLER" = some (.int (0) t)
  k_LAST : ∃ t, mg "LAST" = some (.int (1) t)
  k_KINDS : ∃ t, mg "KINDS" = some (.int (256) t)
  k_EVERY_KIND : ∃ t, mg "EVERY_KIND" = some (.int (0) t)
  k_WORDS : ∃ t, mg "WORDS" = some (.int (4) t)
  k_CAUSES_MOST : ∃ t, mg "CAUSES_MOST" = some (.int (16) t)
  k_RUN : ∃ t, mg "RUN" = some (.int (0) t)
  k_CLEAN : ∃ t, mg "CLEAN" = some (.int (1) t)
  k_WHY_RETURN : ∃ t, mg "WHY_RETURN" = some (.int (0) t)
  k_WHY_THROW : ∃ t, mg "WHY_THROW" = some (.int (1) t)
  k_WHY_END : ∃ t, mg "WHY_END" = some (.int (2) t)
  k_STACKS_MOST : ∃ t, mg "STACKS_MOST" = some (.int (64) t)
  k_PIECES_MOST : ∃ t, mg "PIECES_MOST" = some (.int (256) t)
  k_PIECE_FRAMES : ∃ t, mg "PIECE_FRAMES" = some (.int (8) t)
  k_FIRST : ∃ t, mg "FIRST" = some (.int (0) t)
  k_SENT : ∃ t, mg "SENT" = some (.int (6) t)
  k_ON : ∃ t, mg "ON" = some (.int (1) t)
  k_CUT : ∃ t, mg "CUT" = some (.int (0) t)
  k_NOBODY : ∃ t, mg "NOBODY" = some (.int (-1) t)
  k_UNCAUGHT : ∃ t, mg "UNCAUGHT" = some (.int (1) t)
  k_CAUGHT : ∃ t, mg "CAUGHT" = some (.int (2) t)
  k_PLACE_MOST : ∃ t, mg "PLACE_MOST" = some (.int (4294967295) t)
  k_ACTS_MOST : ∃ t, mg "ACTS_MOST" = some (.int (32) t)
  k_FUNCTIONS : ∃ t, mg "FUNCTIONS" = some (.int (65536) t)
  g_NOTHING_MORE : mg "NOTHING_MORE" = some (.ref A.nm3)
  t_NOTHING_MORE : KT K A.nm3 [.int 0, .int 0, .int 0]
  k_CALLED : ∃ t, mg "CALLED" = some (.int (0) t)
  k_RETURNED : ∃ t, mg "RETURNED" = some (.int (1) t)
  k_WORD : ∃ t, mg "WORD" = some (.int (3) t)
  k_HANDED_OUT : ∃ t, mg "HANDED_OUT" = some (.int (4) t)
  k_STACK_RETURNED : ∃ t, mg "STACK_RETURNED" = some (.int (5) t)
  k_STACK_MADE : ∃ t, mg "STACK_MADE" = some (.int (7) t)
  k_REFUSED : ∃ t, mg "REFUSED" = some (.int (8) t)
  k_ENDS_RETURNED : ∃ t, mg "ENDS_RETURNED" = some (.int (0) t)
  k_ENDS_HANDED_OUT : ∃ t, mg "ENDS_HANDED_OUT" = some (.int (2) t)
  k_NO_WANT : ∃ t, mg "NO_WANT" = some (.int (15) t)
  g_WANTS : mg "WANTS" = some (.ref A.wants)
  t_WANTS : KT K A.wants [.ref (A.f .d_want_return), .ref (A.f .d_want_call), .ref (A.f .d_want_throw), .ref (A.f .d_want_handler), .ref (A.f .d_want_last), .ref (A.f .d_want_drop_act), .ref (A.f .d_want_hand_out), .ref (A.f .d_want_new_stack), .ref (A.f .d_want_go_on_with), .ref (A.f .d_want_end), .ref (A.f .d_want_throw_again), .ref (A.f .d_want_set_word), .ref (A.f .d_want_tell_word)]
  k_FUNCTION_MOST : ∃ t, mg "FUNCTION_MOST" = some (.int (65535) t)
  k_KIND_MOST : ∃ t, mg "KIND_MOST" = some (.int (255) t)
  k_BUDGET_MOST : ∃ t, mg "BUDGET_MOST" = some (.int (100000) t)
  k_STOPPED : ∃ t, mg "STOPPED" = some (.int (3) t)
  k_NO_SUCH_STACK : ∃ t, mg "NO_SUCH_STACK" = some (.int (-2) t)
  k_NOTHING_STOPPED : ∃ t, mg "NOTHING_STOPPED" = some (.int (-3) t)
  k_NO_SUCH_FRAME : ∃ t, mg "NO_SUCH_FRAME" = some (.int (-3) t)
  k_NOTHING_UNCAUGHT : ∃ t, mg "NOTHING_UNCAUGHT" = some (.int (-3) t)
  k_NO_ROOM : ∃ t, mg "NO_ROOM" = some (.int (-4) t)
  k_IS_STOPPED : ∃ t, mg "IS_STOPPED" = some (.int (-5) t)
  k_OUT_OF_RANGE : ∃ t, mg "OUT_OF_RANGE" = some (.int (-8) t)
  g_CALLS : mg "CALLS" = some (.ref A.calls)
  t_CALLS : KD P w K A.calls [(1, .ref (A.f .d_call_new)), (2, .ref (A.f .d_call_go)), (3, .ref (A.f .d_call_send)), (4, .ref (A.f .d_call_hurl)), (5, .ref (A.f .d_call_end)), (6, .ref (A.f .d_call_on)), (7, .ref (A.f .d_call_frames)), (8, .ref (A.f .d_call_acts)), (9, .ref (A.f .d_call_row)), (10, .ref (A.f .d_call_pieces)), (11, .ref (A.f .d_call_causes))]
  g_NUMBERS : mg "NUMBERS_AHEAD_OF_REPLIES" = some (.ref A.numb)
  t_NUMBERS : ∃ ts : List Tok, ts.length = 11 ∧ KD P w K A.numb ([(1, 0), (2, 3), (3, 3), (4, 4), (5, 1), (6, 1), (7, 1), (8, 2), (9, 0), (10, 1), (11, 0)].zip ts |>.map fun (p : (Int × Int) × Tok) => (p.1.1, Value.int p.1.2 p.2))
  b_len : mg "len" = none
  b_range : mg "range" = none
  b_min : mg "min" = none
  b_reversed : mg "reversed" = none
/-- a whole number of the module -/
theorem pe_ic {X : Cx} {x : Str} {z : Int} {pos : Pos} (h : ∃ t, X.mg x = some (.int z t)) (hg : Gl X x := by rfl) (hd : (x == ("__debug__" : Str)) = false := by decide) : PE X (.Name x pos) (tC (.int z)) := by
  obtain ⟨t, h⟩ := h
  exact pe_glob hg h ⟨t, rfl⟩ hd
end Th
namespace Th
open PySem PySem.Spec PyProof.Rows L2
abbrev Dom (G : Gh) (H : Hp) : Prop := ∀ a r, G a = some r → H a ≠ none
theorem Dom.free {G : Gh} {H : Hp} (d : Dom G H) {a : Addr} (h : H a = none) : G a = none := by
  cases e : G a with
  | none => rfl
  | some r => exact absurd h (d a r e)
theorem Dom.same {G : Gh} {H H' : Hp} (d : Dom G H) (s : Same H H') : Dom G H' := fun a r e => by
  cases q : H a with
  | none => exact absurd q (d a r e)
  | some o => rw [s a o q]; simp
theorem Same.stay {G : Gh} {H H' : Hp} (s : Same H H') : Stay G H G H' := fun a o e _ => ⟨s a o e, rfl⟩
theorem Same.new {H : Hp} {a : Addr} {o : HO} (h : H a = none) : Same H (upd H a o) := fun b u e => by
  rw [upd_ne (ne_of_none e h)]
  exact e
/-- only what belongs to the asks has changed -/
structure Oth (G : Gh) (H H' : Hp) : Prop where
  keep : ∀ b o, H b = some o → G b ≠ some .ak → G b ≠ some .td → H' b = some o
  there : ∀ b, H b ≠ none → H' b ≠ none
theorem Oth.same {G : Gh} {H H' : Hp} (s : Same H H') : Oth G H H' := ⟨fun b o e _ _ => s b o e, fun b e => by
  cases q : H b with
  | none => exact absurd q e
  | some o => rw [s b o q]; simp⟩
theorem Oth.trans {G : Gh} {H H1 H2 : Hp} (a : Oth G H H1) (b : Oth G H1 H2) : Oth G H H2 := ⟨fun c o e n m => b.keep c o (a.keep c o e n m) n m, fun c e => b.there c (a.there c e)⟩
theorem Oth.dom {G : Gh} {H H' : Hp} (h : Oth G H H') (d : Dom G H) : Dom G H' := fun a r e => h.there a (d a r e)
theorem Oth.stay {G : Gh} {H H' : Hp} (h : Oth G H H') : Stay G H G H' := fun a o e n => ⟨h.keep a o e (by rcases n with n | n <;> rw [n] <;> simp) (by rcases n with n | n <;> rw [n] <;> simp), rfl⟩
theorem kr_ne {G : Gh} {a : Addr} (n : G a = none ∨ ∃ r, G a = some r ∧ kr r = true) : G a ≠ some .ak ∧ G a ≠ some .td ∧ G a ≠ some .res := by
  rcases n with n | ⟨r, n, hr⟩
  · rw [n]
    simp
  · rw [n]
    refine ⟨fun z => ?_, fun z => ?_, fun z => ?_⟩ <;> (rw [Option.some.inj z] at hr; cases hr)
theorem Oth.rep {T : Cl} {K : PySem.W.Frag} {G : Gh} {L : Lay} {M : MS} {H H' : Hp} (h : Oth G H H') (R : Rep T K H G L M) : Rep T K H' G L M :=
  R.mono (fun a o e n => ⟨h.keep a o e (kr_ne n).1 (kr_ne n).2.1, rfl⟩) (h.dom R.dom)
/-- the asks of a call -/
def AskAt (T : Cl) (H : Hp) (G : Gh) (a : Addr) (S : AS) : Prop :=
  ∃ dx r t, H a = some (.ins T.asks dx (af r S.n t)) ∧ G a = some .ak ∧ Fx H G r (.lst (S.reps.map V.int)) ∧ H t = some (.lst (S.told.map V.int)) ∧ G t = some .td
theorem AskAt.mono {T : Cl} {H H' : Hp} {G G' : Gh} {a : Addr} {S : AS} (h : AskAt T H G a S) (k : ∀ b o, H b = some o → (G b = none ∨ G b = some .ak ∨ G b = some .td) → H' b = some o ∧ G' b = G b) : AskAt T H' G' a S := by
  obtain ⟨dx, r, t, h1, h2, h3, h4, h5⟩ := h
  obtain ⟨a1, a2⟩ := k _ _ h1 (.inr (.inl h2))
  obtain ⟨b1, b2⟩ := k _ _ h3.1 (.inl h3.2)
  obtain ⟨c1, c2⟩ := k _ _ h4 (.inr (.inr h5))
  exact ⟨dx, r, t, a1, a2.trans h2, ⟨b1, b2.trans h3.2⟩, c1, c2.trans h5⟩
theorem AskAt.same {T : Cl} {H H' : Hp} {G : Gh} {a : Addr} {S : AS} (h : AskAt T H G a S) (s : Same H H') : AskAt T H' G a S := h.mono fun b o e _ => ⟨s b o e, rfl⟩
def spFrameInit (T : Cl) : Sp := fun vs H Q _ => ∃ (p dx : Addr) (n : Nat), vs = [.ref p, .int (n : Int)] ∧ H p = some (.ins T.frame dx []) ∧
  ∀ (H' : Hp) (wd ac : Addr), H wd = none → H ac = none → H' p = some (.ins T.frame dx (ff n 0 wd .non ac)) → H' wd = some (.lst [.int 0, .int 0, .int 0, .int 0]) → H' ac = some (.lst []) → wd ≠ ac →
    (∀ b o, H b = some o → b ≠ p → H' b = some o) → Q .non H'
def spIsNew (T : Cl) : Sp := fun vs H Q _ => ∃ (p dx : Addr) (n m : Nat) (wd ac : Addr) (cg : V), vs = [.ref p] ∧ H p = some (.ins T.frame dx (ff n m wd cg ac)) ∧ Q (.bl (decide (m = 0))) H
def spStackInit (T : Cl) : Sp := fun vs H Q _ => ∃ (p dx : Addr) (n : Nat), vs = [.ref p, .int (n : Int)] ∧ H p = some (.ins T.stack dx []) ∧
  ∀ (H' : Hp) (fr pc : Addr), H fr = none → H pc = none → H' p = some (.ins T.stack dx (sf n fr pc false .non)) → H' fr = some (.lst []) → H' pc = some (.lst []) → fr ≠ pc →
    (∀ b o, H b = some o → b ≠ p → H' b = some o) → Q .non H'
def spInnermost (T : Cl) : Sp := fun vs H Q _ => ∃ (p dx : Addr) (k : Nat) (fr pc : Addr) (on : Bool) (wt v : V) (xs : List V), vs = [.ref p] ∧ H p = some (.ins T.stack dx (sf k fr pc on wt)) ∧ H fr = some (.lst (xs ++ [v])) ∧ Q v H
def spThrowInit (T : Cl) : Sp := fun vs H Q _ => ∃ (p dx ca : Addr) (k : Nat) (v : Int), vs = [.ref p, .int (k : Int), .int v, .ref ca] ∧ H p = some (.ins T.throw dx []) ∧
  ∀ H' : Hp, H' p = some (.ins T.throw dx (tf k v ca)) → (∀ b o, H b = some o → b ≠ p → H' b = some o) → Q .non H'
def spThrowOf (T : Cl) : Sp := fun vs H Q _ => ∃ (n : Nat) (G : Gh), vs = [.int (n : Int)] ∧ Dom G H ∧ ∀ (v : V) (H' : Hp), ThAt T H' G v (Md35.thrown n) → Same H H' → Q v H'
def spInPlace (T : Cl) : Sp := fun vs H Q _ => ∃ (u v : V) (old new : Md35.Throw) (G : Gh), vs = [u, v] ∧ Dom G H ∧ ThAt T H G u old ∧ ThAt T H G v new ∧ new.causes = [] ∧ ∀ (z : V) (H' : Hp), ThAt T H' G z (Md35.over new old) → Same H H' → Q z H'
section
variable {P : Program} {w : World} {K : PySem.W.Frag} {mg : Str → Option Value} {base : Heap} {A : Ad}
abbrev FO (P : Program) (w : World) (K : PySem.W.Frag) (mg : Str → Option Value) (base : Heap) (A : Ad) (d : Df) (n : Nat) (sp : Sp) : Prop := FnOk P w K mg base CX0 n (A.f d) (A.fd d) d.pars sp
theorem ok_frame_init (T : Txt P w K mg A) : FO P w K mg base A .d_frame_init 1 (spFrameInit A.cl) := by
  refine (T.fn .d_frame_init).ok sc_frame_init (fun vs H Q E h => ?_) (fun cdv Ar outer s H vs Q E hr h => ?_)
  · obtain ⟨p, dx, n, rfl, _⟩ := h
    rfl
  · obtain ⟨p, dx, n, rfl, hp, k⟩ := h
    refine ⟨_, pss_cons (ps_fld (pv 0) (pv 1) rfl) (pss_cons (ps_fld (pv 0) pe_int rfl) (pss_cons (ps_fld (pv 0) (pe_op op_rep (pe_lst (pa_cons pe_int pa_nil)) (pe_ic T.k_WORDS)) rfl) (pss_cons (ps_fld (pv 0) pe_non rfl) (pss_one (ps_fld (pv 0) (pe_lst pa_nil) rfl))))), ?_⟩
    refine ⟨_, rfl, _, rfl, p, _, dx, _, rfl, hp, T.c_frame, T.n_frame_function, (by show 0 < 1000; decide), ?_⟩
    refine ⟨_, rfl, p, _, dx, _, rfl, upd_same, T.c_frame, T.n_frame_place, (by show 1 < 1000; decide), ?_⟩
    rw [upd_upd]
    refine ⟨(by show 1 ≤ sizeLine; decide), fun l hl => ?_⟩
    refine ⟨l, 4, _, rfl, rfl, upd_same, by decide, by decide, (by show 1 * 4 ≤ sizeLine; decide), fun wd hwd => ?_⟩
    have npl : p ≠ l := ne_of_none upd_same hl
    have npw : p ≠ wd := ne_of_none (by rw [upd_ne npl]; exact upd_same) hwd
    have nlw : l ≠ wd := ne_of_none upd_same hwd
    refine ⟨_, rfl, p, _, dx, _, rfl, (by rw [upd_ne npw, upd_ne npl]; exact upd_same), T.c_frame, T.n_frame_words, (by show 2 < 1000; decide), ?_⟩
    refine ⟨_, rfl, p, _, dx, _, rfl, upd_same, T.c_frame, T.n_frame_caught, (by show 3 < 1000; decide), ?_⟩
    rw [upd_upd]
    refine ⟨(by show 0 ≤ sizeLine; decide), fun ac hac => ?_⟩
    have npc : p ≠ ac := ne_of_none upd_same hac
    have nlc : l ≠ ac := ne_of_none (by rw [upd_ne npl.symm, upd_ne nlw]; exact upd_same) hac
    have nwc : wd ≠ ac := ne_of_none (by rw [upd_ne npw.symm]; exact upd_same) hac
    refine ⟨_, rfl, p, _, dx, _, rfl, (by rw [upd_ne npc]; exact upd_same), T.c_frame, T.n_frame_acts, (by show 4 < 1000; decide), ?_⟩
    have wd0 : H wd = none := by
      rw [upd_ne nlw.symm, upd_ne npw.symm] at hwd
      exact hwd
    have ac0 : H ac = none := by
      rw [upd_ne npc.symm, upd_ne nwc.symm, upd_ne nlc.symm, upd_ne npc.symm] at hac
      exact hac
    have l0 : H l = none := by
      rw [upd_ne npl.symm] at hl
      exact hl
    refine k _ wd ac wd0 ac0 upd_same ?_ ?_ nwc fun b o e hb => ?_
    · rw [upd_ne npw.symm, upd_ne nwc, upd_ne npw.symm]
      exact upd_same
    · rw [upd_ne npc.symm]
      exact upd_same
    · rw [upd_ne hb, upd_ne (ne_of_none e ac0), upd_ne hb, upd_ne (ne_of_none e wd0), upd_ne (ne_of_none e l0), upd_ne hb]
      exact e
theorem dec_nat (m n : Nat) : decide (V.int (m : Int) = V.int (n : Int)) = decide (m = n) := by
  by_cases h : m = n
  · subst h
    rw [decide_eq_true rfl, decide_eq_true rfl]
  · rw [decide_eq_false h, decide_eq_false]
    intro e
    injection e with e
    exact h (by omega)
theorem ok_frame_is_new (T : Txt P w K mg A) : FO P w K mg base A .d_frame_is_new 1 (spIsNew A.cl) := by
  refine (T.fn .d_frame_is_new).ok sc_frame_is_new (fun vs H Q E h => ?_) (fun cdv Ar outer s H vs Q E hr h => ?_)
  · obtain ⟨p, dx, n, m, wd, ac, cg, rfl, _⟩ := h
    rfl
  · obtain ⟨p, dx, n, m, wd, ac, cg, rfl, hp, k⟩ := h
    refine ⟨_, pss_one (ps_ret (pe_cmpR op_eq (pe_fld (pv 0) rfl) pe_int (nomark _))), ?_⟩
    refine ⟨_, rfl, p, _, dx, _, _, rfl, hp, T.c_frame, T.n_frame_place, ff_place _ _ _ _ _, rfl, ?_⟩
    have e := dec_nat m 0
    show Q (V.bl (decide (V.int (m : Int) = V.int ((0 : Nat) : Int)))) H
    rw [e]
    exact k
theorem ok_stack_init (T : Txt P w K mg A) : FO P w K mg base A .d_stack_init 1 (spStackInit A.cl) := by
  refine (T.fn .d_stack_init).ok sc_stack_init (fun vs H Q E h => ?_) (fun cdv Ar outer s H vs Q E hr h => ?_)
  · obtain ⟨p, dx, n, rfl, _⟩ := h
    rfl
  · obtain ⟨p, dx, n, rfl, hp, k⟩ := h
    refine ⟨_, pss_cons (ps_fld (pv 0) (pv 1) rfl) (pss_cons (ps_fld (pv 0) (pe_lst pa_nil) rfl) (pss_cons (ps_fld (pv 0) (pe_lst pa_nil) rfl) (pss_cons (ps_fld (pv 0) pe_bl rfl) (pss_one (ps_fld (pv 0) pe_non rfl))))), ?_⟩
    refine ⟨_, rfl, _, rfl, p, _, dx, _, rfl, hp, T.c_stack, T.n_stack_number, (by show 0 < 1000; decide), ?_⟩
    refine ⟨(by show 0 ≤ sizeLine; decide), fun fr hfr => ?_⟩
    have npf : p ≠ fr := ne_of_none upd_same hfr
    refine ⟨_, rfl, p, _, dx, _, rfl, (by rw [upd_ne npf]; exact upd_same), T.c_stack, T.n_stack_frames, (by show 1 < 1000; decide), ?_⟩
    refine ⟨(by show 0 ≤ sizeLine; decide), fun pc hpc => ?_⟩
    have npp : p ≠ pc := ne_of_none upd_same hpc
    have nfp : fr ≠ pc := ne_of_none (by rw [upd_ne npf.symm]; exact upd_same) hpc
    refine ⟨_, rfl, p, _, dx, _, rfl, (by rw [upd_ne npp]; exact upd_same), T.c_stack, T.n_stack_pieces, (by show 2 < 1000; decide), ?_⟩
    refine ⟨_, rfl, p, _, dx, _, rfl, upd_same, T.c_stack, T.n_stack_on, (by show 3 < 1000; decide), ?_⟩
    rw [upd_upd]
    refine ⟨_, rfl, p, _, dx, _, rfl, upd_same, T.c_stack, T.n_stack_waiter, (by show 4 < 1000; decide), ?_⟩
    rw [upd_upd]
    have fr0 : H fr = none := by
      rw [upd_ne npf.symm] at hfr
      exact hfr
    have pc0 : H pc = none := by
      rw [upd_ne npp.symm, upd_ne nfp.symm, upd_ne npp.symm] at hpc
      exact hpc
    refine k _ fr pc fr0 pc0 upd_same ?_ ?_ nfp fun b o e hb => ?_
    · rw [upd_ne npf.symm, upd_ne nfp, upd_ne npf.symm]
      exact upd_same
    · rw [upd_ne npp.symm]
      exact upd_same
    · rw [upd_ne hb, upd_ne (ne_of_none e pc0), upd_ne hb, upd_ne (ne_of_none e fr0), upd_ne hb]
      exact e
theorem ok_stack_innermost (T : Txt P w K mg A) : FO P w K mg base A .d_stack_innermost 1 (spInnermost A.cl) := by
  refine (T.fn .d_stack_innermost).ok sc_stack_innermost (fun vs H Q E h => ?_) (fun cdv Ar outer s H vs Q E hr h => ?_)
  · obtain ⟨p, dx, k, fr, pc, on, wt, v, xs, rfl, _⟩ := h
    rfl
  · obtain ⟨p, dx, k, fr, pc, on, wt, v, xs, rfl, hp, hf, q⟩ := h
    refine ⟨_, pss_one (ps_ret (pe_ix ix_list (pe_fld (pv 0) rfl) (pe_un un_neg pe_int) (fun _ _ => rfl))), ?_⟩
    exact ⟨_, rfl, p, _, dx, _, _, rfl, hp, T.c_stack, T.n_stack_frames, sf_frames _ _ _ _ _, _, rfl, fr, _, _, _, rfl, rfl, SqL.of hf, atI_last xs v, q⟩
theorem ok_throw_init (T : Txt P w K mg A) : FO P w K mg base A .d_throw_init 1 (spThrowInit A.cl) := by
  refine (T.fn .d_throw_init).ok sc_throw_init (fun vs H Q E h => ?_) (fun cdv Ar outer s H vs Q E hr h => ?_)
  · obtain ⟨p, dx, ca, k, v, rfl, _⟩ := h
    rfl
  · obtain ⟨p, dx, ca, k, v, rfl, hp, q⟩ := h
    refine ⟨_, pss_cons (ps_fld (pv 0) (pv 1) rfl) (pss_cons (ps_fld (pv 0) (pv 2) rfl) (pss_one (ps_fld (pv 0) (pv 3) rfl))), ?_⟩
    refine ⟨_, rfl, _, rfl, p, _, dx, _, rfl, hp, T.c_throw, T.n_throw_kind, (by show 0 < 1000; decide), ?_⟩
    refine ⟨_, rfl, _, rfl, p, _, dx, _, rfl, upd_same, T.c_throw, T.n_throw_value, (by show 1 < 1000; decide), ?_⟩
    refine ⟨_, rfl, _, rfl, p, _, dx, _, rfl, upd_same, T.c_throw, T.n_throw_causes, (by show 2 < 1000; decide), ?_⟩
    rw [upd_upd, upd_upd]
    exact q _ upd_same fun b o e hb => by rw [upd_ne hb]; exact e
theorem ok_throw_of_number (T : Txt P w K mg A) : FO P w K mg base A .d_throw_of_number 4 (spThrowOf A.cl) := by
  have G0 : FO P w K mg base A .d_throw_init 1 (spThrowInit A.cl) := ok_throw_init T
  refine (T.fn .d_throw_of_number).ok sc_throw_of_number (fun vs H Q E h => ?_) (fun cdv Ar outer s H vs Q E hr h => ?_)
  · obtain ⟨n, G, rfl, _⟩ := h
    rfl
  · obtain ⟨n, G, rfl, dm, q⟩ := h
    refine ⟨_, pss_one (ps_ret (pe_make T.mk_throw G0 (hr.mono (by decide)) rfl T.g_Throw (T.bi .d_throw_init) .nil pass0 (pa_cons (pe_op op_mod (pv 0) (pe_ic T.k_KINDS)) (pa_cons (pe_op op_fdiv (pv 0) (pe_ic T.k_KINDS)) (pa_cons (pe_lst pa_nil) pa_nil))))), ?_⟩
    refine ⟨_, rfl, _, _, rfl, rfl, (by show (0 : Int) < 256; decide), _, rfl, _, _, rfl, rfl, ⟨by decide, by decide⟩, (by show 0 ≤ sizeLine; decide), fun ca hca => ?_⟩
    intro x dx nx ndx nex
    have ncx : ca ≠ x := ne_of_none upd_same nx
    have ncd : ca ≠ dx := ne_of_none upd_same ndx
    refine ⟨x, dx, ca, n % 256, ((n / 256 : Nat) : Int), rfl, upd_same, fun H' h1 h2 => ⟨rfl, ?_⟩⟩
    have s1 : Same (upd H ca (.lst [])) H' := Same.made nx ndx h2
    have s0 : Same H H' := (Same.new hca).trans s1
    have x0 : H x = none := by
      rw [upd_ne ncx.symm] at nx
      exact nx
    exact q (.ref x) H' ⟨x, dx, ca, [], rfl, ⟨h1, dm.free x0⟩, ⟨s1 _ _ upd_same, dm.free hca⟩, .nil, Nat.zero_le _⟩ s0
theorem Paired.take {α β : Type} {F : α → β → Prop} : ∀ (n : Nat) {l : List α} {r : List β}, Paired F l r → Paired F (l.take n) (r.take n)
  | 0, _, _, _ => .nil
  | _ + 1, _, _, .nil => .nil
  | n + 1, _, _, .cons a b => .cons a (Paired.take n b)
theorem cut_to (xs : List V) (n : Nat) : cutV xs none (some (n : Int)) = xs.take n := by
  unfold cutV
  rw [HT.sIx_none, HT.sIx_nat, List.drop_zero, Nat.sub_zero, List.take_eq_take_iff]
  omega
theorem big16 {n : Nat} (h : n ≤ 1000001) : n ≤ sizeLine := by
  have := sizeLine_eq
  omega
theorem ok_in_place_of (T : Txt P w K mg A) : FO P w K mg base A .d_in_place_of 4 (spInPlace A.cl) := by
  have G0 : FO P w K mg base A .d_throw_init 1 (spThrowInit A.cl) := ok_throw_init T
  refine (T.fn .d_in_place_of).ok sc_in_place_of (fun vs H Q E h => ?_) (fun cdv Ar outer s H vs Q E hr h => ?_)
  · obtain ⟨u, v, old, new, G, rfl, _⟩ := h
    rfl
  · obtain ⟨u, v, old, new, G, rfl, dm, ⟨oa, odx, oc, ocs, rfl, ho, hoc, hocs, hol⟩, ⟨na, ndx', nc, ncs, rfl, hn, hnc, hncs, hnl⟩, hnil, q⟩ := h
    refine ⟨_, pss_cons (ps_set (i := 2) sc_in_place_of.nd rfl (Or.inl rfl) (pe_op op_cat (pe_lst (pa_cons (pe_tup (pa_cons (pe_fld (pv 0) rfl) (pa_cons (pe_fld (pv 0) rfl) pa_nil))) pa_nil)) (pe_fld (pv 0) rfl)))
      (pss_one (ps_ret (pe_make T.mk_throw G0 (hr.mono (by decide)) rfl T.g_Throw (T.bi .d_throw_init) .nil pass0 (pa_cons (pe_fld (pv 1) rfl) (pa_cons (pe_fld (pv 1) rfl) (pa_cons (pe_slice sl_list (pv 2) po_none (po_some (pe_ic T.k_CAUSES_MOST))) pa_nil)))))), ?_⟩
    refine ⟨_, rfl, oa, _, odx, _, _, rfl, ho.1, T.c_throw, T.n_throw_kind, tf_kind _ _ _, _, rfl, oa, _, odx, _, _, rfl, ho.1, T.c_throw, T.n_throw_value, tf_value _ _ _, (by show 2 ≤ sizeLine; decide), fun tp htp => ?_⟩
    have s1 : Same H (upd H tp (.tup [.int (old.kind : Int), .int old.value])) := Same.new htp
    refine ⟨(by show 1 ≤ sizeLine; decide), fun l hl => ?_⟩
    have s2 : Same H (upd (upd H tp (.tup [.int (old.kind : Int), .int old.value])) l (.lst [.ref tp])) := s1.trans (Same.new hl)
    have hoc2 := s2 _ _ hoc.1
    have hlen := Paired.length hocs
    refine ⟨_, rfl, oa, _, odx, _, _, rfl, s2 _ _ ho.1, T.c_throw, T.n_throw_causes, tf_causes _ _ _, l, oc, _, _, rfl, rfl, upd_same, hoc2, big16 (by simp; omega), fun cz hcz => ?_⟩
    have s3 := s2.trans (Same.new (o := .lst ([.ref tp] ++ ocs.map V.ref)) hcz)
    have hn3 := s3 _ _ hn.1
    refine ⟨_, rfl, na, _, ndx', _, _, rfl, hn3, T.c_throw, T.n_throw_kind, tf_kind _ _ _, _, rfl, na, _, ndx', _, _, rfl, hn3, T.c_throw, T.n_throw_value, tf_value _ _ _, _, rfl, _, rfl, cz, _, rfl, SqL.of upd_same, fun ca hca => ?_⟩
    have s4 := s3.trans (Same.new (o := .lst (cutV ([.ref tp] ++ ocs.map V.ref) none (some 16))) hca)
    intro x dx nx ndx nex
    refine ⟨x, dx, ca, new.kind, new.value, rfl, upd_same, fun H' h1 h2 => ⟨rfl, ?_⟩⟩
    have s5 := Same.made nx ndx h2
    have s6 := s4.trans s5
    have e1 : cutV ([.ref tp] ++ ocs.map V.ref) none (some 16) = (((tp :: ocs).take 16).map V.ref) := by
      have := cut_to ([.ref tp] ++ ocs.map V.ref) 16
      rw [List.map_take]
      exact this
    refine q (.ref x) H' ⟨x, dx, ca, (tp :: ocs).take 16, rfl, ⟨h1, dm.free (s4.free nx)⟩, ⟨?_, dm.free (s3.free hca)⟩, ?_, ?_⟩ s6
    · rw [← e1]
      exact s5 _ _ upd_same
    · have c1 : Causes H' G (tp :: ocs) ((old.kind, old.value) :: old.causes) :=
        .cons ⟨s5 _ _ ((Same.new hca) _ _ ((Same.new hcz) _ _ ((Same.new hl) _ _ upd_same))), dm.free htp⟩ (hocs.stay (Same.stay s6))
      have e2 : (Md35.over new old).causes = ((old.kind, old.value) :: old.causes).take 16 := by
        show (new.causes ++ ((old.kind, old.value) :: old.causes)).take Md35.CAUSES = _
        rw [hnil]
        rfl
      rw [e2]
      exact Paired.take 16 c1
    · show ((new.causes ++ ((old.kind, old.value) :: old.causes)).take Md35.CAUSES).length ≤ 16
      rw [List.length_take]
      exact Nat.min_le_left _ _
def spAsksInit (T : Cl) : Sp := fun vs H Q _ => ∃ (p dx r : Addr) , vs = [.ref p, .ref r] ∧ H p = some (.ins T.asks dx []) ∧
  ∀ (H' : Hp) (t : Addr), H t = none → H' p = some (.ins T.asks dx (af r 0 t)) → H' t = some (.lst []) → (∀ b o, H b = some o → b ≠ p → H' b = some o) → Q .non H'
def spAsk (T : Cl) (K : PySem.W.Frag) : Sp := fun vs H Q _ => ∃ (a nt : Addr) (S : AS) (xs : List Int) (G : Gh), vs = [.ref a, .ref nt] ∧ Dom G H ∧ AskAt T H G a S ∧ SqT K H nt (xs.map V.int) ∧ S.told.length + xs.length ≤ 1000000 ∧ S.n < 1000000 ∧
  ∀ H' : Hp, AskAt T H' G a ⟨S.reps, S.n + 1, S.told ++ xs⟩ → Oth G H H' → Q (.int S.ans) H'
def spRun (T : Cl) (K : PySem.W.Frag) : Sp := fun vs H Q _ => ∃ (a p c dx : Addr) (S : AS) (fn pl : Nat) (wd ac : Addr) (cg : V) (cm : Md35.Came) (G : Gh), vs = [.ref a, .ref p, .ref c] ∧ Dom G H ∧ AskAt T H G a S ∧
  H p = some (.ins T.frame dx (ff fn pl wd cg ac)) ∧ SqT K H c (cameV cm) ∧ S.told.length + 6 ≤ 1000000 ∧ S.n < 1000000 ∧
  ∀ H' : Hp, AskAt T H' G a (S.add (.run fn pl cm.why cm.value cm.more)) → Oth G H H' → Q (.int S.ans) H'
def spClean (T : Cl) (K : PySem.W.Frag) : Sp := fun vs H Q _ => ∃ (a : Addr) (S : AS) (g : Nat) (wy : Int) (G : Gh), vs = [.ref a, .int (g : Int), .int wy] ∧ Dom G H ∧ AskAt T H G a S ∧ S.told.length + 6 ≤ 1000000 ∧ S.n < 1000000 ∧
  ∀ (v : V) (H' : Hp), AskAt T H' G a (S.add (.clean g wy)) → ThO T H' G v (if 0 < S.ans then some (Md35.thrown S.ans.toNat) else none) → Oth G H H' → Q v H'
end
end Th
namespace Th
open PySem PySem.Spec PyProof.Rows L2
section
variable {P : Program} {w : World} {K : PySem.W.Frag} {mg : Str → Option Value} {base : Heap} {A : Ad}
theorem ok_asks_init (T : Txt P w K mg A) : FO P w K mg base A .d_asks_init 1 (spAsksInit A.cl) := by
  refine (T.fn .d_asks_init).ok sc_asks_init (fun vs H Q E h => ?_) (fun cdv Ar outer s H vs Q E hr h => ?_)
  · obtain ⟨p, dx, r, rfl, _⟩ := h
    rfl
  · obtain ⟨p, dx, r, rfl, hp, q⟩ := h
    refine ⟨_, pss_cons (ps_fld (pv 0) (pv 1) rfl) (pss_cons (ps_fld (pv 0) pe_int rfl) (pss_one (ps_fld (pv 0) (pe_lst pa_nil) rfl))), ?_⟩
    refine ⟨_, rfl, _, rfl, p, _, dx, _, rfl, hp, T.c_asks, T.n_asks_replies, (by show 0 < 1000; decide), ?_⟩
    refine ⟨_, rfl, p, _, dx, _, rfl, upd_same, T.c_asks, T.n_asks_asked, (by show 1 < 1000; decide), ?_⟩
    rw [upd_upd]
    refine ⟨(by show 0 ≤ sizeLine; decide), fun t ht => ?_⟩
    have npt : p ≠ t := ne_of_none upd_same ht
    refine ⟨_, rfl, p, _, dx, _, rfl, (by rw [upd_ne npt]; exact upd_same), T.c_asks, T.n_asks_told, (by show 2 < 1000; decide), ?_⟩
    have t0 : H t = none := by
      rw [upd_ne npt.symm] at ht
      exact ht
    refine q _ t t0 upd_same (by rw [upd_ne npt.symm]; exact upd_same) fun b o e hb => ?_
    rw [upd_ne hb, upd_ne (ne_of_none e t0), upd_ne hb]
    exact e
theorem ans_at {S : AS} : S.ans = S.reps.getD S.n 0 := by
  show (S.reps.drop S.n).headD 0 = S.reps.getD S.n 0
  rw [List.headD_eq_head?_getD, List.head?_drop]
  rfl
theorem ok_asks_ask (T : Txt P w K mg A) : FO P w K mg base A .d_asks_ask 2 (spAsk A.cl K) := by
  refine (T.fn .d_asks_ask).ok sc_asks_ask (fun vs H Q E h => ?_) (fun cdv Ar outer s H vs Q E hr h => ?_)
  · obtain ⟨a, nt, S, xs, G, rfl, _⟩ := h
    rfl
  · obtain ⟨a, nt, S, xs, G, rfl, dm, ⟨dx, r, t, ha, ga, hrp, ht, gt⟩, hnt, hlen, hn, q⟩ := h
    refine ⟨_, pss_cons (ps_expr (pe_bm PySem.F.plainAttrs_list PySem.F.slot_list_extend PySem.F.type_list_extend mt_extendT (pe_fld (pv 0) rfl) (pa_cons (pv 1) pa_nil)))
      (pss_cons (ps_set (i := 2) sc_asks_ask.nd rfl (Or.inl rfl) (pe_fld (pv 0) rfl))
      (pss_cons (ps_fld (pv 0) (pe_op op_add (pv 2) pe_int) rfl)
      (pss_one (ps_ret (pe_ifExp (pt_cmpR op_lt (pv 2) (pe_callB call_len_seq (by rfl) T.b_len PySem.boot_len (pa_cons (pe_fld (pv 0) rfl) pa_nil)) (nomark _)) (pe_ix ix_list (pe_fld (pv 0) rfl) (pv 2) (fun _ _ => rfl)) pe_int))))), ?_⟩
    have nat : a ≠ t := fun e => by rw [e, gt] at ga; cases ga
    have nar : a ≠ r := fun e => by rw [e, hrp.2] at ga; cases ga
    have ntr : t ≠ r := fun e => by rw [e, hrp.2] at gt; cases gt
    refine ⟨_, rfl, a, _, dx, _, _, rfl, ha, T.c_asks, T.n_asks_told, af_told _ _ _, .inl ⟨rfl, _, SqL.of ht⟩, _, rfl, t, nt, _, _, rfl, rfl, ht, hnt, big16 (by simp; omega), ?_⟩
    have ha1 : upd H t (.lst (S.told.map V.int ++ xs.map V.int)) a = some (.ins A.cl.asks dx (af r S.n t)) := by rw [upd_ne nat]; exact ha
    refine ⟨_, rfl, a, _, dx, _, _, rfl, ha1, T.c_asks, T.n_asks_asked, af_asked _ _ _, ?_⟩
    refine ⟨_, rfl, _, _, rfl, rfl, _, rfl, a, _, dx, _, rfl, ha1, T.c_asks, T.n_asks_asked, (by show 3 < 1000; decide), ?_⟩
    have e1 : putF "asked" (V.int ((S.n : Int) + 1)) (af r S.n t) = af r (S.n + 1) t := af_pasked r t S.n (S.n + 1)
    have hr2 : upd (upd H t (.lst (S.told.map V.int ++ xs.map V.int))) a (.ins A.cl.asks dx (putF "asked" (V.int ((S.n : Int) + 1)) (af r S.n t))) r = some (.lst (S.reps.map V.int)) := by
      rw [upd_ne nar.symm, upd_ne ntr.symm]
      exact hrp.1
    have fin : ∀ z : Int, z = S.ans → Q (.int z) (upd (upd H t (.lst (S.told.map V.int ++ xs.map V.int))) a (.ins A.cl.asks dx (putF "asked" (V.int ((S.n : Int) + 1)) (af r S.n t)))) := by
      intro z ez
      subst ez
      refine q _ ⟨dx, r, t, by rw [← e1]; exact upd_same, ga, ⟨hr2, hrp.2⟩, ?_, gt⟩ ⟨fun b o e n m => ?_, fun b e => ?_⟩
      · rw [upd_ne nat.symm, upd_same, List.map_append]
      · rw [upd_ne (fun z => by subst z; exact n ga), upd_ne (fun z => by subst z; exact m gt)]
        exact e
      · unfold upd
        split
        · simp
        · split
          · simp
          · exact e
    refine ⟨_, rfl, _, rfl, a, _, dx, _, _, rfl, upd_same, T.c_asks, T.n_asks_replies, (by rw [e1]; exact af_replies _ _ _), r, _, rfl, .inl (SqL.of hr2), _, _, rfl, rfl, _, rfl, ite2 (fun c => ?_) (fun c => ?_)⟩
    · have c' := of_decide_eq_true c
      rw [List.length_map] at c'
      have hlt : S.n < S.reps.length := by omega
      refine ⟨_, rfl, a, _, dx, _, _, rfl, upd_same, T.c_asks, T.n_asks_replies, (by rw [e1]; exact af_replies _ _ _), _, rfl, r, _, _, V.int S.reps[S.n], rfl, rfl, SqL.of hr2, at_of (j := S.n) rfl (by rw [List.getElem?_map, List.getElem?_eq_getElem hlt]; rfl), ?_⟩
      refine fin _ ?_
      rw [ans_at, List.getD_eq_getElem?_getD, List.getElem?_eq_getElem hlt]
      rfl
    · refine fin _ ?_
      have hge : S.reps.length ≤ S.n := by
        have c' : ¬ ((S.n : Int) < ((S.reps.map V.int).length : Int)) := fun z => c (decide_eq_true z)
        rw [List.length_map] at c'
        omega
      rw [ans_at, List.getD_eq_getElem?_getD, List.getElem?_eq_none hge]
      rfl
theorem ok_asks_run (T : Txt P w K mg A) : FO P w K mg base A .d_asks_run 3 (spRun A.cl K) := by
  have G0 : FO P w K mg base A .d_asks_ask 2 (spAsk A.cl K) := ok_asks_ask T
  refine (T.fn .d_asks_run).ok sc_asks_run (fun vs H Q E h => ?_) (fun cdv Ar outer s H vs Q E hr h => ?_)
  · obtain ⟨a, p, c, dx, S, fn, pl, wd, ac, cg, cm, G, rfl, _⟩ := h
    rfl
  · obtain ⟨a, p, c, dx, S, fn, pl, wd, ac, cg, cm, G, rfl, dm, ask, hp, hc, hlen, hn, q⟩ := h
    obtain ⟨adx, r, t, ha, ga, hrp, ht, gt⟩ := id ask
    refine ⟨_, pss_one (ps_ret (pe_meth (pv 0) T.c_asks T.m_asks_ask G0 hr (T.bi .d_asks_ask) .nil pass0 (pa_cons (pe_op op_catT (pe_tup (pa_cons (pe_ic T.k_RUN) (pa_cons (pe_fld (pv 1) rfl) (pa_cons (pe_fld (pv 1) rfl) pa_nil)))) (pv 2)) pa_nil))), ?_⟩
    refine ⟨_, rfl, a, adx, _, rfl, ha, (by kernel_rfl), _, rfl, p, _, dx, _, _, rfl, hp, T.c_frame, T.n_frame_function, ff_function _ _ _ _ _, _, rfl, p, _, dx, _, _, rfl, hp, T.c_frame, T.n_frame_place, ff_place _ _ _ _ _, (by show 3 ≤ sizeLine; decide), fun tp htp => ?_⟩
    have s1 := Same.new (o := .tup [.int 0, .int (fn : Int), .int (pl : Int)]) htp
    have hc1 : SqT K (upd H tp (.tup [.int 0, .int (fn : Int), .int (pl : Int)])) c (cameV cm) := by
      rcases hc with (z | ⟨o, z⟩) | z
      · exact .inl (.inl (s1 _ _ z))
      · exact .inl (.inr ⟨o, s1 _ _ z⟩)
      · exact .inr z
    refine ⟨_, rfl, tp, c, _, _, rfl, rfl, SqT.of upd_same, hc1, (by simp), (by show 6 ≤ sizeLine; decide), fun z => absurd z (by unfold cameV; simp), fun _ nt hnt => ?_⟩
    have s2 := s1.trans (Same.new (o := .tup ([.int 0, .int (fn : Int), .int (pl : Int)] ++ cameV cm)) hnt)
    exact ⟨a, nt, S, [0, (fn : Int), (pl : Int), cm.why, cm.value, cm.more], G, rfl, dm.same s2, ask.same s2, SqT.of upd_same, hlen, hn, fun H' h1 h2 => q H' h1 ((Oth.same s2).trans h2)⟩
theorem ok_asks_clean (T : Txt P w K mg A) : FO P w K mg base A .d_asks_clean 5 (spClean A.cl K) := by
  have G0 : FO P w K mg base A .d_asks_ask 2 (spAsk A.cl K) := ok_asks_ask T
  have G1 : FO P w K mg base A .d_throw_of_number 4 (spThrowOf A.cl) := ok_throw_of_number T
  refine (T.fn .d_asks_clean).ok sc_asks_clean (fun vs H Q E h => ?_) (fun cdv Ar outer s H vs Q E hr h => ?_)
  · obtain ⟨a, S, g, wy, G, rfl, _⟩ := h
    rfl
  · obtain ⟨a, S, g, wy, G, rfl, dm, ask, hlen, hn, q⟩ := h
    obtain ⟨adx, r, t, ha, ga, hrp, ht, gt⟩ := id ask
    refine ⟨_, pss_cons (ps_set (i := 3) sc_asks_clean.nd rfl (Or.inl rfl) (pe_meth (pv 0) T.c_asks T.m_asks_ask G0 (hr.mono (by decide)) (T.bi .d_asks_ask) .nil pass0 (pa_cons (pe_tup (pa_cons (pe_ic T.k_CLEAN) (pa_cons (pv 1) (pa_cons (pv 2) (pa_cons pe_int (pa_cons pe_int (pa_cons pe_int pa_nil))))))) pa_nil)))
      (pss_one (ps_ret (pe_ifExp (pt_cmpR op_gt (pv 3) pe_int (nomark _)) (pe_call G1 hr rfl T.g_throw_of_number (T.fn .d_throw_of_number).kp (T.bi .d_throw_of_number) .nil pass0 (pa_cons (pv 3) pa_nil)) pe_non))), ?_⟩
    refine ⟨_, rfl, a, adx, _, rfl, ha, (by kernel_rfl), _, rfl, _, rfl, (by show 6 ≤ sizeLine; decide), fun tp htp => ?_⟩
    have s1 := Same.new (o := .tup [.int 1, .int (g : Int), .int wy, .int 0, .int 0, .int 0]) htp
    refine ⟨a, tp, S, [1, (g : Int), wy, 0, 0, 0], G, rfl, dm.same s1, ask.same s1, SqT.of upd_same, hlen, hn, fun H' h1 h2 => ?_⟩
    have h3 := (Oth.same s1).trans h2
    refine ⟨_, rfl, _, _, rfl, rfl, _, rfl, ite2 (fun c => ?_) (fun c => ?_)⟩
    · have c' : 0 < S.ans := of_decide_eq_true c
      refine ⟨_, rfl, S.ans.toNat, G, (by show [V.int S.ans] = [V.int (S.ans.toNat : Int)]; rw [Int.toNat_of_nonneg (by omega)]), h3.dom dm, fun v H2 h4 h5 => ?_⟩
      refine q v H2 (AskAt.same h1 h5) ?_ (h3.trans (Oth.same h5))
      rw [if_pos c']
      exact h4
    · have c' : ¬ 0 < S.ans := fun z => c (decide_eq_true z)
      refine q .non H' h1 ?_ h3
      rw [if_neg c']
      rfl
end
end Th
namespace Th
open PySem PySem.Spec PyProof.Rows L2
structure Lay.Kpt (L L' : Lay) : Prop where
  kp : L'.kp = L.kp
  cm : L'.cm = L.cm
  un : L'.un = L.un
theorem Lay.Kpt.trans {L L1 L2 : Lay} (a : L.Kpt L1) (b : L1.Kpt L2) : L.Kpt L2 := ⟨b.kp.trans a.kp, b.cm.trans a.cm, b.un.trans a.un⟩
def stA (M : MS) (z : Int) : Option Md35.Stack := if z < 0 then none else M.S z.toNat
def spIsStopped (T : Cl) (K : PySem.W.Frag) : Sp := fun vs H Q _ => ∃ (G : Gh) (L : Lay) (M : MS), vs = [.ref L.kp] ∧ Rep T K H G L M ∧ Q (.bl (!M.row.isEmpty)) H
def spFind (T : Cl) (K : PySem.W.Frag) : Sp := fun vs H Q _ => ∃ (z : Int) (G : Gh) (L : Lay) (M : MS), vs = [.ref L.kp, .int z] ∧ Rep T K H G L M ∧ MW M ∧
  (stA M z = none → Q .non H) ∧ (∀ x, stA M z = some x → Q (.ref (L.st z.toNat)) H)
def spCut (T : Cl) (K : PySem.W.Frag) : Sp := fun vs H Q _ => ∃ (z : Int) (G : Gh) (L : Lay) (M : MS), vs = [.ref L.kp, .int z] ∧ Rep T K H G L M ∧ MW M ∧
  (stA M z = none → Q .non H) ∧ (∀ x, stA M z = some x → M.row.contains z.toNat = true → Q .non H) ∧ (∀ x, stA M z = some x → M.row.contains z.toNat = false → Q (.ref (L.st z.toNat)) H)
def spMakeEmpty (T : Cl) : Sp := fun vs H Q _ => ∃ (p dx : Addr) (fs : List (Str × V)), vs = [.ref p] ∧ H p = some (.ins T.keep dx fs) ∧ (fs = [] ∨ ∃ sl tl rn c u, fs = kf sl tl rn c u) ∧
  ∀ (H' : Hp) (sl tl c : Addr), H sl = none → H tl = none → H c = none → sl ≠ tl → H' p = some (.ins T.keep dx (kf sl tl .non c .non)) → H' sl = some (.lst (List.replicate 64 .non)) → H' tl = some (.lst (List.replicate 256 (.bl false))) →
    H' c = some (.tup [.int 0, .int 0, .int 0]) → (∀ b o, H b = some o → b ≠ p → H' b = some o) → Q .non H'
def spPutOn (T : Cl) (K : PySem.W.Frag) : Sp := fun vs H Q _ => ∃ (k : Nat) (x : Md35.Stack) (G : Gh) (L : Lay) (M : MS), vs = [.ref L.kp, .ref (L.st k)] ∧ Rep T K H G L M ∧ M.S k = some x ∧
  ∀ H' : Hp, Rep T K H' G L { M with row := k :: M.row } → Kst G H G H' → Q .non H'
def spPutOnSending (T : Cl) (K : PySem.W.Frag) : Sp := fun vs H Q _ => ∃ (k : Nat) (z : Int) (x : Md35.Stack) (f : Md35.Frame) (fs : List Md35.Frame) (G : Gh) (L : Lay) (M : MS), vs = [.ref L.kp, .ref (L.st k), .int z] ∧ Rep T K H G L M ∧ M.S k = some x ∧ x.frames = f :: fs ∧
  ∀ (H' : Hp) (c : Addr), Rep T K H' G { L with cm := c } { M with row := k :: M.row } → Fx H' G c (.tup [.int (if f.place = 0 then 0 else 6), .int z, .int 0]) → Kst G H G H' → Q .non H'
def spTakeOff (T : Cl) (K : PySem.W.Frag) : Sp := fun vs H Q _ => ∃ (r : Nat) (rest : List Nat) (G : Gh) (L : Lay) (M : MS), vs = [.ref L.kp] ∧ Rep T K H G L M ∧ M.row = r :: rest ∧ r ∉ rest ∧
  ∀ H' : Hp, Rep T K H' G L { M with row := rest } → Kst G H G H' → (∃ d, H' (L.st r) = some (.ins T.stack d (sf r (L.fr r) (L.pc r) false .non))) → Q .non H'
def spDropFrame (T : Cl) (K : PySem.W.Frag) : Sp := fun vs H Q _ => ∃ (k : Nat) (x : Md35.Stack) (f : Md35.Frame) (fs : List Md35.Frame) (G : Gh) (L : Lay) (M : MS), vs = [.ref L.kp, .ref (L.st k)] ∧ Rep T K H G L M ∧ MW M ∧ M.S k = some x ∧ x.frames = f :: fs ∧
  ∀ H' : Hp, Rep T K H' G L (M.up k (some x.pop)) → Kst G H G H' → Q .non H'
def spDropStack (T : Cl) (K : PySem.W.Frag) : Sp := fun vs H Q _ => ∃ (k : Nat) (x : Md35.Stack) (G : Gh) (L : Lay) (M : MS), vs = [.ref L.kp, .ref (L.st k)] ∧ Rep T K H G L M ∧ MW M ∧ M.S k = some x ∧
  ∀ H' : Hp, Rep T K H' G L (M.up k none) → Kst G H G H' → Q .non H'
def spAddFrame (T : Cl) (K : PySem.W.Frag) : Sp := fun vs H Q _ => ∃ (k fn : Nat) (x : Md35.Stack) (G : Gh) (L : Lay) (M : MS), vs = [.ref L.kp, .ref (L.st k), .int (fn : Int)] ∧ Rep T K H G L M ∧ MW M ∧ M.S k = some x ∧
  (x.frames.length < 8 * x.pieces.length → ∀ (H' : Hp) (G' : Gh) (L' : Lay), Rep T K H' G' L' (M.up k (some { x with frames := { fn := fn } :: x.frames })) → Kst G H G' H' → L.Kpt L' → L'.st = L.st → Q (.bl true) H') ∧
  (¬ x.frames.length < 8 * x.pieces.length → (∀ q, q < 256 → tk M q = true) → Q (.bl false) H) ∧
  (¬ x.frames.length < 8 * x.pieces.length → ∀ p, p < 256 → tk M p = false → (∀ q, q < p → tk M q = true) → ∀ (H' : Hp) (G' : Gh) (L' : Lay), Rep T K H' G' L' (M.up k (some { x with frames := { fn := fn } :: x.frames, pieces := x.pieces ++ [p] })) → Kst G H G' H' → L.Kpt L' → L'.st = L.st → Q (.bl true) H')
def spAddStack (T : Cl) (K : PySem.W.Frag) : Sp := fun vs H Q _ => ∃ (fn : Nat) (G : Gh) (L : Lay) (M : MS), vs = [.ref L.kp, .int (fn : Int)] ∧ Rep T K H G L M ∧ MW M ∧ (∀ r ∈ M.row, (M.S r).isSome = true) ∧
  ((∀ j, j < 64 → (M.S j).isSome = true) → Q .non H) ∧ ((∀ q, q < 256 → tk M q = true) → Q .non H) ∧
  (∀ k p, k < 64 → M.S k = none → (∀ j, j < k → (M.S j).isSome = true) → p < 256 → tk M p = false → (∀ q, q < p → tk M q = true) → ∀ (H' : Hp) (G' : Gh) (L' : Lay),
    (∀ cm, Rep T K H' G' L' (M.up k (some ⟨k, [{ fn := fn }], [p], cm⟩))) → Kst G H G' H' → L.Kpt L' → Q (.ref (L'.st k)) H')
theorem Paired.get {α β : Type} {F : α → β → Prop} : ∀ {l : List α} {r : List β} {i : Nat} {a : α}, Paired F l r → l[i]? = some a → ∃ b, r[i]? = some b ∧ F a b
  | _, _, 0, _, .cons h t, e => by
    cases e
    exact ⟨_, rfl, h⟩
  | _, _, i + 1, _, .cons h t, e => Paired.get (i := i) t e
theorem stksV_get {L : Lay} {M : MS} {k : Nat} (h : k < 64) : (stksV L M)[k]? = some (if (M.S k).isSome = true then V.ref (L.st k) else .non) := by
  unfold stksV
  rw [List.getElem?_map, List.getElem?_range h]
  rfl
theorem takenV_get {M : MS} {p : Nat} (h : p < 256) : (takenV M)[p]? = some (.bl (tk M p)) := by
  unfold takenV
  rw [List.getElem?_map, List.getElem?_range h]
  rfl
theorem stksV_length {L : Lay} {M : MS} : (stksV L M).length = 64 := by
  unfold stksV
  rw [List.length_map, List.length_range]
theorem takenV_length {M : MS} : (takenV M).length = 256 := by
  unfold takenV
  rw [List.length_map, List.length_range]
theorem frsV_length {L : Lay} {k n : Nat} : (frsV L k n).length = n := by
  unfold frsV
  rw [List.length_map, List.length_range]
theorem ixN_nat {n j : Nat} (h : j < n) : ixN n (j : Int) = some j := by
  unfold ixN
  rw [if_pos (by omega), if_pos (by omega)]
  rfl
theorem stA_nat {M : MS} {k : Nat} : stA M (k : Int) = M.S k := by
  unfold stA
  rw [if_neg (by omega)]
  rfl
theorem first_not {p : Nat → Bool} : ∀ n : Nat, (∀ j, j < n → p j = true) ∨ ∃ k, k < n ∧ p k = false ∧ ∀ j, j < k → p j = true
  | 0 => .inl fun j h => absurd h (Nat.not_lt_zero _)
  | n + 1 => by
    rcases first_not (p := p) n with h | ⟨k, h1, h2, h3⟩
    · cases e : p n with
      | true =>
        refine .inl fun j hj => ?_
        rcases Nat.lt_succ_iff_lt_or_eq.mp hj with hj | hj
        · exact h j hj
        · rw [hj]
          exact e
      | false => exact .inr ⟨n, Nat.lt_succ_self n, e, h⟩
    · exact .inr ⟨k, Nat.lt_succ_of_lt h1, h2, h3⟩
theorem up_up {M : MS} {k : Nat} {a b : Option Md35.Stack} : (M.up k a).up k b = M.up k b := by
  have e : upS (upS M.S k a) k b = upS M.S k b := by
    funext j
    unfold upS
    by_cases h : j = k
    · rw [if_pos h, if_pos h]
    · rw [if_neg h, if_neg h, if_neg h]
  show MS.mk _ _ _ = MS.mk _ _ _
  rw [e]
theorem up_S {M : MS} {k : Nat} {a : Option Md35.Stack} : (M.up k a).S k = a := upS_same
section
variable {P : Program} {w : World} {K : PySem.W.Frag} {mg : Str → Option Value} {base : Heap} {A : Ad}
theorem runV_non {L : Lay} : ∀ {row : List Nat}, decide (runV L row = .non) = row.isEmpty
  | [] => rfl
  | r :: t => decide_eq_false (by intro z; cases z)
theorem ok_keep_is_stopped (T : Txt P w K mg A) : FO P w K mg base A .d_keep_is_stopped 1 (spIsStopped A.cl K) := by
  refine (T.fn .d_keep_is_stopped).ok sc_keep_is_stopped (fun vs H Q E h => ?_) (fun cdv Ar outer s H vs Q E hr h => ?_)
  · obtain ⟨G, L, M, rfl, _⟩ := h
    rfl
  · obtain ⟨G, L, M, rfl, R, q⟩ := h
    refine ⟨_, (pss_one (ps_ret (pe_cmpR op_notN (pe_fld (pv 0) rfl) pe_non (nomark _)))), ?_⟩
    obtain ⟨dk, hk⟩ := R.kp
    refine ⟨_, rfl, L.kp, _, dk, _, _, rfl, hk, T.c_keep, T.n_keep_running, kf_running _ _ _ _ _, rfl, ?_⟩
    rw [runV_non]
    exact q
theorem ok_keep_find_stack (T : Txt P w K mg A) : FO P w K mg base A .d_keep_find_stack 1 (spFind A.cl K) := by
  refine (T.fn .d_keep_find_stack).ok sc_keep_find_stack (fun vs H Q E h => ?_) (fun cdv Ar outer s H vs Q E hr h => ?_)
  · obtain ⟨z, G, L, M, rfl, _⟩ := h
    rfl
  · obtain ⟨z, G, L, M, rfl, R, W, q0, q1⟩ := h
    refine ⟨_, (pss_cons (ps_if (PW.pt (pw_or (pt_cmpR op_lt (pv 1) pe_int (nomark _)) (pw_or1 (pt_cmpR op_ge (pv 1) (pe_ic T.k_STACKS_MOST) (nomark _))))) (pss_one (ps_ret pe_non)) pss_nil) (pss_one (ps_ret (pe_ix ix_list (pe_fld (pv 0) rfl) (pv 1) (fun _ _ => rfl))))), ?_⟩
    obtain ⟨dk, hk⟩ := R.kp
    refine ⟨_, rfl, _, _, rfl, rfl, _, rfl, ite2 (fun c => ?_) (fun c => ?_)⟩
    · have c' : z < 0 := of_decide_eq_true c
      exact iteT (q0 (if_pos c'))
    · have c' : ¬ z < 0 := fun h => c (decide_eq_true h)
      have eS : stA M z = M.S z.toNat := if_neg c'
      refine ⟨_, rfl, _, _, rfl, rfl, _, rfl, ite2 (fun d => ?_) (fun d => ?_)⟩
      · have d' : (64 : Int) ≤ z := of_decide_eq_true d
        refine q0 ?_
        cases e : M.S z.toNat with
        | none => rw [eS, e]
        | some x =>
          have := W.small _ _ e
          omega
      · have d' : ¬ (64 : Int) ≤ z := fun h => d (decide_eq_true h)
        have hz : z.toNat < 64 := by omega
        have ez : z = ((z.toNat : Nat) : Int) := by omega
        refine ⟨_, rfl, L.kp, _, dk, _, _, rfl, hk, T.c_keep, T.n_keep_stacks, kf_stacks _ _ _ _ _, _, rfl, L.sl, _, _, _, rfl, rfl, SqL.of R.sls, at_of ez (stksV_get hz), ?_⟩
        cases e : M.S z.toNat with
        | none => exact q0 (eS.trans e)
        | some x => exact q1 x (eS.trans e)
theorem ok_keep_cut_stack (T : Txt P w K mg A) : FO P w K mg base A .d_keep_cut_stack 2 (spCut A.cl K) := by
  refine (T.fn .d_keep_cut_stack).ok sc_keep_cut_stack (fun vs H Q E h => ?_) (fun cdv Ar outer s H vs Q E hr h => ?_)
  · obtain ⟨z, G, L, M, rfl, _⟩ := h
    rfl
  · obtain ⟨z, G, L, M, rfl, R, W, q0, q1, q2⟩ := h
    refine ⟨_, (pss_cons (ps_set (i := 2) sc_keep_cut_stack.nd rfl (Or.inl rfl) (pe_meth (pv 0) T.c_keep T.m_keep_find_stack (ok_keep_find_stack T) (hr.mono (by decide)) (T.bi .d_keep_find_stack) .nil pass0 (pa_cons (pv 1) pa_nil))) (pss_cons (ps_if (PW.pt (pw_or (pt_cmpR op_isN (pv 2) pe_non (nomark _)) (pw_or1 (pt_val (pe_fld (pv 2) rfl))))) (pss_one (ps_ret pe_non)) pss_nil) (pss_one (ps_ret (pv 2))))), ?_⟩
    obtain ⟨dk, hk⟩ := R.kp
    refine ⟨_, rfl, L.kp, dk, _, rfl, hk, (by kernel_rfl), _, rfl, z, G, L, M, rfl, R, W, fun e => ?_, fun x e => ?_⟩
    · exact ⟨_, rfl, rfl, _, rfl, iteT (iteT (q0 e))⟩
    · have hs : M.S z.toNat = some x := by
        unfold stA at e
        split at e
        · cases e
        · exact e
      obtain ⟨ds, hst⟩ := R.stk (live_of hs)
      refine ⟨_, rfl, rfl, _, rfl, ?_⟩
      rw [decide_eq_false (by intro y; cases y)]
      refine iteF ⟨_, rfl, L.st z.toNat, _, ds, _, _, rfl, hst, T.c_stack, T.n_stack_on, sf_on _ _ _ _ _, _, rfl, ?_⟩
      cases e2 : M.row.contains z.toNat with
      | true => exact iteT (q1 x e e2)
      | false => exact iteF ⟨_, rfl, q2 x e e2⟩
theorem ok_keep_make_empty (T : Txt P w K mg A) : FO P w K mg base A .d_keep_make_empty 1 (spMakeEmpty A.cl) := by
  refine (T.fn .d_keep_make_empty).ok sc_keep_make_empty (fun vs H Q E h => ?_) (fun cdv Ar outer s H vs Q E hr h => ?_)
  · obtain ⟨p, dx, fs, rfl, _⟩ := h
    rfl
  · obtain ⟨p, dx, fs, rfl, hp, hfs, q⟩ := h
    refine ⟨_, (pss_cons (ps_fld (pv 0) (pe_op op_rep (pe_lst (pa_cons pe_non pa_nil)) (pe_ic T.k_STACKS_MOST)) rfl) (pss_cons (ps_fld (pv 0) (pe_op op_rep (pe_lst (pa_cons pe_bl pa_nil)) (pe_ic T.k_PIECES_MOST)) rfl) (pss_cons (ps_fld (pv 0) pe_non rfl) (pss_cons (ps_fld (pv 0) (pe_tup (pa_cons pe_int (pa_cons pe_int (pa_cons pe_int pa_nil)))) rfl) (pss_one (ps_fld (pv 0) pe_non rfl)))))), ?_⟩
    have key : ∀ (sl tl c : Addr) (f5 : List (Str × V)), f5 = putF ("uncaught" : Str) .non (putF ("come" : Str) (.ref c) (putF ("running" : Str) .non (putF ("taken" : Str) (.ref tl) (putF ("stacks" : Str) (.ref sl) fs)))) → f5 = kf sl tl .non c .non := fun sl tl c f5 e => by
      rcases hfs with rfl | ⟨a, b, r, c', u, rfl⟩
      · rw [e]; kernel_rfl
      · rw [e, kf_pstacks, kf_ptaken, kf_prunning, kf_pcome, kf_puncaught]
    have len : ∀ (f : Str) (v : V) (l : List (Str × V)) (n : Nat), l.length ≤ n → (putF f v l).length ≤ n + 1 := fun f v l n h => Nat.le_trans (length_putF f v l) (Nat.succ_le_succ h)
    have l0 : fs.length ≤ 5 := by
      rcases hfs with rfl | ⟨a, b, r, c', u, rfl⟩
      · exact Nat.zero_le _
      · exact Nat.le_refl 5
    have l1 := fun v => len ("stacks" : Str) v fs 5 l0
    have l2 := fun v u => len ("taken" : Str) u _ 6 (l1 v)
    have l3 := fun v u y => len ("running" : Str) y _ 7 (l2 v u)
    have l4 := fun v u y x => len ("come" : Str) x _ 8 (l3 v u y)
    refine ⟨(by show 1 ≤ sizeLine; decide), fun t1 h1 => ?_⟩
    refine ⟨t1, 64, _, rfl, rfl, upd_same, by decide, by decide, (by show 1 * 64 ≤ sizeLine; decide), fun sl hsl => ?_⟩
    have np1 : p ≠ t1 := ne_of_none hp h1
    have n1s : t1 ≠ sl := ne_of_none upd_same hsl
    have nps : p ≠ sl := ne_of_none (by rw [upd_ne np1]; exact hp) hsl
    refine ⟨_, rfl, p, _, dx, _, rfl, (by rw [upd_ne nps, upd_ne np1]; exact hp), T.c_keep, T.n_keep_stacks, Nat.lt_of_le_of_lt l0 (by decide), ?_⟩
    refine ⟨(by show 1 ≤ sizeLine; decide), fun t2 h2 => ?_⟩
    refine ⟨t2, 256, _, rfl, rfl, upd_same, by decide, by decide, (by show 1 * 256 ≤ sizeLine; decide), fun tl htl => ?_⟩
    have np2 : p ≠ t2 := ne_of_none upd_same h2
    have ns2 : sl ≠ t2 := ne_of_none (by rw [upd_ne nps.symm]; exact upd_same) h2
    have n2l : t2 ≠ tl := ne_of_none upd_same htl
    have npl : p ≠ tl := ne_of_none (by rw [upd_ne np2]; exact upd_same) htl
    have nsl : sl ≠ tl := ne_of_none (by rw [upd_ne ns2, upd_ne nps.symm]; exact upd_same) htl
    refine ⟨_, rfl, p, _, dx, _, rfl, (by rw [upd_ne npl, upd_ne np2]; exact upd_same), T.c_keep, T.n_keep_taken, Nat.lt_of_le_of_lt (l1 _) (by decide), ?_⟩
    refine ⟨_, rfl, p, _, dx, _, rfl, upd_same, T.c_keep, T.n_keep_running, Nat.lt_of_le_of_lt (l2 _ _) (by decide), ?_⟩
    refine ⟨(by show 3 ≤ sizeLine; decide), fun c hc => ?_⟩
    have npc : p ≠ c := ne_of_none upd_same hc
    refine ⟨_, rfl, p, _, dx, _, rfl, (by rw [upd_ne npc]; exact upd_same), T.c_keep, T.n_keep_come, Nat.lt_of_le_of_lt (l3 _ _ _) (by decide), ?_⟩
    refine ⟨_, rfl, p, _, dx, _, rfl, upd_same, T.c_keep, T.n_keep_uncaught, Nat.lt_of_le_of_lt (l4 _ _ _ _) (by decide), ?_⟩
    have nsc : sl ≠ c := ne_of_none (by rw [upd_ne nps.symm, upd_ne nps.symm, upd_ne nsl, upd_ne ns2, upd_ne nps.symm]; exact upd_same) hc
    have nlc : tl ≠ c := ne_of_none (by rw [upd_ne npl.symm, upd_ne npl.symm]; exact upd_same) hc
    have n2c : t2 ≠ c := ne_of_none (by rw [upd_ne np2.symm, upd_ne np2.symm, upd_ne n2l]; exact upd_same) hc
    have n12 : t1 ≠ t2 := ne_of_none (by rw [upd_ne np1.symm, upd_ne n1s]; exact upd_same) h2
    have n1l : t1 ≠ tl := ne_of_none (by rw [upd_ne n12, upd_ne np1.symm, upd_ne n1s]; exact upd_same) htl
    have n1c : t1 ≠ c := ne_of_none (by rw [upd_ne np1.symm, upd_ne np1.symm, upd_ne n1l, upd_ne n12, upd_ne np1.symm, upd_ne n1s]; exact upd_same) hc
    have sl0 : H sl = none := by rw [upd_ne n1s.symm] at hsl; exact hsl
    have t20 : H t2 = none := by rw [upd_ne np2.symm, upd_ne ns2.symm, upd_ne n12.symm] at h2; exact h2
    have tl0 : H tl = none := by rw [upd_ne n2l.symm, upd_ne npl.symm, upd_ne nsl.symm, upd_ne n1l.symm] at htl; exact htl
    have c0 : H c = none := by rw [upd_ne npc.symm, upd_ne npc.symm, upd_ne nlc.symm, upd_ne n2c.symm, upd_ne npc.symm, upd_ne nsc.symm, upd_ne n1c.symm] at hc; exact hc
    refine q _ sl tl c sl0 tl0 c0 nsl ?_ ?_ ?_ ?_ fun b o e hb => ?_
    · rw [upd_same, key sl tl c _ rfl]
    · rw [upd_ne nps.symm, upd_ne nps.symm, upd_ne nsc, upd_ne nps.symm, upd_ne nps.symm, upd_ne nsl, upd_ne ns2, upd_ne nps.symm]
      exact upd_same
    · rw [upd_ne npl.symm, upd_ne npl.symm, upd_ne nlc, upd_ne npl.symm, upd_ne npl.symm]
      exact upd_same
    · rw [upd_ne npc.symm, upd_ne npc.symm]
      exact upd_same
    · rw [upd_ne hb, upd_ne hb, upd_ne (ne_of_none e c0), upd_ne hb, upd_ne hb, upd_ne (ne_of_none e tl0), upd_ne (ne_of_none e t20), upd_ne hb, upd_ne (ne_of_none e sl0), upd_ne (ne_of_none e h1)]
      exact e
theorem ok_keep_init (T : Txt P w K mg A) : FO P w K mg base A .d_keep_init 2 (spMakeEmpty A.cl) := by
  refine (T.fn .d_keep_init).ok sc_keep_init (fun vs H Q E h => ?_) (fun cdv Ar outer s H vs Q E hr h => ?_)
  · obtain ⟨p, dx, fs, rfl, _⟩ := h
    rfl
  · obtain ⟨p, dx, fs, rfl, hp, hfs, q⟩ := h
    refine ⟨_, (pss_one (ps_expr (pe_meth0 (pv 0) T.c_keep T.m_keep_make_empty (ok_keep_make_empty T) (hr.mono (by decide)) (T.bi .d_keep_make_empty) .nil pass0))), ?_⟩
    refine ⟨_, rfl, p, dx, fs, rfl, hp, ?_, p, dx, fs, rfl, hp, hfs, q⟩
    rcases hfs with rfl | ⟨a, b, r, c', u, rfl⟩
    · rfl
    · kernel_rfl
theorem ok_keep_put_on (T : Txt P w K mg A) : FO P w K mg base A .d_keep_put_on 1 (spPutOn A.cl K) := by
  refine (T.fn .d_keep_put_on).ok sc_keep_put_on (fun vs H Q E h => ?_) (fun cdv Ar outer s H vs Q E hr h => ?_)
  · obtain ⟨k, x, G, L, M, rfl, _⟩ := h
    rfl
  · obtain ⟨k, x, G, L, M, rfl, R, hx, q⟩ := h
    refine ⟨_, (pss_cons (ps_fld (pv 1) pe_bl rfl) (pss_cons (ps_fld (pv 1) (pe_fld (pv 0) rfl) rfl) (pss_one (ps_fld (pv 0) (pv 1) rfl)))), ?_⟩
    obtain ⟨dk, hk⟩ := R.kp
    obtain ⟨ds, hs⟩ := R.stk (live_of hx)
    have nks : L.kp ≠ L.st k := R.ne (r := .kp) rfl (cont_st (live_of hx)) (by simp)
    refine ⟨_, rfl, L.st k, _, ds, _, rfl, hs, T.c_stack, T.n_stack_on, (by show 5 < 1000; decide), ?_⟩
    rw [sf_pon]
    refine ⟨_, rfl, L.kp, _, dk, _, _, rfl, (by rw [upd_ne nks]; exact hk), T.c_keep, T.n_keep_running, kf_running _ _ _ _ _, _, rfl, L.st k, _, ds, _, rfl, upd_same, T.c_stack, T.n_stack_waiter, (by show 5 < 1000; decide), ?_⟩
    rw [upd_upd, sf_pwaiter]
    refine ⟨_, rfl, _, rfl, L.kp, _, dk, _, rfl, (by rw [upd_ne nks]; exact hk), T.c_keep, T.n_keep_running, (by show 5 < 1000; decide), ?_⟩
    rw [kf_prunning]
    exact q _ (R.puton hx) ((Kst.own R (cont_st (live_of hx))).trans (Kst.upd (R.own .kp _ rfl).1 rfl))
theorem ok_keep_take_off (T : Txt P w K mg A) : FO P w K mg base A .d_keep_take_off 1 (spTakeOff A.cl K) := by
  refine (T.fn .d_keep_take_off).ok sc_keep_take_off (fun vs H Q E h => ?_) (fun cdv Ar outer s H vs Q E hr h => ?_)
  · obtain ⟨r, rest, G, L, M, rfl, _⟩ := h
    rfl
  · obtain ⟨r, rest, G, L, M, rfl, R, hr, hn, q⟩ := h
    refine ⟨_, (pss_cons (ps_set (i := 1) sc_keep_take_off.nd rfl (Or.inl rfl) (pe_fld (pv 0) rfl)) (pss_cons (ps_fld (pv 0) (pe_fld (pv 1) rfl) rfl) (pss_cons (ps_fld (pv 1) pe_non rfl) (pss_one (ps_fld (pv 1) pe_bl rfl))))), ?_⟩
    have hl : ((M.S r).isSome || M.row.contains r) = true := by rw [hr, cont_same, Bool.or_true]
    obtain ⟨dk, hk⟩ := R.kp
    obtain ⟨ds, hs⟩ := R.stk hl
    rw [hr] at hk hs
    rw [cont_same, wtV_same] at hs
    have nks : L.kp ≠ L.st r := R.ne (r := .kp) rfl (cont_st hl) (by simp)
    refine ⟨_, rfl, L.kp, _, dk, _, _, rfl, hk, T.c_keep, T.n_keep_running, kf_running _ _ _ _ _, ?_⟩
    refine ⟨_, rfl, L.st r, _, ds, _, _, rfl, hs, T.c_stack, T.n_stack_waiter, sf_waiter _ _ _ _ _, _, rfl, L.kp, _, dk, _, rfl, hk, T.c_keep, T.n_keep_running, (by show 5 < 1000; decide), ?_⟩
    rw [kf_prunning]
    refine ⟨_, rfl, L.st r, _, ds, _, rfl, (by rw [upd_ne nks.symm]; exact hs), T.c_stack, T.n_stack_waiter, (by show 5 < 1000; decide), ?_⟩
    rw [sf_pwaiter]
    refine ⟨_, rfl, L.st r, _, ds, _, rfl, upd_same, T.c_stack, T.n_stack_on, (by show 5 < 1000; decide), ?_⟩
    rw [upd_upd, sf_pon]
    exact q _ (R.takeoff hr hn) ((Kst.own R (r := .kp) rfl).trans (Kst.upd (R.own (.st r) _ (cont_st hl)).1 rfl)) ⟨ds, upd_same⟩
theorem frsV_last {L : Lay} {k n : Nat} : frsV L k (n + 1) = frsV L k n ++ [.ref (L.fm k n)] := frsV_succ L k n
theorem Rep.inner {T : Cl} {H : Hp} {G : Gh} {L : Lay} {M : MS} {k : Nat} {x : Md35.Stack} {f : Md35.Frame} {fs : List Md35.Frame} (R : Rep T K H G L M) (hx : M.S k = some x) (hf : x.frames = f :: fs) : H (L.fr k) = some (.lst (frsV L k fs.length ++ [.ref (L.fm k fs.length)])) := by
  have := R.frs hx
  rw [hf, List.length_cons, frsV_last] at this
  exact this
theorem ok_keep_put_on_sending (T : Txt P w K mg A) : FO P w K mg base A .d_keep_put_on_sending 2 (spPutOnSending A.cl K) := by
  refine (T.fn .d_keep_put_on_sending).ok sc_keep_put_on_sending (fun vs H Q E h => ?_) (fun cdv Ar outer s H vs Q E hr h => ?_)
  · obtain ⟨k, z, x, f, fs, G, L, M, rfl, _⟩ := h
    rfl
  · obtain ⟨k, z, x, f, fs, G, L, M, rfl, R, hx, hf, q⟩ := h
    refine ⟨_, (pss_cons (ps_set (i := 3) sc_keep_put_on_sending.nd rfl (Or.inl rfl) (pe_ifExp (pt_val (pe_meth0 (pe_meth0 (pv 1) T.c_stack T.m_stack_innermost (ok_stack_innermost T) (hr.mono (by decide)) (T.bi .d_stack_innermost) .nil pass0) T.c_frame T.m_frame_is_new (ok_frame_is_new T) (hr.mono (by decide)) (T.bi .d_frame_is_new) .nil pass0)) (pe_ic T.k_FIRST) (pe_ic T.k_SENT))) (pss_cons (ps_expr (pe_meth (pv 0) T.c_keep T.m_keep_put_on (ok_keep_put_on T) (hr.mono (by decide)) (T.bi .d_keep_put_on) .nil pass0 (pa_cons (pv 1) pa_nil))) (pss_one (ps_fld (pv 0) (pe_tup (pa_cons (pv 3) (pa_cons (pv 2) (pa_cons pe_int pa_nil)))) rfl)))), ?_⟩
    obtain ⟨dk, hk⟩ := R.kp
    obtain ⟨ds, hs⟩ := R.stk (live_of hx)
    obtain ⟨df, hfm⟩ := R.frm (frameAt_head hx hf)
    have hin := R.inner hx hf
    refine ⟨_, rfl, L.st k, ds, _, rfl, hs, (by kernel_rfl), L.st k, ds, k, _, _, _, _, _, _, rfl, hs, hin, L.fm k fs.length, df, _, rfl, hfm, (by kernel_rfl), L.fm k fs.length, df, _, _, _, _, _, rfl, hfm, _, rfl, ?_⟩
    have go : ∀ why : Int, why = (if f.place = 0 then 0 else 6) → ∀ H1 : Hp, Rep A.cl K H1 G L { M with row := k :: M.row } → Kst G H G H1 → ∀ c : Addr, H1 c = none → ∃ (a : Addr) (C dx : Addr) (fs' : List (Str × V)), V.ref L.kp = V.ref a ∧ upd H1 c (.tup [.int why, .int z, .int 0]) a = some (.ins C dx fs') ∧ Cls K C ∧ NoAttr K C "come" ∧ fs'.length < 1000 ∧
        Q .non (upd (upd H1 c (.tup [.int why, .int z, .int 0])) a (.ins C dx (putF "come" (.ref c) fs'))) := by
      intro why hw H1 R1 ks c hc
      obtain ⟨dk1, hk1⟩ := R1.kp
      have nkc : L.kp ≠ c := ne_of_none hk1 hc
      have R2 : Rep A.cl K (upd H1 c (.tup [.int why, .int z, .int 0])) G L { M with row := k :: M.row } := R1.mono (fun a o e _ => ⟨by rw [upd_ne (ne_of_none e hc)]; exact e, rfl⟩) (upd_dom R1.dom)
      refine ⟨L.kp, _, dk1, _, rfl, (by rw [upd_ne nkc]; exact hk1), T.c_keep, T.n_keep_come, (by show 5 < 1000; decide), ?_⟩
      rw [kf_pcome]
      refine q _ c R2.setcm ⟨?_, R1.free hc⟩ (ks.trans ((Kst.same (Same.new hc)).trans (Kst.upd (R2.own .kp _ rfl).1 rfl)))
      rw [upd_ne nkc.symm, upd_same, hw]
    by_cases c : f.place = 0
    · rw [decide_eq_true c]
      refine iteT ⟨_, rfl, L.kp, dk, _, rfl, hk, (by kernel_rfl), _, rfl, k, x, G, L, M, rfl, R, hx, fun H1 R1 ks => ?_⟩
      refine ⟨_, rfl, _, rfl, (by show 3 ≤ sizeLine; decide), fun cc hc => ⟨_, rfl, ?_⟩⟩
      exact go 0 (by rw [if_pos c]) H1 R1 ks cc hc
    · rw [decide_eq_false c]
      refine iteF ⟨_, rfl, L.kp, dk, _, rfl, hk, (by kernel_rfl), _, rfl, k, x, G, L, M, rfl, R, hx, fun H1 R1 ks => ?_⟩
      refine ⟨_, rfl, _, rfl, (by show 3 ≤ sizeLine; decide), fun cc hc => ⟨_, rfl, ?_⟩⟩
      exact go 6 (by rw [if_neg c]) H1 R1 ks cc hc
end
end Th
namespace Th
open PySem PySem.Spec PyProof.Rows L2
theorem SW.less {x : Md35.Stack} {f : Md35.Frame} {fs : List Md35.Frame} (h : SW x) (hf : x.frames = f :: fs) : SW { x with frames := fs } := by
  have h1 := h.fit
  rw [hf, List.length_cons] at h1
  exact ⟨by show fs.length ≤ 8 * x.pieces.length; omega, h.pnd, h.psm, fun g hg => h.wds g (by rw [hf]; exact List.mem_cons_of_mem _ hg), fun g hg => h.acl g (by rw [hf]; exact List.mem_cons_of_mem _ hg)⟩
theorem up_cases {M : MS} {k j : Nat} {v : Option Md35.Stack} {z : Md35.Stack} (h : (M.up k v).S j = some z) : (j = k ∧ v = some z) ∨ (j ≠ k ∧ M.S j = some z) := by
  have h' : upS M.S k v j = some z := h
  by_cases hj : j = k
  · subst hj
    rw [upS_same] at h'
    exact .inl ⟨rfl, h'⟩
  · rw [upS_ne hj] at h'
    exact .inr ⟨hj, h'⟩
theorem MW.up {M : MS} (h : MW M) {k : Nat} {x y : Md35.Stack} (hx : M.S k = some x) (hy : y.number = k) (sy : SW y) (hp : ∀ p ∈ y.pieces, p ∈ x.pieces) : MW (M.up k (some y)) := by
  refine ⟨fun j z e => ?_, fun j z e => ?_, h.rnd, fun j z e => ?_, fun j i z u e1 e2 hne p hp1 hp2 => ?_⟩
  · rcases up_cases e with ⟨rfl, _⟩ | ⟨_, e⟩
    · exact h.small _ _ hx
    · exact h.small _ _ e
  · rcases up_cases e with ⟨e1, e2⟩ | ⟨_, e2⟩
    · cases e2
      rw [e1]
      exact hy
    · exact h.num _ _ e2
  · rcases up_cases e with ⟨e1, e2⟩ | ⟨_, e2⟩
    · cases e2
      exact sy
    · exact h.sw _ _ e2
  · rcases up_cases e1 with ⟨a1, b1⟩ | ⟨n1, c1⟩
    · rcases up_cases e2 with ⟨a2, b2⟩ | ⟨n2, c2⟩
      · exact hne (a1.trans a2.symm)
      · cases b1
        subst a1
        exact h.pdj _ _ _ _ hx c2 hne p (hp p hp1) hp2
    · rcases up_cases e2 with ⟨a2, b2⟩ | ⟨n2, c2⟩
      · cases b2
        subst a2
        exact h.pdj _ _ _ _ hx c1 (fun z => hne z.symm) p (hp p hp2) hp1
      · exact h.pdj _ _ _ _ c1 c2 hne p hp1 hp2
theorem upd_self {H : Hp} {a : Addr} {o : HO} (h : H a = some o) : upd H a o = H := by
  funext b
  unfold upd
  split
  · rename_i e
    rw [e, h]
  · rfl
theorem last_get {α : Type} (xs : List α) (y : α) : (xs ++ [y])[(xs ++ [y]).length - 1]? = some y := by
  rw [List.length_append, List.length_singleton, Nat.add_sub_cancel, List.getElem?_append_right (Nat.le_refl _), Nat.sub_self]
  rfl
theorem drop_last {α : Type} (xs : List α) (y : α) : (xs ++ [y]).dropLast = xs := by simp
section
variable {P : Program} {w : World} {K : PySem.W.Frag} {mg : Str → Option Value} {base : Heap} {A : Ad}
theorem ok_keep_drop_frame (T : Txt P w K mg A) : FO P w K mg base A .d_keep_drop_frame 1 (spDropFrame A.cl K) := by
  refine (T.fn .d_keep_drop_frame).ok sc_keep_drop_frame (fun vs H Q E h => ?_) (fun cdv Ar outer s H vs Q E hr h => ?_)
  · obtain ⟨k, x, f, fs, G, L, M, rfl, _⟩ := h
    rfl
  · obtain ⟨k, x, f, fs, G, L, M, rfl, R, W, hx, hf, q⟩ := h
    refine ⟨_, (pss_cons (ps_expr (pe_bm0 PySem.F.plainAttrs_list PySem.F.slot_list_pop PySem.F.type_list_pop mt_pop (pe_fld (pv 1) rfl))) (pss_cons (ps_set (i := 2) sc_keep_drop_frame.nd rfl (Or.inl rfl) (pe_op op_sub (pe_callB call_len_seq (by rfl) T.b_len PySem.boot_len (pa_cons (pe_fld (pv 1) rfl) pa_nil)) pe_int)) (pss_one (ps_if (PW.pt (pw_and (pt_cmpR op_gt (pv 2) pe_int (nomark _)) (pw_and1 (pt_cmpR op_le (pe_callB call_len_seq (by rfl) T.b_len PySem.boot_len (pa_cons (pe_fld (pv 1) rfl) pa_nil)) (pe_op op_mul (pv 2) (pe_ic T.k_PIECE_FRAMES)) (nomark _))))) (pss_one (ps_asg pe_bl (pg_sub (pe_fld (pv 0) rfl) (pe_bm0 PySem.F.plainAttrs_list PySem.F.slot_list_pop PySem.F.type_list_pop mt_pop (pe_fld (pv 1) rfl)) set_list))) pss_nil)))), ?_⟩
    obtain ⟨ds, hs⟩ := R.stk (live_of hx)
    have hin := R.inner hx hf
    have R1 := R.popframe (y := { x with frames := fs }) hx hf rfl rfl
    have ks1 : Kst G H G (upd H (L.fr k) (.lst (frsV L k fs.length))) := Kst.own R (cont_fr hx)
    have hx1 : (M.up k (some { x with frames := fs })).S k = some { x with frames := fs } := up_S
    obtain ⟨dk1, hk1⟩ := R1.kp
    obtain ⟨ds1, hs1⟩ := R1.stk (live_of hx1)
    have hpc := R1.pcs hx1
    have hfr := R1.frs hx1
    refine ⟨_, rfl, L.st k, _, ds, _, _, rfl, hs, T.c_stack, T.n_stack_frames, sf_frames _ _ _ _ _, .inl ⟨rfl, _, SqL.of hin⟩, L.fr k, _, _, rfl, rfl, hin, last_get _ _, ?_⟩
    rw [drop_last]
    have hpl := (W.sw k x hx).pieces_le
    refine ⟨_, rfl, L.st k, _, ds1, _, _, rfl, hs1, T.c_stack, T.n_stack_pieces, sf_pieces _ _ _ _ _, L.pc k, _, rfl, .inl (SqL.of hpc), _, _, rfl, rfl, ?_⟩
    have el : ((List.map (fun (p : Nat) => V.int (p : Int)) x.pieces).length : Int) = (x.pieces.length : Int) := by rw [List.length_map]
    have no : ¬ (1 < x.pieces.length ∧ fs.length ≤ 8 * (x.pieces.length - 1)) → Q .non (upd H (L.fr k) (.lst (frsV L k fs.length))) := fun c =>
      q _ (R.popframe hx hf (pop_frames hf) (by rw [pop_pieces hf, if_neg c])) ks1
    refine ⟨_, rfl, _, _, rfl, rfl, _, rfl, ite2 (fun c => ?_) (fun c => ?_)⟩
    · have c' := of_decide_eq_true c
      rw [el] at c'
      refine ⟨_, rfl, L.st k, _, ds1, _, _, rfl, hs1, T.c_stack, T.n_stack_frames, sf_frames _ _ _ _ _, L.fr k, _, rfl, .inl (SqL.of hfr), _, rfl, _, _, rfl, rfl, .inl ?_, _, _, rfl, rfl, _, rfl, ite2 (fun d => ?_) (fun d => ?_)⟩
      · rw [el]
        exact ⟨by omega, by omega⟩
      · have d' := of_decide_eq_true d
        rw [el, frsV_length] at d'
        have d2 : ((fs.length : Nat) : Int) ≤ ((x.pieces.length : Int) - 1) * 8 := d'
        have cond : 1 < x.pieces.length ∧ fs.length ≤ 8 * (x.pieces.length - 1) := ⟨by omega, by omega⟩
        have hne : x.pieces ≠ [] := fun e => by rw [e] at cond; simp at cond
        obtain ⟨ps, p, hps⟩ : ∃ ps p, x.pieces = ps ++ [p] := ⟨x.pieces.dropLast, x.pieces.getLast hne, (List.dropLast_concat_getLast hne).symm⟩
        have hp256 : p < 256 := (W.sw k x hx).psm p (by rw [hps]; simp)
        have hpc2 : upd H (L.fr k) (.lst (frsV L k fs.length)) (L.pc k) = some (.lst (ps.map (fun (p : Nat) => V.int (p : Int)) ++ [V.int (p : Int)])) := by
          rw [hpc]
          show some (HO.lst (x.pieces.map _)) = _
          rw [hps, List.map_append]
          rfl
        have W1 : MW (M.up k (some { x with frames := fs })) := W.up hx (W.num k x hx) ((W.sw k x hx).less hf) fun p hp => hp
        have hpp : x.pop.pieces = ps := by rw [pop_pieces hf, if_pos cond, hps, drop_last]
        have R2 := R1.droppiece (p := p) (y := x.pop) W1 hx1 (pop_frames hf) (by rw [hpp]; exact hps)
        rw [up_up, hpp] at R2
        have npt : L.pc k ≠ L.tl := R1.ne (cont_pc hx1) (r' := .tl) rfl (by simp)
        refine ⟨_, rfl, L.kp, _, dk1, _, _, rfl, hk1, T.c_keep, T.n_keep_taken, kf_taken _ _ _ _ _, _, rfl, L.st k, _, ds1, _, _, rfl, hs1, T.c_stack, T.n_stack_pieces, sf_pieces _ _ _ _ _, .inl ⟨rfl, _, SqL.of hpc2⟩, L.pc k, _, _, rfl, rfl, hpc2, last_get _ _, L.tl, _, _, p, rfl, rfl, (by rw [upd_ne npt.symm]; exact R1.tls), (by rw [takenV_length]; exact ixN_nat hp256), ?_⟩
        rw [drop_last]
        exact q _ R2 (ks1.trans ((Kst.own R1 (cont_pc hx1)).trans (Kst.upd (R1.own .tl _ rfl).1 rfl)))
      · refine no fun cc => d (decide_eq_true ?_)
        rw [el, frsV_length]
        show ((fs.length : Nat) : Int) ≤ ((x.pieces.length : Int) - 1) * 8
        omega
    · refine iteF (no fun cc => c (decide_eq_true ?_))
      rw [el]
      show (0 : Int) < (x.pieces.length : Int) - 1
      omega
theorem contains_snoc {l : List Nat} {p q : Nat} : (l ++ [p]).contains q = (l.contains q || q == p) := by
  rw [Bool.eq_iff_iff]
  simp
theorem take_succ_snoc {l : List Nat} {i p : Nat} (h : l[i]? = some p) : l.take (i + 1) = l.take i ++ [p] := by
  rw [List.take_add_one, h]
  rfl
theorem ok_keep_drop_stack (T : Txt P w K mg A) : FO P w K mg base A .d_keep_drop_stack 1 (spDropStack A.cl K) := by
  refine (T.fn .d_keep_drop_stack).ok sc_keep_drop_stack (fun vs H Q E h => ?_) (fun cdv Ar outer s H vs Q E hr h => ?_)
  · obtain ⟨k, x, G, L, M, rfl, _⟩ := h
    rfl
  · obtain ⟨k, x, G, L, M, rfl, R, W, hx, q⟩ := h
    refine ⟨_, (pss_cons (ps_for PassesOwn.never rfl (pi_list (pe_fld (pv 1) rfl)) (pg_name (i := 2) sc_keep_drop_stack.nd rfl (Or.inl rfl)) (pss_one (ps_asg pe_bl (pg_sub (pe_fld (pv 0) rfl) (pv 2) set_list)))) (pss_one (ps_asg pe_non (pg_sub (pe_fld (pv 0) rfl) (pe_fld (pv 1) rfl) set_list)))), ?_⟩
    obtain ⟨dk, hk⟩ := R.kp
    obtain ⟨ds, hs⟩ := R.stk (live_of hx)
    have hpc := R.pcs hx
    have htl := R.tls
    have ktl : L.kp ≠ L.tl := R.ne (r := .kp) (r' := .tl) rfl rfl (by simp)
    have stl : L.st k ≠ L.tl := R.ne (cont_st (live_of hx)) (r' := .tl) rfl (by simp)
    have ptl : L.pc k ≠ L.tl := R.ne (cont_pc hx) (r' := .tl) rfl (by simp)
    have lsl : L.sl ≠ L.tl := R.ne (r := .sl) (r' := .tl) rfl rfl (by simp)
    refine ⟨_, rfl, L.st k, _, ds, _, _, rfl, hs, T.c_stack, T.n_stack_pieces, sf_pieces _ _ _ _ _, L.pc k, rfl, ⟨_, SqL.of hpc⟩, for_list (K := K) (a := L.pc k) (xs := x.pieces.map fun (p : Nat) => V.int (p : Int))
      (fun i σ H' => ∃ u, σ = [some (.ref L.kp), some (.ref (L.st k)), u] ∧ H' = upd H L.tl (.lst ((List.range 256).map fun q => V.bl (tk M q && !((x.pieces.take i).contains q))))) ⟨none, rfl, ?_⟩ ?_ ?_ ?_⟩
    · have e : ((List.range 256).map fun q => V.bl (tk M q && !((x.pieces.take 0).contains q))) = takenV M := by
        unfold takenV
        refine List.map_congr_left fun q _ => ?_
        show V.bl (tk M q && !false) = _
        rw [Bool.not_false, Bool.and_true]
      rw [e]
      exact (upd_self htl).symm
    · rintro i σ H' hi ⟨u, rfl, rfl⟩
      exact SqL.of (by rw [upd_ne ptl]; exact hpc)
    · rintro i v σ H' hi ⟨u, rfl, rfl⟩
      obtain ⟨p, hp, rfl⟩ : ∃ p : Nat, x.pieces[i]? = some p ∧ v = V.int (p : Int) := by
        rw [List.getElem?_map] at hi
        obtain ⟨p, h1, h2⟩ := Option.map_eq_some_iff.mp hi
        exact ⟨p, h1, h2.symm⟩
      have hp256 : p < 256 := (W.sw k x hx).psm p (List.mem_of_getElem? hp)
      refine ⟨_, rfl, L.kp, _, dk, _, _, rfl, (by rw [upd_ne ktl]; exact hk), T.c_keep, T.n_keep_taken, kf_taken _ _ _ _ _, _, rfl, L.tl, _, _, p, rfl, rfl, upd_same, (by rw [List.length_map, List.length_range]; exact ixN_nat hp256), ?_⟩
      refine ⟨_, rfl, ?_⟩
      rw [upd_upd, set_map]
      congr 2
      refine List.map_congr_left fun q _ => ?_
      rw [take_succ_snoc hp, contains_snoc]
      by_cases hq : q = p
      · subst hq
        rw [if_pos rfl, beq_self_eq_true, Bool.or_true, Bool.not_true, Bool.and_false]
      · have : (q == p) = false := by simp [hq]
        rw [if_neg hq, this, Bool.or_false]
    · rintro σ H' ⟨u, rfl, rfl⟩
      have hk64 := W.small k x hx
      refine ⟨_, rfl, L.kp, _, dk, _, _, rfl, (by rw [upd_ne ktl]; exact hk), T.c_keep, T.n_keep_stacks, kf_stacks _ _ _ _ _, _, rfl, L.st k, _, ds, _, _, rfl, (by rw [upd_ne stl]; exact hs), T.c_stack, T.n_stack_number, sf_number _ _ _ _ _, L.sl, _, _, k, rfl, rfl, (by rw [upd_ne lsl]; exact R.sls), (by rw [stksV_length]; exact ixN_nat hk64), ?_⟩
      rw [List.length_map, List.take_length]
      exact q _ (R.dropstack W hx) ((Kst.own R (r := .tl) rfl).trans (Kst.upd (R.own .sl _ rfl).1 rfl))
theorem tail_add_frame {H0 H : Hp} {Q : VK} {D : Ends} {u : Option V} {k fn : Nat} {x y : Md35.Stack} {G : Gh} {L : Lay} {M : MS} (T : Txt P w K mg A) (hD : D.rt = Q) (R : Rep A.cl K H G L M) (hx : M.S k = some x) (hlen : x.frames.length ≤ 2048) (hy : y.frames = { fn := fn } :: x.frames) (hp : y.pieces = x.pieces) (ks : Kst G H0 G H)
    (q : ∀ (H' : Hp) (G' : Gh) (L' : Lay), Rep A.cl K H' G' L' (M.up k (some y)) → Kst G H0 G' H' → L.Kpt L' → L'.st = L.st → Q (.bl true) H') :
    tSeq (tDrop (tBM K "list" rAppend (tFld K (tVar 1) "frames") (tCons (tMake A.cl.frame (spFrameInit A.cl) [] E0 (tCons (tVar 2) tNil)) tNil))) (tRet (tC (.bl true))) D [some (.ref L.kp), some (.ref (L.st k)), some (.int (fn : Int)), u] H := by
  obtain ⟨ds, hs⟩ := R.stk (live_of hx)
  have hfr := R.frs hx
  refine ⟨_, rfl, L.st k, _, ds, _, _, rfl, hs, T.c_stack, T.n_stack_frames, sf_frames _ _ _ _ _, .inl ⟨rfl, _, SqL.of hfr⟩, _, rfl, fun p dx np ndx nex => ?_⟩
  refine ⟨p, dx, fn, rfl, upd_same, fun H1 wd ac nwd nac h1 h2 h3 nwa h5 => ⟨rfl, ?_⟩⟩
  have s0 : Same H (upd (upd H dx (.own p)) p (.ins A.cl.frame dx [])) := fun b o e => by
    rw [upd_ne (ne_of_none e np), upd_ne (ne_of_none e ndx)]
    exact e
  have s1 : Same H H1 := Same.made np ndx h5
  have nw0 := s0.free nwd
  have na0 := s0.free nac
  have npw : p ≠ wd := ne_of_none upd_same nwd
  have npa : p ≠ ac := ne_of_none upd_same nac
  have hfr1 := s1 _ _ hfr
  have nfp : L.fr k ≠ p := ne_of_none hfr np
  have nfw : L.fr k ≠ wd := ne_of_none hfr nw0
  have nfa : L.fr k ≠ ac := ne_of_none hfr na0
  refine ⟨L.fr k, _, _, rfl, rfl, hfr1, ?_, ?_⟩
  · rw [frsV_length, sizeLine_eq]
    omega
  · show D.rt (V.bl true) _
    rw [hD]
    have R2 := R.push (H' := upd H1 (L.fr k) (.lst (frsV L k x.frames.length ++ [.ref p]))) (p := p) (wd := wd) (ac := ac) (dx := dx) (fn := fn) (y := y) hx hy hp np nw0 na0 npw npa nwa (by rw [upd_ne nfp.symm]; exact h1) (by rw [upd_ne nfw.symm]; exact h2) (by rw [upd_ne nfa.symm]; exact h3) upd_same (fun b o e hb => by rw [upd_ne hb]; exact s1 b o e)
    refine q _ _ _ R2 (ks.trans fun b o e n => ⟨?_, ?_⟩) ⟨rfl, rfl, rfl⟩ rfl
    · rw [upd_ne (fun z => by
        subst z
        have := n _ (R.own (.fr k) _ (cont_fr hx)).1
        cases this)]
      exact s1 b o e
    · rw [gad_ne (ne_of_none e na0), gad_ne (ne_of_none e nw0), gad_ne (ne_of_none e np)]
theorem flat_taken {M : MS} : (takenV M).all flatV = true := by
  rw [List.all_eq_true]
  intro v hv
  unfold takenV at hv
  obtain ⟨q, _, rfl⟩ := List.mem_map.mp hv
  rfl
theorem in_taken {M : MS} : inV (.bl false) (takenV M) = (List.range 256).any fun q => !tk M q := by
  unfold inV takenV
  rw [List.any_map]
  congr 1
  funext q
  show (tk M q == false) = _
  cases tk M q <;> rfl
theorem in_taken_all {M : MS} (h : ∀ q, q < 256 → tk M q = true) : inV (.bl false) (takenV M) = false := by
  rw [in_taken, List.any_eq_false]
  intro q hq
  rw [h q (List.mem_range.mp hq)]
  simp
theorem in_taken_some {M : MS} {p : Nat} (hp : p < 256) (h : tk M p = false) : inV (.bl false) (takenV M) = true := by
  rw [in_taken, List.any_eq_true]
  exact ⟨p, List.mem_range.mpr hp, by rw [h]; rfl⟩
theorem ok_keep_add_frame (T : Txt P w K mg A) : FO P w K mg base A .d_keep_add_frame 3 (spAddFrame A.cl K) := by
  refine (T.fn .d_keep_add_frame).ok sc_keep_add_frame (fun vs H Q E h => ?_) (fun cdv Ar outer s H vs Q E hr h => ?_)
  · obtain ⟨k, fn, x, G, L, M, rfl, _⟩ := h
    rfl
  · obtain ⟨k, fn, x, G, L, M, rfl, R, W, hx, q0, q1, q2⟩ := h
    refine ⟨_, (pss_cons (ps_if (pt_cmpR op_eq (pe_callB call_len_seq (by rfl) T.b_len PySem.boot_len (pa_cons (pe_fld (pv 1) rfl) pa_nil)) (pe_op op_mul (pe_callB call_len_seq (by rfl) T.b_len PySem.boot_len (pa_cons (pe_fld (pv 1) rfl) pa_nil)) (pe_ic T.k_PIECE_FRAMES)) (nomark _)) (pss_cons (ps_if (pt_cmpR op_notIn_seq pe_bl (pe_fld (pv 0) rfl) rfl) (pss_one (ps_ret pe_bl)) pss_nil) (pss_cons (ps_set (i := 3) sc_keep_add_frame.nd rfl (Or.inl rfl) (pe_bm PySem.F.plainAttrs_list PySem.F.slot_list_index PySem.F.type_list_index mt_index (pe_fld (pv 0) rfl) (pa_cons pe_bl pa_nil))) (pss_cons (ps_asg pe_bl (pg_sub (pe_fld (pv 0) rfl) (pv 3) set_list)) (pss_one (ps_expr (pe_bm PySem.F.plainAttrs_list PySem.F.slot_list_append PySem.F.type_list_append mt_append (pe_fld (pv 1) rfl) (pa_cons (pv 3) pa_nil))))))) pss_nil) (pss_cons (ps_expr (pe_bm PySem.F.plainAttrs_list PySem.F.slot_list_append PySem.F.type_list_append mt_append (pe_fld (pv 1) rfl) (pa_cons (pe_make T.mk_frame (ok_frame_init T) (hr.mono (by decide)) rfl T.g_Frame (T.bi .d_frame_init) .nil pass0 (pa_cons (pv 2) pa_nil)) pa_nil))) (pss_one (ps_ret pe_bl)))), ?_⟩
    obtain ⟨dk, hk⟩ := R.kp
    obtain ⟨ds, hs⟩ := R.stk (live_of hx)
    have hpc := R.pcs hx
    have hfr := R.frs hx
    have sw := W.sw k x hx
    have hfl := sw.frames_le
    have hpl := sw.pieces_le
    have hfit := sw.fit
    have el : ((List.map (fun (p : Nat) => V.int (p : Int)) x.pieces).length : Int) = (x.pieces.length : Int) := by rw [List.length_map]
    refine ⟨_, rfl, L.st k, _, ds, _, _, rfl, hs, T.c_stack, T.n_stack_frames, sf_frames _ _ _ _ _, L.fr k, _, rfl, .inl (SqL.of hfr), _, rfl, L.st k, _, ds, _, _, rfl, hs, T.c_stack, T.n_stack_pieces, sf_pieces _ _ _ _ _, L.pc k, _, rfl, .inl (SqL.of hpc), _, _, rfl, rfl, .inl ?_, rfl, _, rfl, ?_⟩
    · rw [el]
      exact ⟨by omega, by omega⟩
    rw [el, frsV_length]
    by_cases c : x.frames.length < 8 * x.pieces.length
    · have ne : ¬ V.int ((x.frames.length : Nat) : Int) = V.int ((x.pieces.length : Int) * 8) := fun e => by
        injection e with e
        omega
      rw [decide_eq_false ne]
      refine iteF ?_
      exact tail_add_frame (y := { x with frames := { fn := fn } :: x.frames }) T rfl R hx hfl rfl rfl (Kst.refl G H) (q0 c)
    · have eq : V.int ((x.frames.length : Nat) : Int) = V.int ((x.pieces.length : Int) * 8) := by
        congr 1
        omega
      rw [decide_eq_true eq]
      refine iteT ⟨_, rfl, L.kp, _, dk, _, _, rfl, hk, T.c_keep, T.n_keep_taken, kf_taken _ _ _ _ _, L.tl, _, rfl, .inl (SqL.of R.tls), rfl, flat_taken, _, rfl, ?_⟩
      rcases first_not (p := tk M) 256 with hall | ⟨p, hp, hpf, hbef⟩
      · rw [in_taken_all hall]
        exact iteT (q1 c hall)
      · rw [in_taken_some hp hpf]
        have ntp : L.tl ≠ L.pc k := R.ne (r := .tl) rfl (cont_pc hx) (by simp)
        have nkt : L.kp ≠ L.tl := R.ne (r := .kp) (r' := .tl) rfl rfl (by simp)
        have nst : L.st k ≠ L.tl := R.ne (cont_st (live_of hx)) (r' := .tl) rfl (by simp)
        refine iteF ⟨_, rfl, L.kp, _, dk, _, _, rfl, hk, T.c_keep, T.n_keep_taken, kf_taken _ _ _ _ _, .inl ⟨rfl, _, SqL.of R.tls⟩, L.tl, _, _, p, _, rfl, rfl, SqL.of R.tls, rfl, flat_taken, takenV_get hp, (by rw [hpf]; rfl), ?_, ?_⟩
        · intro m z hm hz
          rw [takenV_get (by omega)] at hz
          cases hz
          show (tk M m == false) = false
          rw [hbef m hm]
          rfl
        · refine ⟨_, rfl, L.kp, _, dk, _, _, rfl, hk, T.c_keep, T.n_keep_taken, kf_taken _ _ _ _ _, _, rfl, L.tl, _, _, p, rfl, rfl, R.tls, (by rw [takenV_length]; exact ixN_nat hp), ?_⟩
          refine ⟨_, rfl, L.st k, _, ds, _, _, rfl, (by rw [upd_ne nst]; exact hs), T.c_stack, T.n_stack_pieces, sf_pieces _ _ _ _ _, .inl ⟨rfl, _, SqL.of (by rw [upd_ne ntp.symm]; exact hpc)⟩, _, rfl, L.pc k, _, _, rfl, rfl, (by rw [upd_ne ntp.symm]; exact hpc), (by rw [List.length_map, sizeLine_eq]; omega), ?_⟩
          have R1 := R.takepiece (p := p) (y := { x with pieces := x.pieces ++ [p] }) (W.small k x hx) hx rfl rfl
          have hx1 : (M.up k (some { x with pieces := x.pieces ++ [p] })).S k = some { x with pieces := x.pieces ++ [p] } := up_S
          have ks1 := (Kst.own R (r := .tl) (o := .lst ((takenV M).set p (.bl true))) rfl).trans (Kst.upd (a := L.pc k) (o := .lst (x.pieces.map (fun (p : Nat) => V.int (p : Int)) ++ [.int (p : Int)])) (R.own (.pc k) _ (cont_pc hx)).1 rfl)
          refine tail_add_frame (y := { x with frames := { fn := fn } :: x.frames, pieces := x.pieces ++ [p] }) T rfl R1 hx1 hfl rfl rfl ks1 fun H' G' L' R' k' l' s' => ?_
          rw [up_up] at R'
          exact q2 c p hp hpf hbef H' G' L' R' k' l' s'
end
end Th
namespace Th
open PySem PySem.Spec PyProof.Rows L2
theorem tk_new {M : MS} {k : Nat} {cm : Md35.Came} (hx : M.S k = none) (q : Nat) : tk (M.up k (some ⟨k, [], [], cm⟩)) q = tk M q := by
  refine tk_congr ⟨fun ⟨j, z, h1, h2, h3⟩ => ?_, fun ⟨j, z, h1, h2, h3⟩ => ?_⟩
  · rcases up_cases h2 with ⟨_, e⟩ | ⟨_, e⟩
    · cases e
      simp at h3
    · exact ⟨j, z, h1, e, h3⟩
  · have hj : j ≠ k := fun e => by rw [e, hx] at h2; cases h2
    exact ⟨j, z, h1, by show upS M.S k _ j = some z; rw [upS_ne hj]; exact h2, h3⟩
theorem MW.addst {M : MS} (h : MW M) {k : Nat} {cm : Md35.Came} (hk : k < 64) (hx : M.S k = none) : MW (M.up k (some ⟨k, [], [], cm⟩)) := by
  refine ⟨fun j z e => ?_, fun j z e => ?_, h.rnd, fun j z e => ?_, fun j i z u e1 e2 hne p hp1 hp2 => ?_⟩
  · rcases up_cases e with ⟨rfl, _⟩ | ⟨_, e⟩
    · exact hk
    · exact h.small _ _ e
  · rcases up_cases e with ⟨e1, e2⟩ | ⟨_, e2⟩
    · cases e2
      exact e1.symm
    · exact h.num _ _ e2
  · rcases up_cases e with ⟨e1, e2⟩ | ⟨_, e2⟩
    · cases e2
      exact ⟨Nat.zero_le _, List.nodup_nil, fun p hp => by simp at hp, fun g hg => by simp at hg, fun g hg => by simp at hg⟩
    · exact h.sw _ _ e2
  · rcases up_cases e1 with ⟨a1, b1⟩ | ⟨n1, c1⟩
    · cases b1
      simp at hp1
    · rcases up_cases e2 with ⟨a2, b2⟩ | ⟨n2, c2⟩
      · cases b2
        simp at hp2
      · exact h.pdj _ _ _ _ c1 c2 hne p hp1 hp2
section
variable {P : Program} {w : World} {K : PySem.W.Frag} {mg : Str → Option Value} {base : Heap} {A : Ad}
theorem stks_items (T : Txt P w K mg A) {H : Hp} {G : Gh} {L : Lay} {M : MS} (R : Rep A.cl K H G L M) : ∀ v ∈ stksV L M, NoneOrIns K H v := by
  intro v hv
  unfold stksV at hv
  obtain ⟨j, _, rfl⟩ := List.mem_map.mp hv
  cases e : M.S j with
  | none => exact .inl rfl
  | some x =>
    obtain ⟨ds, hs⟩ := R.stk (live_of e)
    exact .inr ⟨L.st j, _, ds, _, rfl, hs, T.e_stack⟩
theorem any_stks {L : Lay} {M : MS} : ((stksV L M).any fun v => decide (v = .non)) = (List.range 64).any fun j => !(M.S j).isSome := by
  unfold stksV
  rw [List.any_map]
  congr 1
  funext j
  show decide ((if (M.S j).isSome = true then V.ref (L.st j) else .non) = .non) = _
  cases M.S j with
  | none => rfl
  | some x => exact decide_eq_false (by intro z; cases z)
theorem ok_keep_add_stack (T : Txt P w K mg A) : FO P w K mg base A .d_keep_add_stack 4 (spAddStack A.cl K) := by
  refine (T.fn .d_keep_add_stack).ok sc_keep_add_stack (fun vs H Q E h => ?_) (fun cdv Ar outer s H vs Q E hr h => ?_)
  · obtain ⟨fn, G, L, M, rfl, _⟩ := h
    rfl
  · obtain ⟨fn, G, L, M, rfl, R, W, hrow, q0, q1, q2⟩ := h
    refine ⟨_, (pss_cons (ps_if (PW.pt (pw_or (pt_cmpR (op_notIn_none (hu_of hr)) pe_non (pe_fld (pv 0) rfl) rfl) (pw_or1 (pt_cmpR op_notIn_seq pe_bl (pe_fld (pv 0) rfl) rfl)))) (pss_one (ps_ret pe_non)) pss_nil) (pss_cons (ps_set (i := 2) sc_keep_add_stack.nd rfl (Or.inl rfl) (pe_make T.mk_stack (ok_stack_init T) (hr.mono (by decide)) rfl T.g_Stack (T.bi .d_stack_init) .nil pass0 (pa_cons (pe_bm PySem.F.plainAttrs_list PySem.F.slot_list_index PySem.F.type_list_index (mt_indexN (hu_of hr)) (pe_fld (pv 0) rfl) (pa_cons pe_non pa_nil)) pa_nil))) (pss_cons (ps_asg (pv 2) (pg_sub (pe_fld (pv 0) rfl) (pe_fld (pv 2) rfl) set_list)) (pss_cons (ps_expr (pe_meth (pv 0) T.c_keep T.m_keep_add_frame (ok_keep_add_frame T) (hr.mono (by decide)) (T.bi .d_keep_add_frame) .nil pass0 (pa_cons (pv 2) (pa_cons (pv 1) pa_nil)))) (pss_one (ps_ret (pv 2))))))), ?_⟩
    obtain ⟨dk, hk⟩ := R.kp
    have hsl := R.sls
    refine ⟨_, rfl, L.kp, _, dk, _, _, rfl, hk, T.c_keep, T.n_keep_stacks, kf_stacks _ _ _ _ _, L.sl, _, rfl, rfl, SqL.of hsl, stks_items T R, _, rfl, ?_⟩
    rw [any_stks]
    rcases first_not (p := fun j => (M.S j).isSome) 64 with hall | ⟨k, hk64, hkf, hbef⟩
    · have e : ((List.range 64).any fun j => !(M.S j).isSome) = false := by
        rw [List.any_eq_false]
        intro j hj
        rw [hall j (List.mem_range.mp hj)]
        simp
      rw [e]
      exact iteT (iteT (q0 hall))
    · have e : ((List.range 64).any fun j => !(M.S j).isSome) = true := by
        rw [List.any_eq_true]
        exact ⟨k, List.mem_range.mpr hk64, by rw [hkf]; rfl⟩
      rw [e]
      have hx : M.S k = none := by
        cases q : M.S k with
        | none => rfl
        | some x => rw [q] at hkf; cases hkf
      have hkr : k ∉ M.row := fun m => by
        have := hrow k m
        rw [hx] at this
        cases this
      refine iteF ⟨_, rfl, L.kp, _, dk, _, _, rfl, hk, T.c_keep, T.n_keep_taken, kf_taken _ _ _ _ _, L.tl, _, rfl, .inl (SqL.of R.tls), rfl, flat_taken, _, rfl, ?_⟩
      rcases first_not (p := tk M) 256 with hallp | ⟨p, hp, hpf, hpb⟩
      · rw [in_taken_all hallp]
        exact iteT (q1 hallp)
      · rw [in_taken_some hp hpf]
        refine iteF ⟨_, rfl, L.kp, _, dk, _, _, rfl, hk, T.c_keep, T.n_keep_stacks, kf_stacks _ _ _ _ _, .inl ⟨rfl, _, SqL.of hsl⟩, L.sl, _, k, rfl, rfl, SqL.of hsl, stks_items T R, (by rw [stksV_get hk64, hx]; rfl), ?_, fun a dx na ndx nex => ?_⟩
        · intro m z hm hz e
          rw [stksV_get (by omega), if_pos (hbef m hm)] at hz
          rw [e] at hz
          cases hz
        · refine ⟨a, dx, k, rfl, upd_same, fun H1 fr pc nfr npc h1 h2 h3 nfp h5 => ⟨rfl, ?_⟩⟩
          have s0 : Same H (upd (upd H dx (.own a)) a (.ins A.cl.stack dx [])) := fun b o e => by
            rw [upd_ne (ne_of_none e na), upd_ne (ne_of_none e ndx)]
            exact e
          have s1 : Same H H1 := Same.made na ndx h5
          have nf0 := s0.free nfr
          have nc0 := s0.free npc
          have naf : a ≠ fr := ne_of_none upd_same nfr
          have nac : a ≠ pc := ne_of_none upd_same npc
          have nla : L.sl ≠ a := ne_of_none hsl na
          have nlf : L.sl ≠ fr := ne_of_none hsl nf0
          have nlc : L.sl ≠ pc := ne_of_none hsl nc0
          have nlk : L.kp ≠ L.sl := R.ne (r := .kp) (r' := .sl) rfl rfl (by simp)
          have hk1 := s1 _ _ hk
          refine ⟨_, rfl, _, rfl, L.kp, _, dk, _, _, rfl, hk1, T.c_keep, T.n_keep_stacks, kf_stacks _ _ _ _ _, _, rfl, a, _, dx, _, _, rfl, h1, T.c_stack, T.n_stack_number, sf_number _ _ _ _ _, L.sl, _, _, k, rfl, rfl, s1 _ _ hsl, (by rw [stksV_length]; exact ixN_nat hk64), ?_⟩
          have R2 := R.addst (H' := upd H1 L.sl (.lst ((stksV L M).set k (.ref a)))) (p := a) (fr := fr) (pc := pc) (dx := dx) (cm := ⟨0, 0, 0⟩) hk64 hx hkr na nf0 nc0 naf nac nfp (by rw [upd_ne nla.symm]; exact h1) (by rw [upd_ne nlf.symm]; exact h2) (by rw [upd_ne nlc.symm]; exact h3) upd_same (fun b o e hb => by rw [upd_ne hb]; exact s1 b o e)
          have hst : (L.addst k a fr pc).st k = a := set1_same
          have W2 := W.addst (cm := ⟨0, 0, 0⟩) hk64 hx
          have ks2 : Kst G H (gad (gad (gad G a (.st k)) fr (.fr k)) pc (.pc k)) (upd H1 L.sl (.lst ((stksV L M).set k (.ref a)))) := fun b o e n => ⟨by
            rw [upd_ne (fun z => by
              subst z
              have := n _ (R.own .sl _ rfl).1
              cases this)]
            exact s1 b o e, by rw [gad_ne (ne_of_none e nc0), gad_ne (ne_of_none e nf0), gad_ne (ne_of_none e na)]⟩
          obtain ⟨dk2, hk2⟩ := R2.kp
          refine ⟨_, rfl, L.kp, dk2, _, rfl, hk2, (by kernel_rfl), _, rfl, _, rfl, k, fn, _, _, L.addst k a fr pc, _, ?_, R2, W2, up_S, fun c => ?_, fun _ hall' => ?_, fun _ p' hp' hpf' hpb' H' G' L' R' ks' kp' st' => ?_⟩
          · rw [hst]
            rfl
          · exact absurd c (by simp)
          · have := hall' p hp
            rw [tk_new hx, hpf] at this
            cases this
          · refine ⟨_, rfl, ?_⟩
            have e1 : L'.st k = a := by rw [st']; exact hst
            rw [up_up] at R'
            have hq := q2 k p' hk64 hx hbef hp' (by rw [tk_new hx] at hpf'; exact hpf') (fun q hq => by have := hpb' q hq; rw [tk_new hx] at this; exact this) H' G' L' (fun cm => ?_) (ks2.trans ks') ⟨kp'.kp, kp'.cm, kp'.un⟩
            · rw [e1] at hq
              exact hq
            · have := R'.came (k := k) (y := ⟨k, [{ fn := fn }], [p'], cm⟩) up_S rfl rfl
              rw [up_up] at this
              exact this
end
end Th
namespace Th
open PySem PySem.Spec PyProof.Rows L2
open Md35 (State Stack Throw Came Ans P unwind leave ending gathered over thrown)
theorem num_of {s : State} {k : Nat} {x y : Stack} (hx : s.stack k = some x) (e : y.number = x.number := by rfl) : y.number = k := e.trans (stack_number hx)
structure Wd (T : Cl) (K : PySem.W.Frag) (H : Hp) (G : Gh) (L : Lay) (s : State) (ak : Addr) (S : AS) : Prop where
  rep : Rep T K H G L (ms s)
  ask : AskAt T H G ak S
  tol : S.told.length = 6 * S.n
theorem AskAt.kst {T : Cl} {H H' : Hp} {G G' : Gh} {a : Addr} {S : AS} (h : AskAt T H G a S) (k : Kst G H G' H') : AskAt T H' G' a S := h.mono fun b o e n => k b o e fun r hr => by
  rcases n with n | n | n <;> rw [n] at hr <;> cases hr <;> rfl
theorem Wd.dom {T : Cl} {K : PySem.W.Frag} {H : Hp} {G : Gh} {L : Lay} {s : State} {ak : Addr} {S : AS} (w : Wd T K H G L s ak S) : Dom G H := w.rep.dom
theorem ms_up {s : State} {k : Nat} {x y : Stack} (h : s.stack k = some x) (hy : y.number = k) : ms (s.with_ y) = (ms s).up k (some y) := ms_with h hy
theorem ms_row (s : State) (row : List Nat) : ms { s with row := row } = { ms s with row := row } := rfl
/-- more things, unowned -/
theorem Rep.same {T : Cl} {K : PySem.W.Frag} {H H' : Hp} {G : Gh} {L : Lay} {M : MS} (R : Rep T K H G L M) (s : Same H H') : Rep T K H' G L M := R.mono (fun a o e _ => ⟨s a o e, rfl⟩) (Dom.same R.dom s)
theorem Wd.same {T : Cl} {K : PySem.W.Frag} {H H' : Hp} {G : Gh} {L : Lay} {s : State} {ak : Addr} {S : AS} (w : Wd T K H G L s ak S) (e : Same H H') : Wd T K H' G L s ak S := ⟨w.rep.same e, w.ask.same e, w.tol⟩
/-- the keep turned, the asks as they were -/
theorem Wd.kst {T : Cl} {K : PySem.W.Frag} {H H' : Hp} {G G' : Gh} {L L' : Lay} {s s' : State} {ak : Addr} {S : AS} (w : Wd T K H G L s ak S) (R : Rep T K H' G' L' (ms s')) (k : Kst G H G' H') : Wd T K H' G' L' s' ak S := ⟨R, w.ask.kst k, w.tol⟩
/-- what a call that may end tells -/
structure Out (T : Cl) (K : PySem.W.Frag) (G : Gh) (H : Hp) (kp ak : Addr) (S : AS) (p : P) (k : State → P) (Q : VK) : Prop where
  go : ∀ (H' : Hp) (G' : Gh) (L' : Lay) (s' : State) (S' : AS), Went S p S' (k s') → Wd T K H' G' L' s' ak S' → Good s' → s'.row ≠ [] → Com K H' G' L' (ms s') → Stay G H G' H' → L'.kp = kp → Q .non H'
  fin : ∀ (H' : Hp) (G' : Gh) (L' : Lay) (s' : State) (S' : AS) (a : Ans) (l : Addr), Went S p S' (.done s' a) → Wd T K H' G' L' s' ak S' → Good s' → s'.row = [] → Stay G H G' H' → L'.kp = kp →
    H' l = some (.lst ((a.value :: a.out).map V.int)) → G' l = none → Q (.ref l) H'
theorem Out.step {T : Cl} {K : PySem.W.Frag} {G G1 : Gh} {H H1 : Hp} {kp ak : Addr} {S S1 : AS} {p p1 : P} {k : State → P} {Q : VK} (o : Out T K G H kp ak S p k Q) (w : Went S p S1 p1) (st : Stay G H G1 H1) : Out T K G1 H1 kp ak S1 p1 k Q :=
  ⟨fun H' G' L' s' S' w' a b c d st' e => o.go H' G' L' s' S' (w.trans w') a b c d (st.trans st') e, fun H' G' L' s' S' x l w' a b c st' e h g => o.fin H' G' L' s' S' x l (w.trans w') a b c (st.trans st') e h g⟩
/-- what a call tells at its end -/
def OutD (T : Cl) (K : PySem.W.Frag) (G : Gh) (H : Hp) (kp ak : Addr) (S : AS) (p : P) (Q : VK) : Prop := ∀ (H' : Hp) (G' : Gh) (L' : Lay) (s' : State) (S' : AS) (a : Ans) (l : Addr), Went S p S' (.done s' a) → Wd T K H' G' L' s' ak S' → Good s' → Com K H' G' L' (ms s') → Stay G H G' H' → L'.kp = kp →
  H' l = some (.lst ((a.value :: a.out).map V.int)) → G' l = none → Q (.ref l) H'
theorem OutD.step {T : Cl} {K : PySem.W.Frag} {G G1 : Gh} {H H1 : Hp} {kp ak : Addr} {S S1 : AS} {p p1 : P} {Q : VK} (o : OutD T K G H kp ak S p Q) (w : Went S p S1 p1) (st : Stay G H G1 H1) : OutD T K G1 H1 kp ak S1 p1 Q :=
  fun H' G' L' s' S' x l w' a b c st' e h g => o H' G' L' s' S' x l (w.trans w') a b c (st.trans st') e h g
theorem com_nil {K : PySem.W.Frag} {H : Hp} {G : Gh} {L : Lay} {s : State} (h : s.row = []) : Com K H G L (ms s) := fun r x e _ => by
  have e' : s.row.head? = some r := e
  rw [h] at e'
  cases e'
theorem com_of {K : PySem.W.Frag} {H : Hp} {G : Gh} {L : Lay} {s : State} {r : Nat} {rest : List Nat} {x : Stack} (hr : s.row = r :: rest) (hx : s.stack r = some x) (h : Tup K H G L.cm (cameV x.came)) : Com K H G L (ms s) := fun r' x' e hx' => by
  have e' : s.row.head? = some r' := e
  rw [hr] at e'
  cases e'
  have e2 : s.stack r = some x' := hx'
  rw [hx] at e2
  cases e2
  exact h
theorem Com.get {K : PySem.W.Frag} {H : Hp} {G : Gh} {L : Lay} {s : State} {r : Nat} {rest : List Nat} {x : Stack} (c : Com K H G L (ms s)) (hr : s.row = r :: rest) (hx : s.stack r = some x) : Tup K H G L.cm (cameV x.came) :=
  c r x (by show s.row.head? = some r; rw [hr]; rfl) hx
structure Lay.Sam (L L' : Lay) : Prop extends Lay.Kpt L L' where
  st : L'.st = L.st
  fm : L'.fm = L.fm
  fr : L'.fr = L.fr
def spDropAct (T : Cl) (K : PySem.W.Frag) : Sp := fun vs H Q _ => ∃ (k : Nat) (x : Stack) (f : Md35.Frame) (fs : List Md35.Frame) (a : Md35.Act) (l : List Md35.Act) (wy : Int) (G : Gh) (L : Lay) (s : State) (ak : Addr) (S : AS), vs = [.ref ak, .ref (L.fm k fs.length), .int wy] ∧ Wd T K H G L s ak S ∧
  s.stack k = some x ∧ x.frames = f :: fs ∧ f.acts = a :: l ∧
  (∀ h, a = .handler h → ∀ (H' : Hp) (L' : Lay), Wd T K H' G L' (s.with_ (x.top { f with acts := l })) ak S → Stay G H G H' → L.Sam L' → Q .non H') ∧
  (∀ g, a = .last g → S.told.length + 6 ≤ 1000000 ∧ ∀ (v : V) (H' : Hp) (L' : Lay), Wd T K H' G L' (s.with_ (x.top { f with acts := l })) ak (S.add (.clean g wy)) → ThO T H' G v (if 0 < S.ans then some (thrown S.ans.toNat) else none) → Stay G H G H' → L.Sam L' → Q v H')
def catchB (t : Throw) : Md35.Act → Bool
  | .handler h => decide (h = 0 ∨ h = t.kind)
  | .last _ => false
def spCatches (T : Cl) (K : PySem.W.Frag) : Sp := fun vs H Q _ => ∃ (b : Addr) (a : Md35.Act) (v : V) (t : Throw) (G : Gh), vs = [.ref b, v] ∧ Fx H G b (.tup (actV a)) ∧ ThAt T H G v t ∧ ∀ H' : Hp, Same H H' → Q (.bl (catchB t a)) H'
def spTTF (T : Cl) (K : PySem.W.Frag) : Sp := fun vs H Q _ => ∃ (n : Nat) (t : Throw) (k : State → P) (r : Nat) (rest : List Nat) (x : Stack) (f : Md35.Frame) (fs : List Md35.Frame) (G : Gh) (L : Lay) (s : State) (ak : Addr) (S : AS) (v : V), vs = [.ref L.kp, .ref ak, v] ∧ Wd T K H G L s ak S ∧
  Good s ∧ s.row = r :: rest ∧ s.stack r = some x ∧ x.frames = f :: fs ∧ ThAt T H G v t ∧ s.size ≤ n ∧ Fits S (unwind n s t k) ∧
  (∀ (H' : Hp) (L' : Lay) (s' : State) (S' : AS), Went S (unwind n s t k) S' (k s') → Wd T K H' G L' s' ak S' → Good s' → s'.row = r :: rest → Com K H' G L' (ms s') → Stay G H G H' → L'.kp = L.kp → Q .non H') ∧
  (∀ (H' : Hp) (L' : Lay) (n' : Nat) (s' : State) (S' : AS) (v' : V) (t' : Throw) (x' : Stack) (f' : Md35.Frame), Went S (unwind n s t k) S' (unwind n' s' t' k) → Wd T K H' G L' s' ak S' → Good s' → s'.row = r :: rest → s'.stack r = some x' → x'.frames = f' :: fs → f'.acts = [] → s'.size ≤ n' → s'.size ≤ s.size →
    ThAt T H' G v' t' → Stay G H G H' → L.Sam L' → Q v' H')
def spThrowOn (T : Cl) (K : PySem.W.Frag) : Sp := fun vs H Q _ => ∃ (n : Nat) (t : Throw) (k : State → P) (G : Gh) (L : Lay) (s : State) (ak : Addr) (S : AS) (v : V), vs = [.ref L.kp, .ref ak, v] ∧ Wd T K H G L s ak S ∧ Good s ∧ ThAt T H G v t ∧ s.size ≤ n ∧ Fits S (unwind n s t k) ∧
  Out T K G H L.kp ak S (unwind n s t k) k Q
theorem Paired.snoc {α β : Type} {F : α → β → Prop} {b : β} : ∀ {l : List β} {as : List α}, Paired F as (l ++ [b]) → ∃ as' a, as = as' ++ [a] ∧ Paired F as' l ∧ F a b
  | [], _, .cons h t => by
    cases t
    exact ⟨[], _, rfl, .nil, h⟩
  | c :: l, _, .cons h t => by
    obtain ⟨as', a, rfl, h1, h2⟩ := Paired.snoc t
    exact ⟨_ :: as', a, rfl, .cons h h1, h2⟩
theorem Paired.put {α β : Type} {F : α → β → Prop} {a : α} {b : β} (hab : F a b) : ∀ {l : List β} {as : List α}, Paired F as l → Paired F (as ++ [a]) (l ++ [b])
  | _, _, .nil => .cons hab .nil
  | _, _, .cons h t => .cons h (Paired.put hab t)
theorem act_last {T : Cl} {K : PySem.W.Frag} {H : Hp} {G : Gh} {L : Lay} {M : MS} {k n : Nat} {f : Md35.Frame} {a : Md35.Act} {l : List Md35.Act} (R : Rep T K H G L M) (hf : frameAt M k n = some f) (ha : f.acts = a :: l) :
    ∃ as b, L.aa k n = as ++ [b] ∧ H (L.ac k n) = some (.lst (as.map V.ref ++ [V.ref b])) ∧ Acts H G as l.reverse ∧ Fx H G b (.tup (actV a)) := by
  have h1 := R.misc.act _ _ _ hf
  rw [ha, List.reverse_cons] at h1
  obtain ⟨as, b, e, h2, h3⟩ := Paired.snoc h1
  refine ⟨as, b, e, ?_, h2, h3⟩
  rw [R.acs hf, e, List.map_append]
  rfl
theorem room_n {S : AS} (h : S.told.length = 6 * S.n) (h2 : S.told.length + 6 ≤ 1000000) : S.n < 1000000 := by omega
theorem tol_add {S : AS} (h : S.told.length = 6 * S.n) (q : Md35.Ask) : (S.add q).told.length = 6 * (S.add q).n := by
  show (S.told ++ Md35Neutral.ofAsk q).length = 6 * (S.n + 1)
  rw [List.length_append, ofAsk_length, h]
  omega
section
variable {P : Program} {w : World} {K : PySem.W.Frag} {mg : Str → Option Value} {base : Heap} {A : Ad}
theorem ok_drop_act (T : Txt P w K mg A) : FO P w K mg base A .d_drop_act 6 (spDropAct A.cl K) := by
  refine (T.fn .d_drop_act).ok sc_drop_act (fun vs H Q E h => ?_) (fun cdv Ar outer s H vs Q E hr h => ?_)
  · obtain ⟨k, x, f, fs, a, l, wy, G, L, s, ak, S, rfl, _⟩ := h
    rfl
  · obtain ⟨k, x, f, fs, a, l, wy, G, L, st, ak, S, rfl, wd, hx, hf, ha, q0, q1⟩ := h
    refine ⟨_, (pss_cons (ps_set (i := 3) sc_drop_act.nd rfl (Or.inl rfl) (pe_bm0 PySem.F.plainAttrs_list PySem.F.slot_list_pop PySem.F.type_list_pop mt_pop (pe_fld (pv 1) rfl))) (pss_cons (ps_if (pt_cmpR op_ne (pe_ix ix_tup (pv 3) pe_int (fun _ _ => rfl)) (pe_ic T.k_LAST) (nomark _)) (pss_one (ps_ret pe_non)) pss_nil) (pss_one (ps_ret (pe_meth (pv 0) T.c_asks T.m_asks_clean (ok_asks_clean T) (hr.mono (by decide)) (T.bi .d_asks_clean) .nil pass0 (pa_cons (pe_ix ix_tup (pv 3) pe_int (fun _ _ => rfl)) (pa_cons (pv 2) pa_nil))))))), ?_⟩
    have hM : (ms st).S k = some x := hx
    have hfr := frameAt_head hM hf
    obtain ⟨df, hfm⟩ := wd.rep.frm hfr
    obtain ⟨as, b, eaa, hac, has, hb⟩ := act_last wd.rep hfr ha
    have hy : (x.top { f with acts := l }).frames = { f with acts := l } :: fs := top_frames hf
    have R1 := wd.rep.setacts (y := x.top { f with acts := l }) (as := as) hM hf hy rfl has
    have hn : (x.top { f with acts := l }).number = k := num_of hx
    rw [← ms_up hx hn] at R1
    have ks1 : Kst G H G (upd H (L.ac k fs.length) (.lst (as.map V.ref))) := Kst.own wd.rep (cont_ac hfr)
    have w1 := wd.kst R1 ks1
    have sam : L.Sam (L.acts k fs.length as) := ⟨⟨rfl, rfl, rfl⟩, rfl, rfl, rfl⟩
    refine ⟨_, rfl, L.fm k fs.length, _, df, _, _, rfl, hfm, T.c_frame, T.n_frame_acts, ff_acts _ _ _ _ _, .inl ⟨rfl, _, SqL.of hac⟩, L.ac k fs.length, _, _, rfl, rfl, hac, last_get _ _, ?_⟩
    rw [drop_last]
    have hb1 := hb.stay ks1.stay
    cases a with
    | handler h =>
      refine ⟨_, rfl, b, _, _, _, rfl, rfl, SqT.of hb1.1, rfl, rfl, _, rfl, ?_⟩
      exact iteT (q0 h rfl _ _ w1 ks1.stay sam)
    | last g =>
      refine ⟨_, rfl, b, _, _, _, rfl, rfl, SqT.of hb1.1, rfl, rfl, _, rfl, ?_⟩
      obtain ⟨hroom, qq⟩ := q1 g rfl
      obtain ⟨adx, rr, tt, haa, gaa, _⟩ := id w1.ask
      refine iteF ⟨_, rfl, ak, adx, _, rfl, haa, (by kernel_rfl), _, rfl, b, _, _, _, rfl, rfl, SqT.of hb1.1, rfl, _, rfl, ak, S, g, wy, G, rfl, w1.dom, w1.ask, hroom, room_n wd.tol hroom, fun v H' h1 h2 h3 => ?_⟩
      exact qq v H' _ ⟨h3.rep w1.rep, h1, tol_add wd.tol _⟩ h2 (ks1.stay.trans h3.stay) sam
theorem ok_catches (T : Txt P w K mg A) : FO P w K mg base A .d_catches 1 (spCatches A.cl K) := by
  refine (T.fn .d_catches).ok sc_catches (fun vs H Q E h => ?_) (fun cdv Ar outer s H vs Q E hr h => ?_)
  · obtain ⟨b, a, v, t, G, rfl, _⟩ := h
    rfl
  · obtain ⟨b, a, v, t, G, rfl, hb, ⟨ta, tdx, tc, tcs, rfl, ht, _⟩, q⟩ := h
    refine ⟨_, (pss_one (ps_ret (pe_and (pe_cmpR op_ne (pe_ix ix_tup (pv 0) pe_int (fun _ _ => rfl)) (pe_ic T.k_LAST) (nomark _)) (pe_one (pe_cmpR op_in_seq (pe_ix ix_tup (pv 0) pe_int (fun _ _ => rfl)) (pe_tup (pa_cons (pe_ic T.k_EVERY_KIND) (pa_cons (pe_fld (pv 1) rfl) pa_nil))) rfl))))), ?_⟩
    cases a with
    | handler h =>
      refine ⟨_, rfl, b, _, _, _, rfl, rfl, SqT.of hb.1, rfl, rfl, _, rfl, ?_⟩
      refine iteT ⟨_, rfl, b, _, _, _, rfl, rfl, SqT.of hb.1, rfl, _, rfl, ta, _, tdx, _, _, rfl, ht.1, T.c_throw, T.n_throw_kind, tf_kind _ _ _, (by show 2 ≤ sizeLine; decide), fun p hp => ?_⟩
      refine ⟨p, _, rfl, .inr (SqT.of upd_same), rfl, rfl, ?_⟩
      have e : inV (V.int (h : Int)) [V.int 0, V.int (t.kind : Int)] = catchB t (.handler h) := by
        show (((0 : Int) == (h : Int)) || (((t.kind : Int) == (h : Int)) || false)) = decide (h = 0 ∨ h = t.kind)
        rw [Bool.eq_iff_iff]
        simp
        omega
      show Q (V.bl (inV (V.int (h : Int)) [V.int 0, V.int (t.kind : Int)])) _
      rw [e]
      exact q _ (Same.new hp)
    | last g =>
      refine ⟨_, rfl, b, _, _, _, rfl, rfl, SqT.of hb.1, rfl, rfl, _, rfl, ?_⟩
      exact iteF (q H (Same.refl H))
end
end Th
namespace Th
open PySem PySem.Spec PyProof.Rows L2
open Md35 (State Stack Throw Came Ans P unwind leave ending gathered over thrown)
theorem Lay.Sam.refl (L : Lay) : L.Sam L := ⟨⟨rfl, rfl, rfl⟩, rfl, rfl, rfl⟩
theorem Lay.Sam.trans {L L1 L2 : Lay} (a : L.Sam L1) (b : L1.Sam L2) : L.Sam L2 := ⟨a.toKpt.trans b.toKpt, b.st.trans a.st, b.fm.trans a.fm, b.fr.trans a.fr⟩
theorem acts_nil {T : Cl} {K : PySem.W.Frag} {H : Hp} {G : Gh} {L : Lay} {M : MS} {k n : Nat} {f : Md35.Frame} (R : Rep T K H G L M) (hf : frameAt M k n = some f) (ha : f.acts = []) : H (L.ac k n) = some (.lst []) := by
  have h1 := R.misc.act _ _ _ hf
  rw [ha] at h1
  have h2 := R.acs hf
  cases e : L.aa k n with
  | nil => rw [e] at h2; exact h2
  | cons b bs => rw [e] at h1; cases h1
theorem snoc_ne {α : Type} (xs : List α) (y : α) : (!(xs ++ [y]).isEmpty) = true := by
  cases xs <;> rfl
theorem ThAt.ne {T : Cl} {H : Hp} {G : Gh} {v : V} {t : Throw} (h : ThAt T H G v t) : ¬ v = .non := by
  obtain ⟨a, _, _, _, rfl, _⟩ := h
  intro z
  cases z
theorem size_succ {n : Nat} {s : State} (h : s.size ≤ n) : ∃ m, n = m + 1 := ⟨n - 1, by have := size_pos s; omega⟩
theorem top_act {s : State} {k : Nat} {x : Stack} {f : Md35.Frame} {fs : List Md35.Frame} {a : Md35.Act} {l : List Md35.Act} (g : Good s) (hx : s.stack k = some x) (hf : x.frames = f :: fs) (ha : f.acts = a :: l) :
    Good (s.with_ (x.top { f with acts := l })) ∧ (s.with_ (x.top { f with acts := l })).stack k = some (x.top { f with acts := l }) ∧ (x.top { f with acts := l }).frames = { f with acts := l } :: fs := by
  have sw := g.sw k x hx
  have hm : f ∈ x.frames := by rw [hf]; simp
  have h1 := sw.acl f hm
  rw [ha, List.length_cons] at h1
  exact ⟨g.top (f' := { f with acts := l }) hx hf (sw.wds f hm) (by show l.length ≤ 32; omega) x.came, stack_with_same hx (num_of hx), top_frames hf⟩
section
variable {P : Program} {w : World} {K : PySem.W.Frag} {mg : Str → Option Value} {base : Heap} {A : Ad}
theorem ok_throw_through_frame (T : Txt P w K mg A) : FO P w K mg base A .d_throw_through_frame 7 (spTTF A.cl K) := by
  refine (T.fn .d_throw_through_frame).ok sc_throw_through_frame (fun vs H Q E h => ?_) (fun cdv Ar outer s H vs Q E hr h => ?_)
  · obtain ⟨n, t, k, r, rest, x, f, fs, G, L, st, ak, S, v, rfl, _⟩ := h
    rfl
  · obtain ⟨n, t, k, r, rest, x, f, fs, G, L, st, ak, S, v, rfl, wd, good, hr0, hx, hf, hth, hsz, hfit, q0, q1⟩ := h
    refine ⟨_, (pss_cons (ps_set (i := 3) sc_throw_through_frame.nd rfl (Or.inl rfl) (pe_meth0 (pe_fld (pv 0) rfl) T.c_stack T.m_stack_innermost (ok_stack_innermost T) (hr.mono (by decide)) (T.bi .d_stack_innermost) .nil pass0)) (pss_cons (ps_while PassesOwn.never (pt_truth (pe_fld (pv 3) rfl) (fun _ => rfl)) (pss_cons (ps_if (pt_val (pe_call (ok_catches T) (hr.mono (by decide)) rfl T.g_catches (T.fn .d_catches).kp (T.bi .d_catches) .nil pass0 (pa_cons (pe_ix ix_list (pe_fld (pv 3) rfl) (pe_un un_neg pe_int) (fun _ _ => rfl)) (pa_cons (pv 2) pa_nil)))) (pss_cons (ps_expr (pe_bm0 PySem.F.plainAttrs_list PySem.F.slot_list_pop PySem.F.type_list_pop mt_pop (pe_fld (pv 3) rfl))) (pss_cons (ps_fld (pv 3) (pv 2) rfl) (pss_cons (ps_fld (pv 0) (pe_tup (pa_cons (pe_ic T.k_CAUGHT) (pa_cons (pe_fld (pv 2) rfl) (pa_cons (pe_fld (pv 2) rfl) pa_nil)))) rfl) (pss_one (ps_ret pe_non))))) pss_nil) (pss_cons (ps_set (i := 4) sc_throw_through_frame.nd rfl (Or.inl rfl) (pe_call (ok_drop_act T) (hr.mono (by decide)) rfl T.g_drop_act (T.fn .d_drop_act).kp (T.bi .d_drop_act) .nil pass0 (pa_cons (pv 1) (pa_cons (pv 3) (pa_cons (pe_ic T.k_WHY_THROW) pa_nil))))) (pss_one (ps_if (pt_cmpR op_notN (pv 4) pe_non (nomark _)) (pss_one (ps_set (i := 2) sc_throw_through_frame.nd rfl (Or.inl rfl) (pe_call (ok_in_place_of T) (hr.mono (by decide)) rfl T.g_in_place_of (T.fn .d_in_place_of).kp (T.bi .d_in_place_of) .nil pass0 (pa_cons (pv 2) (pa_cons (pv 4) pa_nil))))) pss_nil))))) (pss_one (ps_ret (pv 2))))), ?_⟩
    have hM : (ms st).S r = some x := hx
    obtain ⟨dk, hk⟩ := wd.rep.kp
    rw [show (ms st).row = r :: rest from hr0] at hk
    obtain ⟨ds, hs⟩ := wd.rep.stk (live_of hM)
    have hin := wd.rep.inner hM hf
    refine ⟨_, rfl, L.kp, _, dk, _, _, rfl, hk, T.c_keep, T.n_keep_running, kf_running _ _ _ _ _, L.st r, ds, _, rfl, hs, (by kernel_rfl), L.st r, ds, r, _, _, _, _, _, _, rfl, hs, hin, ?_⟩
    obtain ⟨Wv, hW⟩ : ∃ W : Nat → L2.St → Hp → Prop, W = fun m σ H1 => ∃ (L1 : Lay) (n1 : Nat) (s1 : State) (S1 : AS) (v1 : V) (t1 : Throw) (x1 : Stack) (f1 : Md35.Frame) (u : Option V), σ = [some (.ref L.kp), some (.ref ak), some v1, some (.ref (L1.fm r fs.length)), u] ∧ m = f1.acts.length ∧
        Went S (unwind n st t k) S1 (unwind n1 s1 t1 k) ∧ Wd A.cl K H1 G L1 s1 ak S1 ∧ Good s1 ∧ s1.row = r :: rest ∧ s1.stack r = some x1 ∧ x1.frames = f1 :: fs ∧ s1.size ≤ n1 ∧ s1.size ≤ st.size ∧ ThAt A.cl H1 G v1 t1 ∧ Stay G H G H1 ∧ L.Sam L1 := ⟨_, rfl⟩
    refine ⟨Wv, ⟨f.acts.length, ?_⟩, fun m σ H1 hw => ?_⟩
    · rw [hW]
      exact ⟨L, n, st, S, v, t, x, f, none, rfl, rfl, Went.refl _ _, wd, good, hr0, hx, hf, hsz, Nat.le_refl _, hth, Stay.refl _ _, Lay.Sam.refl L⟩
    · rw [hW] at hw
      obtain ⟨L1, n1, s1, S1, v1, t1, x1, f1, u, rfl, rfl, went, wd1, good1, hr1, hx1, hf1, hsz1, hle1, hth1, st1, sam1⟩ := hw
      have hM1 : (ms s1).S r = some x1 := hx1
      have hfr1 := frameAt_head hM1 hf1
      obtain ⟨df1, hfm1⟩ := wd1.rep.frm hfr1
      have fit1 := went.fits hfit
      cases ha : f1.acts with
      | nil =>
        have hac := acts_nil wd1.rep hfr1 ha
        refine ⟨_, rfl, L1.fm r fs.length, _, df1, _, _, rfl, hfm1, T.c_frame, T.n_frame_acts, ff_acts _ _ _ _ _, _, .inl ⟨_, SqL.of hac, rfl⟩, iteF ?_⟩
        exact ⟨_, rfl, q1 H1 L1 n1 s1 S1 v1 t1 x1 f1 went wd1 good1 hr1 hx1 hf1 ha hsz1 hle1 hth1 st1 sam1⟩
      | cons a l =>
        obtain ⟨as, b, eaa, hac, has, hb⟩ := act_last wd1.rep hfr1 ha
        refine ⟨_, rfl, L1.fm r fs.length, _, df1, _, _, rfl, hfm1, T.c_frame, T.n_frame_acts, ff_acts _ _ _ _ _, _, .inl ⟨_, SqL.of hac, rfl⟩, ?_⟩
        rw [snoc_ne]
        refine iteT ⟨_, fun σ' H' h => h, ?_⟩
        refine ⟨_, rfl, L1.fm r fs.length, _, df1, _, _, rfl, hfm1, T.c_frame, T.n_frame_acts, ff_acts _ _ _ _ _, _, rfl, L1.ac r fs.length, _, _, _, rfl, rfl, SqL.of hac, atI_last _ _, _, rfl, b, a, v1, t1, G, rfl, hb, hth1, fun H2 s2 => ⟨_, rfl, ?_⟩⟩
        have wd2 := wd1.same s2
        have hth2 := hth1.stay (Same.stay (G := G) s2)
        have hac2 := s2 _ _ hac
        have hfm2 := s2 _ _ hfm1
        have has2 : Acts H2 G as l.reverse := has.stay (Same.stay s2)
        have st2 : Stay G H G H2 := st1.trans (Same.stay s2)
        obtain ⟨n2, rfl⟩ := size_succ hsz1
        obtain ⟨good3, hx3, hf3⟩ := top_act good1 hx1 hf1 ha
        have hsz3 := size_act good1.toWF hx1 hf1 ha
        have hn3 : (x1.top { f1 with acts := l }).number = r := num_of hx1
        cases hc : catchB t1 a with
        | true =>
          obtain ⟨h, rfl, hcond⟩ : ∃ h, a = .handler h ∧ (h = 0 ∨ h = t1.kind) := by
            cases a with
            | handler h => exact ⟨h, rfl, of_decide_eq_true hc⟩
            | last g => cases hc
          refine iteT ?_
          refine ⟨_, rfl, L1.fm r fs.length, _, df1, _, _, rfl, hfm2, T.c_frame, T.n_frame_acts, ff_acts _ _ _ _ _, .inl ⟨rfl, _, SqL.of hac2⟩, L1.ac r fs.length, _, _, rfl, rfl, hac2, last_get _ _, ?_⟩
          rw [drop_last]
          have R3 := wd2.rep.setacts (y := x1.top { f1 with acts := l }) (as := as) hM1 hf1 hf3 rfl has2
          have ks3 : Kst G H2 G (upd H2 (L1.ac r fs.length) (.lst (as.map V.ref))) := Kst.own wd2.rep (cont_ac hfr1)
          have hM3 : ((ms s1).up r (some (x1.top { f1 with acts := l }))).S r = some (x1.top { f1 with acts := l }) := up_S
          have hfr3 := frameAt_head hM3 hf3
          obtain ⟨df3, hfm3⟩ := R3.frm hfr3
          refine ⟨_, rfl, _, rfl, L1.fm r fs.length, _, df3, _, rfl, hfm3, T.c_frame, T.n_frame_caught, (by show 5 < 1000; decide), ?_⟩
          rw [ff_pcaught]
          have hth3 := hth2.stay ks3.stay
          have R4 := R3.setcaught (dx := df3) (v := v1) (t := some t1) (y := { (x1.top { f1 with acts := l, caught := some t1 }) with came := ⟨2, t1.value, (t1.kind : Int)⟩ }) hM3 hf3 (top_frames hf1) rfl hth3
          rw [up_up] at R4
          have ks4 := ks3.trans (Kst.upd (a := L1.fm r fs.length) (o := .ins A.cl.frame df3 (ff f1.fn f1.place (L1.wd r fs.length) v1 (L1.ac r fs.length))) (R3.own (.fm r fs.length) _ (cont_fm hfr3)).1 rfl)
          have hth4 := hth2.stay ks4.stay
          obtain ⟨ta, tdx, tc, tcs, rfl, ht, htc, htcs, htl⟩ := id hth4
          refine ⟨_, rfl, ta, _, tdx, _, _, rfl, ht.1, T.c_throw, T.n_throw_value, tf_value _ _ _, _, rfl, ta, _, tdx, _, _, rfl, ht.1, T.c_throw, T.n_throw_kind, tf_kind _ _ _, (by show 3 ≤ sizeLine; decide), fun c hcn => ?_⟩
          have R5 := R4.same (Same.new (o := .tup [.int 2, .int t1.value, .int (t1.kind : Int)]) hcn)
          obtain ⟨dk5, hk5⟩ := R5.kp
          have hkp1 : L1.kp = L.kp := sam1.kp
          refine ⟨_, rfl, L.kp, _, dk5, _, rfl, (by rw [← hkp1]; exact hk5), T.c_keep, T.n_keep_come, (by show 5 < 1000; decide), ?_⟩
          rw [kf_pcome, ← hkp1]
          have R6 := R5.setcm (dx := dk5) (c := c)
          have nkc : L1.kp ≠ c := ne_of_none (R4.kp.choose_spec) hcn
          rw [← ms_up (y := { (x1.top { f1 with acts := l, caught := some t1 }) with came := ⟨2, t1.value, (t1.kind : Int)⟩ }) hx1 (show x1.number = r from stack_number hx1)] at R6
          have ks6 := ks4.trans ((Kst.same (Same.new (o := .tup [.int 2, .int t1.value, .int (t1.kind : Int)]) hcn)).trans (Kst.upd (a := L1.kp) (o := .ins A.cl.keep dk5 (kf L1.sl L1.tl (runV L1 (ms s1).row) c L1.un)) (R5.own .kp _ rfl).1 rfl))
          have sw := good1.sw r x1 hx1
          have hm : f1 ∈ x1.frames := by rw [hf1]; simp
          have hal := sw.acl f1 hm
          rw [ha, List.length_cons] at hal
          refine q0 _ _ _ S1 (went.trans (Went.of_eq (unwind_catch hr1 hx1 hf1 ha hcond))) (wd2.kst R6 ks6) (good1.top (f' := { f1 with acts := l, caught := some t1 }) hx1 hf1 (sw.wds f1 hm) (by show l.length ≤ 32; omega) _) hr1 (com_of hr1 (stack_with_same hx1 (show x1.number = r from stack_number hx1)) (.inl ⟨?_, R4.free hcn⟩)) (st2.trans ks6.stay) hkp1
          show upd _ _ _ c = some (.tup (cameV ⟨2, t1.value, (t1.kind : Int)⟩))
          rw [upd_ne nkc.symm]
          exact upd_same
        | false =>
          refine iteF ?_
          refine ⟨_, rfl, _, rfl, r, x1, f1, fs, a, l, 1, G, L1, s1, ak, S1, rfl, wd2, hx1, hf1, ha, fun h eh H3 L3 w3 st3 sam3 => ?_, fun g eg => ?_⟩
          · refine ⟨_, rfl, rfl, _, rfl, iteF ?_⟩
            subst eh
            have hno : ¬ (h = 0 ∨ h = t1.kind) := of_decide_eq_false hc
            refine ⟨l.length, (by first | exact Nat.lt_succ_self _ | (rw [ha]; exact Nat.lt_succ_self _)), ?_⟩
            rw [hW]
            exact ⟨L3, n2, _, S1, v1, t1, _, { f1 with acts := l }, _, (by rw [sam3.fm]; rfl), rfl, went.trans (Went.of_eq (unwind_skip hr1 hx1 hf1 ha hno)), w3, good3, hr1, hx3, hf3, by omega, by omega, hth2.stay st3, st2.trans st3, sam1.trans sam3⟩
          · subst eg
            have fl := fit1
            rw [unwind_last hr1 hx1 hf1 ha] at fl
            refine ⟨fl.ask, fun z H3 L3 w3 th3 st3 sam3 => ?_⟩
            have went3 : Went S (unwind n st t k) (S1.add (.clean g 1)) (unwind n2 (s1.with_ (x1.top { f1 with acts := l })) (if 0 < S1.ans then over (thrown S1.ans.toNat) t1 else t1) k) :=
              went.trans ((Went.of_eq (unwind_last hr1 hx1 hf1 ha)).trans Went.ask)
            by_cases hz : 0 < S1.ans
            · rw [if_pos hz] at th3
              rw [if_pos hz] at went3
              have th3' : ThAt A.cl H3 G z (thrown S1.ans.toNat) := th3
              refine ⟨_, rfl, rfl, _, rfl, ?_⟩
              rw [decide_eq_false th3'.ne]
              refine iteT ⟨_, rfl, _, rfl, v1, z, t1, thrown S1.ans.toNat, G, rfl, w3.dom, hth2.stay st3, th3', rfl, fun y H4 th4 s4 => ?_⟩
              refine ⟨l.length, (by first | exact Nat.lt_succ_self _ | (rw [ha]; exact Nat.lt_succ_self _)), ?_⟩
              rw [hW]
              exact ⟨L3, n2, _, _, y, _, _, { f1 with acts := l }, _, (by rw [sam3.fm]; rfl), rfl, went3, w3.same s4, good3, hr1, hx3, hf3, by omega, by omega, th4, st2.trans (st3.trans (Same.stay s4)), sam1.trans sam3⟩
            · rw [if_neg hz] at th3
              rw [if_neg hz] at went3
              have th3' : z = .non := th3
              subst th3'
              refine ⟨_, rfl, rfl, _, rfl, iteF ?_⟩
              refine ⟨l.length, (by first | exact Nat.lt_succ_self _ | (rw [ha]; exact Nat.lt_succ_self _)), ?_⟩
              rw [hW]
              exact ⟨L3, n2, _, _, v1, t1, _, { f1 with acts := l }, _, (by rw [sam3.fm]; rfl), rfl, went3, w3, good3, hr1, hx3, hf3, by omega, by omega, hth2.stay st3, st2.trans st3, sam1.trans sam3⟩
end
end Th
namespace Th
open PySem PySem.Spec PyProof.Rows L2
open Md35 (State Stack Throw Came Ans P unwind leave ending gathered over thrown)
theorem ms_out (s : State) (r : Nat) (rest : List Nat) : ms { (s.without r) with row := rest } = { (ms s).up r none with row := rest } := by
  have e := ms_without s r
  show (⟨(s.without r).stack, rest, s.uncaught⟩ : MS) = ⟨upS s.stack r none, rest, s.uncaught⟩
  have e2 : (s.without r).stack = upS s.stack r none := congrArg MS.S e
  rw [e2]
section
variable {P : Program} {w : World} {K : PySem.W.Frag} {mg : Str → Option Value} {base : Heap} {A : Ad}
theorem ok_throw_on (T : Txt P w K mg A) : FO P w K mg base A .d_throw_on 8 (spThrowOn A.cl K) := by
  refine (T.fn .d_throw_on).ok sc_throw_on (fun vs H Q E h => ?_) (fun cdv Ar outer s H vs Q E hr h => ?_)
  · obtain ⟨n, t, k, G, L, st, ak, S, v, rfl, _⟩ := h
    rfl
  · obtain ⟨n, t, k, G, L, st, ak, S, v, rfl, wd, good, hth, hsz, hfit, out⟩ := h
    refine ⟨_, (pss_cons (ps_while PassesOwn.never (pt_cmpR op_notN (pe_fld (pv 0) rfl) pe_non (nomark _)) (pss_cons (ps_set (i := 3) sc_throw_on.nd rfl (Or.inl rfl) (pe_fld (pv 0) rfl)) (pss_cons (ps_set (i := 2) sc_throw_on.nd rfl (Or.inl rfl) (pe_call (ok_throw_through_frame T) (hr.mono (by decide)) rfl T.g_throw_through_frame (T.fn .d_throw_through_frame).kp (T.bi .d_throw_through_frame) .nil pass0 (pa_cons (pv 0) (pa_cons (pv 1) (pa_cons (pv 2) pa_nil))))) (pss_cons (ps_if (pt_cmpR op_isN (pv 2) pe_non (nomark _)) (pss_one (ps_ret pe_non)) pss_nil) (pss_cons (ps_expr (pe_meth (pv 0) T.c_keep T.m_keep_drop_frame (ok_keep_drop_frame T) (hr.mono (by decide)) (T.bi .d_keep_drop_frame) .nil pass0 (pa_cons (pv 3) pa_nil))) (pss_one (ps_if (pt_not (pt_truth (pe_fld (pv 3) rfl) (fun _ => rfl))) (pss_cons (ps_expr (pe_meth (pv 0) T.c_keep T.m_keep_drop_stack (ok_keep_drop_stack T) (hr.mono (by decide)) (T.bi .d_keep_drop_stack) .nil pass0 (pa_cons (pv 3) pa_nil))) (pss_one (ps_expr (pe_meth0 (pv 0) T.c_keep T.m_keep_take_off (ok_keep_take_off T) (hr.mono (by decide)) (T.bi .d_keep_take_off) .nil pass0)))) pss_nil))))))) (pss_cons (ps_fld (pv 0) (pv 2) rfl) (pss_one (ps_ret (pe_lst (pa_cons (pe_ic T.k_UNCAUGHT) (pa_cons (pe_fld (pv 2) rfl) (pa_cons (pe_fld (pv 2) rfl) (pa_cons (pe_callB call_len_seq (by rfl) T.b_len PySem.boot_len (pa_cons (pe_fld (pv 2) rfl) pa_nil)) pa_nil))))))))), ?_⟩
    obtain ⟨Wv, hW⟩ : ∃ W : Nat → L2.St → Hp → Prop, W = fun m σ H1 => ∃ (L1 : Lay) (n1 : Nat) (s1 : State) (S1 : AS) (v1 : V) (t1 : Throw) (u : Option V), σ = [some (.ref L.kp), some (.ref ak), some v1, u] ∧ m = s1.size ∧
        Went S (unwind n st t k) S1 (unwind n1 s1 t1 k) ∧ Wd A.cl K H1 G L1 s1 ak S1 ∧ Good s1 ∧ s1.size ≤ n1 ∧ ThAt A.cl H1 G v1 t1 ∧ Stay G H G H1 ∧ L1.kp = L.kp := ⟨_, rfl⟩
    refine ⟨Wv, ⟨st.size, ?_⟩, fun m σ H1 hw => ?_⟩
    · rw [hW]
      exact ⟨L, n, st, S, v, t, none, rfl, rfl, Went.refl _ _, wd, good, hsz, hth, Stay.refl _ _, rfl⟩
    · rw [hW] at hw
      obtain ⟨L1, n1, s1, S1, v1, t1, u, rfl, rfl, went, wd1, good1, hsz1, hth1, st1, hkp⟩ := hw
      obtain ⟨dk1, hk1⟩ := wd1.rep.kp
      have fit1 := went.fits hfit
      rw [hkp] at hk1
      refine ⟨_, rfl, L.kp, _, dk1, _, _, rfl, hk1, T.c_keep, T.n_keep_running, kf_running _ _ _ _ _, rfl, _, rfl, ?_⟩
      rw [runV_non]
      cases hrow : s1.row with
      | nil =>
        rw [show (ms s1).row = [] from hrow]
        refine iteF ?_
        refine ⟨_, rfl, _, rfl, L.kp, _, dk1, _, rfl, hk1, T.c_keep, T.n_keep_uncaught, (by show 5 < 1000; decide), ?_⟩
        rw [kf_puncaught]
        have R2 := wd1.rep.setun (dx := dk1) (v := v1) (t := some t1) hth1
        have R2 : Rep A.cl K (upd H1 L.kp (.ins A.cl.keep dk1 (kf L1.sl L1.tl (runV L1 (ms s1).row) L1.cm v1))) G { L1 with un := v1 } (ms { s1 with uncaught := some t1 }) := by
          rw [← hkp]
          exact R2
        have ks2 : Kst G H1 G (upd H1 L.kp (.ins A.cl.keep dk1 (kf L1.sl L1.tl (runV L1 (ms s1).row) L1.cm v1))) := Kst.upd (r := .kp) (by rw [← hkp]; exact (wd1.rep.own .kp _ rfl).1) rfl
        have hth2 := hth1.stay ks2.stay
        obtain ⟨ta, tdx, tc, tcs, rfl, ht, htc, htcs, htl⟩ := id hth2
        refine ⟨_, rfl, ta, _, tdx, _, _, rfl, ht.1, T.c_throw, T.n_throw_kind, tf_kind _ _ _, _, rfl, ta, _, tdx, _, _, rfl, ht.1, T.c_throw, T.n_throw_value, tf_value _ _ _, _, rfl, ta, _, tdx, _, _, rfl, ht.1, T.c_throw, T.n_throw_causes, tf_causes _ _ _, tc, _, rfl, .inl (SqL.of htc.1), (by show 4 ≤ sizeLine; decide), fun l hl => ?_⟩
        have w2 : Wd A.cl K _ G { L1 with un := V.ref ta } { s1 with uncaught := some t1 } ak S1 := wd1.kst R2 ks2
        have elen : (tcs.map V.ref).length = t1.causes.length := by rw [List.length_map]; exact Paired.length htcs
        refine out.fin _ G _ _ S1 _ l (went.trans (Went.of_eq (unwind_nil hrow))) (w2.same (Same.new hl)) (good1.unc _) hrow (st1.trans (ks2.stay.trans (new_stay hl))) hkp ?_ (R2.free hl)
        rw [upd_same, elen]
        rfl
      | cons r rest =>
        rw [show (ms s1).row = r :: rest from hrow]
        refine iteT ⟨_, fun σ' H' h => h, ?_⟩
        obtain ⟨x1, f1, fs1, hx1, hf1⟩ := good1.head hrow
        have hk1' := hk1
        rw [show (ms s1).row = r :: rest from hrow] at hk1'
        refine ⟨_, rfl, L.kp, _, dk1, _, _, rfl, hk1', T.c_keep, T.n_keep_running, kf_running _ _ _ _ _, ?_⟩
        refine ⟨_, rfl, _, rfl, _, rfl, n1, t1, k, r, rest, x1, f1, fs1, G, L1, s1, ak, S1, v1, (by rw [hkp]; rfl), wd1, good1, hrow, hx1, hf1, hth1, hsz1, fit1, fun H2 L2 s2 S2 went2 w2 g2 r2 com2 st2 kp2 => ?_, fun H2 L2 n2 s2 S2 v2 t2 x2 f2 went2 w2 g2 r2 hx2 hf2 ha2 hsz2 hle2 th2 st2 sam2 => ?_⟩
        · refine ⟨_, rfl, rfl, _, rfl, ?_⟩
          rw [decide_eq_true rfl]
          exact iteT (out.go H2 G L2 s2 S2 (went.trans went2) w2 g2 (by rw [r2]; simp) com2 (st1.trans st2) (kp2.trans hkp))
        · refine ⟨_, rfl, rfl, _, rfl, ?_⟩
          rw [decide_eq_false th2.ne]
          refine iteF ?_
          have hkp2 : L2.kp = L.kp := sam2.kp.trans hkp
          obtain ⟨dk2, hk2⟩ := w2.rep.kp
          rw [hkp2] at hk2
          have hM2 : (ms s2).S r = some x2 := hx2
          refine ⟨_, rfl, L.kp, dk2, _, rfl, hk2, (by kernel_rfl), _, rfl, r, x2, f2, fs1, G, L2, ms s2, (by rw [hkp2, sam2.st]; rfl), w2.rep, g2.toWF.mw, hM2, hf2, fun H3 R3 ks3 => ?_⟩
          have hn2 : x2.pop.number = r := (show x2.number = r from stack_number hx2)
          have hM3 : ((ms s2).up r (some x2.pop)).S r = some x2.pop := up_S
          obtain ⟨ds3, hs3⟩ := R3.stk (live_of hM3)
          have hfr3 := R3.frs hM3
          rw [sam2.st] at hs3
          have pf := pop_frames hf2
          refine ⟨_, rfl, L1.st r, _, ds3, _, _, rfl, hs3, T.c_stack, T.n_stack_frames, sf_frames _ _ _ _ _, _, .inl ⟨_, SqL.of hfr3, rfl⟩, ?_⟩
          rw [pf]
          obtain ⟨n3, rfl⟩ := size_succ hsz2
          have hsp := size_pop g2.toWF hx2 hf2
          have hx3 : (s2.with_ x2.pop).stack r = some x2.pop := stack_with_same hx2 hn2
          rw [← ms_up hx2 hn2] at R3
          have went3 := (went.trans went2).trans (Went.of_eq (unwind_pop (n := n3) r2 hx2 hf2 ha2))
          have w3 := w2.kst R3 ks3
          cases fs1 with
          | cons g gs =>
            have e : (!(!(frsV L2 r (g :: gs).length).isEmpty)) = false := by
              rw [List.length_cons, frsV_succ, snoc_ne]
              rfl
            rw [e]
            refine iteF ⟨(s2.with_ x2.pop).size, by omega, ?_⟩
            rw [hW]
            exact ⟨L2, n3, _, S2, v2, t2, _, rfl, rfl, went3, w3, g2.pop hx2 hf2 (by simp), by omega, th2.stay ks3.stay, st1.trans (st2.trans ks3.stay), hkp2⟩
          | nil =>
            have e : (!(!(frsV L2 r ([] : List Md35.Frame).length).isEmpty)) = true := rfl
            rw [e]
            have wf3 := g2.toWF.pop hx2 hf2
            obtain ⟨dk3, hk3⟩ := R3.kp
            rw [hkp2] at hk3
            refine iteT ⟨_, rfl, L.kp, dk3, _, rfl, hk3, (by kernel_rfl), _, rfl, r, x2.pop, G, L2, ms (s2.with_ x2.pop), (by rw [hkp2, sam2.st]; rfl), R3, wf3.mw, hx3, fun H4 R4 ks4 => ?_⟩
            obtain ⟨dk4, hk4⟩ := R4.kp
            rw [hkp2] at hk4
            have hnd := g2.rnd
            rw [r2, List.nodup_cons] at hnd
            refine ⟨_, rfl, L.kp, dk4, _, rfl, hk4, (by kernel_rfl), r, rest, G, L2, _, (by rw [hkp2]; rfl), R4, r2, hnd.1, fun H5 R5 ks5 _ => ?_⟩
            have R5' : Rep A.cl K H5 G L2 (ms { ((s2.with_ x2.pop).without r) with row := rest }) := by
              rw [ms_out]
              exact R5
            have esz := size_without wf3 hx3
            obtain ⟨n4, rfl⟩ : ∃ m, n3 = m + 1 := ⟨n3 - 1, by have := size_pos (s2.with_ x2.pop); omega⟩
            have went5 := went3.trans (Went.of_eq (unwind_gone (n := n4) (rest := rest) r2 hx3 pf))
            have ew : ((s2.with_ x2.pop).without r) = s2.without r := by rw [← hn2]; exact without_with
            refine ⟨((s2.with_ x2.pop).without r).size, by omega, ?_⟩
            rw [hW]
            refine ⟨L2, n4, { ((s2.with_ x2.pop).without r) with row := rest }, S2, v2, t2, _, rfl, rfl, went5, w3.kst R5' (ks4.trans ks5), ?_, ?_, th2.stay ((ks3.trans ks4).trans ks5).stay, st1.trans (st2.trans ((ks3.trans ks4).trans ks5).stay), hkp2⟩
            · rw [ew]
              exact g2.gone r2
            · show ((s2.with_ x2.pop).without r).size ≤ n4
              omega
end
end Th
namespace Th
open PySem PySem.Spec PyProof.Rows L2
open Md35 (State Stack Throw Came Ans P unwind leave ending gathered over thrown)
/-- good but for the stack that is being ended -/
structure GoodX (s : State) (r : Nat) : Prop extends WF s where
  rin : ∀ q ∈ s.row, ∃ x, s.stack q = some x
  nin : r ∉ s.row
  live : ∀ k x, k ≠ r → s.stack k = some x → x.frames ≠ []
theorem Good.x {s : State} (h : Good s) {r : Nat} (hr : r ∉ s.row) : GoodX s r := ⟨h.toWF, h.rin, hr, fun k x _ e => h.live k x e⟩
theorem GoodX.with_ {s : State} {r : Nat} (h : GoodX s r) {x y : Stack} (hx : s.stack r = some x) (hy : y.number = r) (sy : SW y) (hp : ∀ p ∈ y.pieces, p ∈ x.pieces) : GoodX (s.with_ y) r := by
  refine ⟨h.toWF.withP hx hy sy hp, fun q hq => ?_, h.nin, fun k z hk e => ?_⟩
  · obtain ⟨z, hz⟩ := h.rin q hq
    exact ⟨z, by rw [stack_with_ne (fun e => h.nin (by rw [← hy, e]; exact hq))]; exact hz⟩
  · rcases with_cases hx hy e with ⟨rfl, _⟩ | ⟨_, e⟩
    · exact absurd rfl hk
    · exact h.live k z hk e
theorem GoodX.without {s : State} {r : Nat} (h : GoodX s r) : Good (s.without r) := by
  refine ⟨h.toWF.without r, fun q hq => ?_, fun j z e => h.live j z (without_cases e).1 (without_cases e).2⟩
  obtain ⟨z, hz⟩ := h.rin q hq
  exact ⟨z, by rw [stack_without, if_neg (fun e => h.nin (by rw [← e]; exact hq))]; exact hz⟩
/-- throws in the order in which they came -/
def Thr (T : Cl) (H : Hp) (G : Gh) (vs : List V) (ts : List Throw) : Prop := Paired (fun v t => ThAt T H G v t ∧ t.causes = []) vs ts
theorem Thr.stay {T : Cl} {H H' : Hp} {G G' : Gh} {vs : List V} {ts : List Throw} (h : Thr T H G vs ts) (z : Stay G H G' H') : Thr T H' G' vs ts := Paired.mono (fun _ _ x => ⟨x.1.stay z, x.2⟩) h
def spEndStack (T : Cl) (K : PySem.W.Frag) : Sp := fun vs H Q _ => ∃ (n r : Nat) (x : Stack) (kk : State → List Throw → P) (G : Gh) (L : Lay) (s : State) (ak : Addr) (S : AS), vs = [.ref L.kp, .ref ak, .ref (L.st r)] ∧ Wd T K H G L s ak S ∧ Good s ∧ r ∉ s.row ∧ s.stack r = some x ∧ s.size ≤ n ∧ Fits S (ending n s r [] kk) ∧
  ∀ (H' : Hp) (G' : Gh) (L' : Lay) (s' : State) (S' : AS) (l : Addr) (us : List V) (ts : List Throw), Went S (ending n s r [] kk) S' (kk s' ts) → Wd T K H' G' L' s' ak S' → Good s' → s'.row = s.row → H' l = some (.lst us) → Thr T H' G' us ts.reverse → Stay G H G' H' → L.Kpt L' → ts.length ≤ S'.n → Q (.ref l) H'
def spJoined (T : Cl) (K : PySem.W.Frag) : Sp := fun vs H Q _ => ∃ (l : Addr) (us : List V) (ts : List Throw) (t : Throw) (G : Gh), vs = [.ref l] ∧ H l = some (.lst us) ∧ Dom G H ∧ Thr T H G us ts.reverse ∧ gathered ts = some t ∧
  ∀ (v : V) (H' : Hp), ThAt T H' G v t → Same H H' → Q v H'
/-- a list of the call's own is changed -/
theorem Wd.own {T : Cl} {K : PySem.W.Frag} {H : Hp} {G : Gh} {L : Lay} {s : State} {ak l : Addr} {S : AS} {o : HO} (wd : Wd T K H G L s ak S) (g : G l = some .res) : Wd T K (upd H l o) G L s ak S := by
  refine ⟨wd.rep.mono (fun a u e n => ⟨?_, rfl⟩) (upd_dom wd.rep.dom), wd.ask.mono fun b u e n => ⟨?_, rfl⟩, wd.tol⟩
  · rw [upd_ne (fun z => (kr_ne n).2.2 (by rw [z]; exact g))]
    exact e
  · rw [upd_ne (fun z => by
      rw [z, g] at n
      rcases n with n | n | n <;> cases n)]
    exact e
theorem Stay.own {H H1 : Hp} {G G1 : Gh} {l : Addr} {o : HO} (st : Stay G H G1 H1) (hl : H l = none) : Stay G H G1 (upd H1 l o) := fun b u e n => by
  obtain ⟨h1, h2⟩ := st b u e n
  exact ⟨by rw [upd_ne (ne_of_none e hl)]; exact h1, h2⟩
theorem Thr.own {T : Cl} {H : Hp} {G : Gh} {l : Addr} {o : HO} {vs : List V} {ts : List Throw} (h : Thr T H G vs ts) (g : G l = some .res) : Thr T (upd H l o) G vs ts := by
  have fx : ∀ {a u}, Fx H G a u → Fx (upd H l o) G a u := fun {a u} z => ⟨by
    rw [upd_ne (fun e => by
      have := z.2
      rw [e, g] at this
      cases this)]
    exact z.1, z.2⟩
  refine Paired.mono (fun v t x => ⟨?_, x.2⟩) h
  obtain ⟨a, dx, ca, cs, e, h1, h2, h3, h4⟩ := x.1
  exact ⟨a, dx, ca, cs, e, fx h1, fx h2, Paired.mono (fun _ _ y => fx y) h3, h4⟩
section
variable {P : Program} {w : World} {K : PySem.W.Frag} {mg : Str → Option Value} {base : Heap} {A : Ad}
theorem ok_end_stack (T : Txt P w K mg A) : FO P w K mg base A .d_end_stack 7 (spEndStack A.cl K) := by
  refine (T.fn .d_end_stack).ok sc_end_stack (fun vs H Q E h => ?_) (fun cdv Ar outer s H vs Q E hr h => ?_)
  · obtain ⟨n, r, x, kk, G, L, st, ak, S, rfl, _⟩ := h
    rfl
  · obtain ⟨n, r, x, kk, G, L, st, ak, S, rfl, wd, good, hnr, hx, hsz, hfit, q⟩ := h
    refine ⟨_, (pss_cons (ps_set (i := 3) sc_end_stack.nd rfl (Or.inl rfl) (pe_lst pa_nil)) (pss_cons (ps_while PassesOwn.never (pt_truth (pe_fld (pv 2) rfl) (fun _ => rfl)) (pss_cons (ps_set (i := 4) sc_end_stack.nd rfl (Or.inl rfl) (pe_meth0 (pv 2) T.c_stack T.m_stack_innermost (ok_stack_innermost T) (hr.mono (by decide)) (T.bi .d_stack_innermost) .nil pass0)) (pss_cons (ps_while PassesOwn.never (pt_truth (pe_fld (pv 4) rfl) (fun _ => rfl)) (pss_cons (ps_set (i := 5) sc_end_stack.nd rfl (Or.inl rfl) (pe_call (ok_drop_act T) (hr.mono (by decide)) rfl T.g_drop_act (T.fn .d_drop_act).kp (T.bi .d_drop_act) .nil pass0 (pa_cons (pv 1) (pa_cons (pv 4) (pa_cons (pe_ic T.k_WHY_END) pa_nil))))) (pss_one (ps_if (pt_cmpR op_notN (pv 5) pe_non (nomark _)) (pss_one (ps_expr (pe_bm PySem.F.plainAttrs_list PySem.F.slot_list_append PySem.F.type_list_append mt_append (pv 3) (pa_cons (pv 5) pa_nil)))) pss_nil)))) (pss_one (ps_expr (pe_meth (pv 0) T.c_keep T.m_keep_drop_frame (ok_keep_drop_frame T) (hr.mono (by decide)) (T.bi .d_keep_drop_frame) .nil pass0 (pa_cons (pv 2) pa_nil))))))) (pss_cons (ps_expr (pe_meth (pv 0) T.c_keep T.m_keep_drop_stack (ok_keep_drop_stack T) (hr.mono (by decide)) (T.bi .d_keep_drop_stack) .nil pass0 (pa_cons (pv 2) pa_nil))) (pss_one (ps_ret (pv 3)))))), ?_⟩
    refine ⟨(by show 0 ≤ sizeLine; decide), fun l hl => ?_⟩
    have gl : gad G l .res l = some .res := gad_same
    have s0 : Same H (upd H l (.lst [])) := Same.new hl
    have w0 : Wd A.cl K (upd H l (.lst [])) (gad G l .res) L st ak S := by
      refine ⟨wd.rep.mono (fun a o e _ => ⟨s0 a o e, gad_ne (ne_of_none e hl)⟩) (fun b rr e => ?_), wd.ask.mono fun b o e _ => ⟨s0 b o e, gad_ne (ne_of_none e hl)⟩, wd.tol⟩
      by_cases hb : b = l
      · rw [hb, upd_same]
        simp
      · rw [gad_ne hb] at e
        rw [upd_ne hb]
        exact wd.rep.dom b rr e
    obtain ⟨Wo, hWo⟩ : ∃ W : Nat → L2.St → Hp → Prop, W = fun m σ H1 => ∃ (L1 : Lay) (n1 : Nat) (s1 : State) (S1 : AS) (x1 : Stack) (us : List V) (ts : List Throw) (u u' : Option V), σ = [some (.ref L.kp), some (.ref ak), some (.ref (L.st r)), some (.ref l), u, u'] ∧ m = x1.frames.length ∧
        Went S (ending n st r [] kk) S1 (ending n1 s1 r ts kk) ∧ Wd A.cl K H1 (gad G l .res) L1 s1 ak S1 ∧ GoodX s1 r ∧ s1.row = st.row ∧ s1.stack r = some x1 ∧ s1.size ≤ n1 ∧ H1 l = some (.lst us) ∧ Thr A.cl H1 (gad G l .res) us ts.reverse ∧ Stay G H (gad G l .res) H1 ∧ L.Sam L1 ∧ ts.length ≤ S1.n := ⟨_, rfl⟩
    refine ⟨Wo, ⟨x.frames.length, ?_⟩, fun m σ H1 hw => ?_⟩
    · rw [hWo]
      exact ⟨L, n, st, S, x, [], [], none, none, rfl, rfl, Went.refl _ _, w0, good.x hnr, rfl, hx, hsz, upd_same, .nil, add_stay hl, Lay.Sam.refl L, Nat.zero_le _⟩
    · rw [hWo] at hw
      obtain ⟨L1, n1, s1, S1, x1, us, ts, u, u', rfl, rfl, went, wd1, gx1, hrow1, hx1, hsz1, hl1, thr1, st1, sam1, hts1⟩ := hw
      have hM1 : (ms s1).S r = some x1 := hx1
      obtain ⟨ds1, hs1⟩ := wd1.rep.stk (live_of hM1)
      have hfr1 := wd1.rep.frs hM1
      rw [sam1.st] at hs1
      obtain ⟨dk1, hk1⟩ := wd1.rep.kp
      rw [sam1.kp] at hk1
      have fit1 := went.fits hfit
      refine ⟨_, rfl, L.st r, _, ds1, _, _, rfl, hs1, T.c_stack, T.n_stack_frames, sf_frames _ _ _ _ _, _, .inl ⟨_, SqL.of hfr1, rfl⟩, ?_⟩
      cases hf1 : x1.frames with
      | nil =>
        refine iteF ?_
        refine ⟨_, rfl, L.kp, dk1, _, rfl, hk1, (by kernel_rfl), _, rfl, r, x1, gad G l .res, L1, ms s1, (by rw [sam1.kp, sam1.st]; rfl), wd1.rep, gx1.toWF.mw, hM1, fun H2 R2 ks2 => ?_⟩
        obtain ⟨n2, rfl⟩ := size_succ hsz1
        have R2' : Rep A.cl K H2 (gad G l .res) L1 (ms (s1.without r)) := by
          rw [ms_without]
          exact R2
        have hl2 : H2 l = some (.lst us) := (ks2 l _ hl1 fun rr e => by rw [gl] at e; cases e; rfl).1
        exact ⟨_, rfl, q H2 (gad G l .res) L1 (s1.without r) S1 l us ts (went.trans (Went.of_eq (ending_gone hx1 hf1))) (wd1.kst R2' ks2) gx1.without hrow1 hl2 (thr1.stay ks2.stay) (st1.trans ks2.stay) sam1.toKpt hts1⟩
      | cons f fs =>
        have e1 : (!(frsV L1 r (f :: fs).length).isEmpty) = true := by
          rw [List.length_cons, frsV_succ]
          exact snoc_ne _ _
        rw [e1]
        refine iteT ⟨_, fun σ' H' h => h, ?_⟩
        have hin := wd1.rep.inner hM1 hf1
        refine ⟨_, rfl, L.st r, ds1, _, rfl, hs1, (by kernel_rfl), L.st r, ds1, r, _, _, _, _, _, _, rfl, hs1, hin, ?_⟩
        obtain ⟨Wi, hWi⟩ : ∃ W : Nat → L2.St → Hp → Prop, W = fun m σ H2 => ∃ (L2' : Lay) (n2 : Nat) (s2 : State) (S2 : AS) (x2 : Stack) (f2 : Md35.Frame) (us2 : List V) (ts2 : List Throw) (u2 : Option V), σ = [some (.ref L.kp), some (.ref ak), some (.ref (L.st r)), some (.ref l), some (.ref (L2'.fm r fs.length)), u2] ∧ m = f2.acts.length ∧
            Went S (ending n st r [] kk) S2 (ending n2 s2 r ts2 kk) ∧ Wd A.cl K H2 (gad G l .res) L2' s2 ak S2 ∧ GoodX s2 r ∧ s2.row = st.row ∧ s2.stack r = some x2 ∧ x2.frames = f2 :: fs ∧ s2.size ≤ n2 ∧ H2 l = some (.lst us2) ∧ Thr A.cl H2 (gad G l .res) us2 ts2.reverse ∧ Stay G H (gad G l .res) H2 ∧ L.Sam L2' ∧ ts2.length ≤ S2.n := ⟨_, rfl⟩
        refine ⟨Wi, ⟨f.acts.length, ?_⟩, fun m2 σ2 H2 hw2 => ?_⟩
        · rw [hWi]
          exact ⟨L1, n1, s1, S1, x1, f, us, ts, u', rfl, rfl, went, wd1, gx1, hrow1, hx1, hf1, hsz1, hl1, thr1, st1, sam1, hts1⟩
        · rw [hWi] at hw2
          obtain ⟨L3, n3, s3, S3, x3, f3, us3, ts3, u3, rfl, rfl, went3, wd3, gx3, hrow3, hx3, hf3, hsz3, hl3, thr3, st3, sam3, hts3⟩ := hw2
          have hM3 : (ms s3).S r = some x3 := hx3
          have hfrm3 := frameAt_head hM3 hf3
          obtain ⟨df3, hfm3⟩ := wd3.rep.frm hfrm3
          have fit3 := went3.fits hfit
          obtain ⟨n4, rfl⟩ := size_succ hsz3
          have sw3 := gx3.sw r x3 hx3
          have hm3 : f3 ∈ x3.frames := by rw [hf3]; simp
          have hn3 : x3.number = r := num_of hx3
          cases ha : f3.acts with
          | nil =>
            have hac := acts_nil wd3.rep hfrm3 ha
            refine ⟨_, rfl, L3.fm r fs.length, _, df3, _, _, rfl, hfm3, T.c_frame, T.n_frame_acts, ff_acts _ _ _ _ _, _, .inl ⟨_, SqL.of hac, rfl⟩, iteF ?_⟩
            obtain ⟨dk3, hk3⟩ := wd3.rep.kp
            rw [sam3.kp] at hk3
            refine ⟨_, rfl, L.kp, dk3, _, rfl, hk3, (by kernel_rfl), _, rfl, r, x3, f3, fs, gad G l .res, L3, ms s3, (by rw [sam3.kp, sam3.st]; rfl), wd3.rep, gx3.toWF.mw, hM3, hf3, fun H4 R4 ks4 => ?_⟩
            have hn4 : x3.pop.number = r := hn3
            rw [← ms_up hx3 hn4] at R4
            have hl4 : H4 l = some (.lst us3) := (ks4 l _ hl3 fun rr e => by rw [gl] at e; cases e; rfl).1
            have hsp := size_pop gx3.toWF hx3 hf3
            refine ⟨fs.length, (by first | exact Nat.lt_succ_self _ | (rw [hf1]; exact Nat.lt_succ_self _)), ?_⟩
            rw [hWo]
            exact ⟨L3, n4, _, S3, x3.pop, us3, ts3, _, _, rfl, by rw [pop_frames hf3], went3.trans (Went.of_eq (ending_pop hx3 hf3 ha)), wd3.kst R4 ks4, gx3.with_ hx3 hn4 (sw3.pop hf3) (fun p hp => pop_sub hp), hrow3, stack_with_same hx3 hn4, by omega, hl4, thr3.stay ks4.stay, st3.trans ks4.stay, sam3, hts3⟩
          | cons a l2 =>
            obtain ⟨as, b, eaa, hac, has, hb⟩ := act_last wd3.rep hfrm3 ha
            refine ⟨_, rfl, L3.fm r fs.length, _, df3, _, _, rfl, hfm3, T.c_frame, T.n_frame_acts, ff_acts _ _ _ _ _, _, .inl ⟨_, SqL.of hac, rfl⟩, ?_⟩
            rw [snoc_ne]
            refine iteT ⟨_, fun σ' H' h => h, ?_⟩
            have hal := sw3.acl f3 hm3
            rw [ha, List.length_cons] at hal
            have hn4 : (x3.top { f3 with acts := l2 }).number = r := hn3
            have sw4 : SW (x3.top { f3 with acts := l2 }) := sw3.top (f' := { f3 with acts := l2 }) hf3 (sw3.wds f3 hm3) (by show l2.length ≤ 32; omega) x3.came
            have gx4 := gx3.with_ (y := x3.top { f3 with acts := l2 }) hx3 hn4 sw4 (fun p hp => hp)
            have hx4 : (s3.with_ (x3.top { f3 with acts := l2 })).stack r = some (x3.top { f3 with acts := l2 }) := stack_with_same hx3 hn4
            have hf4 : (x3.top { f3 with acts := l2 }).frames = { f3 with acts := l2 } :: fs := top_frames hf3
            have hsz4 := size_act gx3.toWF hx3 hf3 ha
            refine ⟨_, rfl, _, rfl, r, x3, f3, fs, a, l2, 2, gad G l .res, L3, s3, ak, S3, rfl, wd3, hx3, hf3, ha, fun h eh H5 L5 w5 st5 sam5 => ?_, fun g eg => ?_⟩
            · subst eh
              refine ⟨_, rfl, rfl, _, rfl, iteF ?_⟩
              have hl5 : H5 l = some (.lst us3) := (st5 l _ hl3 (.inr gl)).1
              refine ⟨l2.length, (by first | exact Nat.lt_succ_self _ | (rw [ha]; exact Nat.lt_succ_self _)), ?_⟩
              rw [hWi]
              exact ⟨L5, n4, _, S3, _, { f3 with acts := l2 }, us3, ts3, _, (by rw [sam5.fm]; rfl), rfl, went3.trans (Went.of_eq (ending_skip hx3 hf3 ha)), w5, gx4, hrow3, hx4, hf4, by omega, hl5, thr3.stay st5, st3.trans st5, sam3.trans sam5, hts3⟩
            · subst eg
              have fl := fit3
              rw [ending_last hx3 hf3 ha] at fl
              refine ⟨fl.ask, fun z H5 L5 w5 th5 st5 sam5 => ?_⟩
              have hl5 : H5 l = some (.lst us3) := (st5 l _ hl3 (.inr gl)).1
              have went5 : Went S (ending n st r [] kk) (S3.add (.clean g 2)) (ending n4 (s3.with_ (x3.top { f3 with acts := l2 })) r (if 0 < S3.ans then thrown S3.ans.toNat :: ts3 else ts3) kk) :=
                went3.trans ((Went.of_eq (ending_last hx3 hf3 ha)).trans Went.ask)
              have hn5 : (S3.add (.clean g 2)).n = S3.n + 1 := rfl
              by_cases hz : 0 < S3.ans
              · rw [if_pos hz] at th5
                rw [if_pos hz] at went5
                have th5' : ThAt A.cl H5 (gad G l .res) z (thrown S3.ans.toNat) := th5
                refine ⟨_, rfl, rfl, _, rfl, ?_⟩
                rw [decide_eq_false th5'.ne]
                have hroom := fl.ask
                have htol := wd3.tol
                have hul : us3.length = ts3.length := by
                  have := Paired.length thr3
                  rw [List.length_reverse] at this
                  exact this
                refine iteT ⟨_, rfl, .inl ⟨rfl, _, SqL.of hl5⟩, _, rfl, l, us3, z, rfl, rfl, hl5, (by rw [sizeLine_eq]; omega), ?_⟩
                refine ⟨l2.length, (by first | exact Nat.lt_succ_self _ | (rw [ha]; exact Nat.lt_succ_self _)), ?_⟩
                rw [hWi]
                refine ⟨L5, n4, _, _, _, { f3 with acts := l2 }, us3 ++ [z], thrown S3.ans.toNat :: ts3, _, (by rw [sam5.fm]; rfl), rfl, went5, w5.own gl, gx4, hrow3, hx4, hf4, by omega, upd_same, ?_, (st3.trans st5).own hl, sam3.trans sam5, ?_⟩
                · refine Thr.own ?_ gl
                  rw [List.reverse_cons]
                  exact Paired.put ⟨th5', rfl⟩ (thr3.stay st5)
                · rw [List.length_cons, hn5]
                  omega
              · rw [if_neg hz] at th5
                rw [if_neg hz] at went5
                have th5' : z = .non := th5
                subst th5'
                refine ⟨_, rfl, rfl, _, rfl, iteF ?_⟩
                refine ⟨l2.length, (by first | exact Nat.lt_succ_self _ | (rw [ha]; exact Nat.lt_succ_self _)), ?_⟩
                rw [hWi]
                exact ⟨L5, n4, _, _, _, { f3 with acts := l2 }, us3, ts3, _, (by rw [sam5.fm]; rfl), rfl, went5, w5, gx4, hrow3, hx4, hf4, by omega, hl5, thr3.stay st5, st3.trans st5, sam3.trans sam5, by rw [hn5]; omega⟩
theorem cut_from1 (xs : List V) : cutV xs (some 1) none = xs.drop 1 := by
  show (xs.drop (HT.sIx xs.length 0 (some ((1 : Nat) : Int)))).take (HT.sIx xs.length xs.length none - HT.sIx xs.length 0 (some ((1 : Nat) : Int))) = _
  rw [HT.sIx_none, HT.sIx_nat]
  cases xs with
  | nil => rfl
  | cons a r =>
    have : min 1 (a :: r).length = 1 := by simp
    rw [this, List.take_of_length_le (by simp)]
theorem ok_joined (T : Txt P w K mg A) : FO P w K mg base A .d_joined 5 (spJoined A.cl K) := by
  refine (T.fn .d_joined).ok sc_joined (fun vs H Q E h => ?_) (fun cdv Ar outer s H vs Q E hr h => ?_)
  · obtain ⟨l, us, ts, t, G, rfl, _⟩ := h
    rfl
  · obtain ⟨l, us, ts, t, G, rfl, hl, dm, thr, hg, q⟩ := h
    refine ⟨_, (pss_cons (ps_set (i := 1) sc_joined.nd rfl (Or.inl rfl) (pe_ix ix_list (pv 0) pe_int (fun _ _ => rfl))) (pss_cons (ps_for PassesOwn.never rfl (pi_list (pe_slice sl_list (pv 0) (po_some pe_int) po_none)) (pg_name (i := 2) sc_joined.nd rfl (Or.inl rfl)) (pss_one (ps_set (i := 1) sc_joined.nd rfl (Or.inl rfl) (pe_call (ok_in_place_of T) (hr.mono (by decide)) rfl T.g_in_place_of (T.fn .d_in_place_of).kp (T.bi .d_in_place_of) .nil pass0 (pa_cons (pv 1) (pa_cons (pv 2) pa_nil)))))) (pss_one (ps_ret (pv 1))))), ?_⟩
    obtain ⟨u0, us', rfl⟩ : ∃ u0 us', us = u0 :: us' := by
      cases us with
      | cons a r => exact ⟨a, r, rfl⟩
      | nil =>
        have := Paired.length thr
        cases ts with
        | nil => cases hg
        | cons a b => simp at this
    obtain ⟨t0, ht0, hth0, hc0⟩ := Paired.get (i := 0) (a := u0) thr rfl
    refine ⟨_, rfl, l, _, _, u0, rfl, rfl, SqL.of hl, atI_nat (j := 0) rfl, ?_⟩
    refine ⟨_, rfl, _, rfl, l, _, rfl, SqL.of hl, fun p hp => ?_⟩
    have e1 : cutV (u0 :: us') (some 1) none = us' := cut_from1 _
    rw [e1]
    have hlen : (u0 :: us').length = ts.length := by
      have := Paired.length thr
      rw [List.length_reverse] at this
      exact this
    refine ⟨p, rfl, ⟨_, SqL.of upd_same⟩, for_list (K := K) (a := p) (xs := us') (fun i σ H1 => ∃ (v1 : V) (t1 : Throw) (u : Option V), σ = [some (.ref l), some v1, u] ∧ ThAt A.cl H1 G v1 t1 ∧ gathered ((ts.reverse.take (i + 1)).reverse) = some t1 ∧ Same (upd H p (.lst us')) H1) ⟨u0, t0, none, rfl, ?_, ?_, Same.refl _⟩ ?_ ?_ ?_⟩
    · exact hth0.stay (new_stay hp)
    · have : ts.reverse.take 1 = [t0] := by
        cases e : ts.reverse with
        | nil => rw [e] at ht0; cases ht0
        | cons a b =>
          rw [e] at ht0
          cases ht0
          rfl
      rw [this]
      exact gathered_one hc0
    · rintro i σ H1 hi ⟨v1, t1, u, rfl, th1, g1, s1⟩
      exact SqL.of (s1 _ _ upd_same)
    · rintro i y σ H1 hi ⟨v1, t1, u, rfl, th1, g1, s1⟩
      obtain ⟨t2, ht2, hth2, hc2⟩ := Paired.get (i := i + 1) (a := y) thr hi
      have s2 := (Same.new hp).trans s1
      refine ⟨_, rfl, _, rfl, v1, y, t1, t2, G, rfl, dm.same s2, th1, hth2.stay (Same.stay s2), hc2, fun z H2 th3 s3 => ?_⟩
      refine ⟨z, _, _, rfl, th3, ?_, s1.trans s3⟩
      have e3 : ts.reverse.take (i + 1 + 1) = ts.reverse.take (i + 1) ++ [t2] := by
        rw [List.take_add_one, ht2]
        rfl
      rw [e3, List.reverse_append]
      show gathered (t2 :: (ts.reverse.take (i + 1)).reverse) = _
      cases e4 : (ts.reverse.take (i + 1)).reverse with
      | nil => rw [e4] at g1; cases g1
      | cons o os =>
        rw [e4] at g1
        exact gathered_over hc2 g1
    · rintro σ H1 ⟨v1, t1, u, rfl, th1, g1, s1⟩
      have e5 : (ts.reverse.take (us'.length + 1)).reverse = ts := by
        rw [List.length_cons] at hlen
        rw [List.take_of_length_le (by rw [List.length_reverse]; omega), List.reverse_reverse]
      rw [e5, hg] at g1
      cases g1
      exact ⟨_, rfl, q v1 H1 th1 ((Same.new hp).trans s1)⟩
end
end Th
namespace Th
open PySem PySem.Spec PyProof.Rows L2
open Md35 (State Stack Throw Came Ans P unwind leave ending gathered over thrown want)
def spRefuse (T : Cl) (K : PySem.W.Frag) : Sp := fun vs H Q _ => ∃ (z : Int) (G : Gh) (L : Lay) (M : MS), vs = [.ref L.kp, .int z] ∧ Rep T K H G L M ∧
  ∀ (H' : Hp) (c : Addr), Rep T K H' G { L with cm := c } M → Fx H' G c (.tup [.int 8, .int z, .int 0]) → Kst G H G H' → Q .non H'
def spGoOn (T : Cl) (K : PySem.W.Frag) : Sp := fun vs H Q _ => ∃ (G : Gh) (L : Lay) (M : MS), vs = [.ref L.kp] ∧ Rep T K H G L M ∧
  ∀ (H' : Hp) (c : Addr), Rep T K H' G { L with cm := c } M → KT K c [.int 0, .int 0, .int 0] → Kst G H G H' → Q .non H'
def spAddAct (T : Cl) (K : PySem.W.Frag) : Sp := fun vs H Q _ => ∃ (wn : Int) (b : Addr) (a : Md35.Act) (r : Nat) (rest : List Nat) (x : Stack) (f : Md35.Frame) (fs : List Md35.Frame) (G : Gh) (L : Lay) (s : State), vs = [.ref L.kp, .int wn, .ref b] ∧ Rep T K H G L (ms s) ∧ s.row = r :: rest ∧ s.stack r = some x ∧ x.frames = f :: fs ∧ f.acts.length ≤ 32 ∧ Fx H G b (.tup (actV a)) ∧
  (32 ≤ f.acts.length → ∀ (H' : Hp) (c : Addr), Rep T K H' G { L with cm := c } (ms s) → Fx H' G c (.tup [.int 8, .int wn, .int 0]) → Kst G H G H' → Q .non H') ∧
  (¬ 32 ≤ f.acts.length → ∀ (H' : Hp) (L' : Lay), Rep T K H' G L' (ms (s.with_ { (x.top { f with acts := a :: f.acts }) with came := ⟨0, 0, 0⟩ })) → KT K L'.cm [.int 0, .int 0, .int 0] → L'.kp = L.kp → Kst G H G H' → Q .non H')
def spWant (T : Cl) (K : PySem.W.Frag) (wn : Nat) : Sp := fun vs H Q _ => ∃ (z : Int) (k : State → P) (G : Gh) (L : Lay) (s : State) (ak : Addr) (S : AS), vs = [.ref L.kp, .ref ak, .int ((z.toNat / 16 : Nat) : Int)] ∧ ¬ z < 0 ∧ z.toNat % 16 = wn ∧ Wd T K H G L s ak S ∧ Good s ∧ s.row ≠ [] ∧ Fits S (want k s z) ∧
  Out T K G H L.kp ak S (want k s z) k Q
theorem Good.row_cons {s : State} (g : Good s) (h : s.row ≠ []) : ∃ r rest x f fs, s.row = r :: rest ∧ s.stack r = some x ∧ x.frames = f :: fs ∧ s.running = some x := by
  cases hr : s.row with
  | nil => exact absurd hr h
  | cons r rest =>
    obtain ⟨x, f, fs, hx, hf⟩ := g.head hr
    exact ⟨r, rest, x, f, fs, rfl, hx, hf, running_of hr hx⟩
/-- what has come is set, and it goes on -/
theorem Out.come {T : Cl} {K : PySem.W.Frag} {G G1 : Gh} {H H1 : Hp} {kp ak : Addr} {S S1 : AS} {p : P} {k : State → P} {Q : VK} {L1 : Lay} {s : State} {r : Nat} {rest : List Nat} {cm : Came} (o : Out T K G H kp ak S p k Q) (went : Went S p S1 (k (s.come cm))) (w1 : Wd T K H1 G1 L1 s ak S1) (g : Good s) (hr : s.row = r :: rest)
    (tup : Tup K H1 G1 L1.cm (cameV cm)) (st : Stay G H G1 H1) (hk : L1.kp = kp) : Q .non H1 := by
  obtain ⟨x, f, fs, hx, hf⟩ := g.head hr
  have hn : x.number = r := num_of hx
  have e := come_of hr hx cm
  have R := w1.rep.came (k := r) (x := x) (y := { x with came := cm }) hx rfl rfl
  rw [← ms_up (y := { x with came := cm }) hx hn, ← e] at R
  have hx' : (s.come cm).stack r = some { x with came := cm } := by
    rw [e]
    exact stack_with_same hx hn
  have hr' : (s.come cm).row = r :: rest := by
    rw [e]
    exact hr
  exact o.go H1 G1 L1 (s.come cm) S1 went ⟨R, w1.ask, w1.tol⟩ (g.come cm) (by rw [hr']; simp) (com_of hr' hx' tup) st hk
theorem Fx.came {H : Hp} {G : Gh} {K : PySem.W.Frag} {c : Addr} {a b d : Int} (h : Fx H G c (.tup [.int a, .int b, .int d])) : Tup K H G c (cameV ⟨a, b, d⟩) := .inl h
theorem KT.came {H : Hp} {G : Gh} {K : PySem.W.Frag} {c : Addr} (h : KT K c [.int 0, .int 0, .int 0]) : Tup K H G c (cameV ⟨0, 0, 0⟩) := .inr h
section
variable {P : Program} {w : World} {K : PySem.W.Frag} {mg : Str → Option Value} {base : Heap} {A : Ad}
/-- keep.come = (a new triple) -/
theorem set_come (T : Txt P w K mg A) {H : Hp} {G : Gh} {L : Lay} {M : MS} {c : Addr} {xs : List V} {N : Hp → Prop} (R : Rep A.cl K H G L M) (hc : H c = none)
    (q : ∀ H' : Hp, Rep A.cl K H' G { L with cm := c } M → Fx H' G c (.tup xs) → Kst G H G H' → N H') :
    ∃ (a C dx : Addr) (fs : List (Str × V)), V.ref L.kp = V.ref a ∧ upd H c (.tup xs) a = some (.ins C dx fs) ∧ Cls K C ∧ NoAttr K C "come" ∧ fs.length < 1000 ∧ N (upd (upd H c (.tup xs)) a (.ins C dx (putF "come" (.ref c) fs))) := by
  have R1 := R.same (Same.new (o := .tup xs) hc)
  obtain ⟨dk, hk⟩ := R1.kp
  refine ⟨L.kp, _, dk, _, rfl, hk, T.c_keep, T.n_keep_come, (by show 5 < 1000; decide), ?_⟩
  rw [kf_pcome]
  have nkc : L.kp ≠ c := ne_of_none R.kp.choose_spec hc
  refine q _ (R1.setcm (dx := dk) (c := c)) ⟨?_, R.free hc⟩ ((Kst.same (Same.new hc)).trans (Kst.upd (R1.own .kp _ rfl).1 rfl))
  rw [upd_ne nkc.symm]
  exact upd_same
theorem ok_refuse (T : Txt P w K mg A) : FO P w K mg base A .d_refuse 1 (spRefuse A.cl K) := by
  refine (T.fn .d_refuse).ok sc_refuse (fun vs H Q E h => ?_) (fun cdv Ar outer s H vs Q E hr h => ?_)
  · obtain ⟨z, G, L, M, rfl, _⟩ := h
    rfl
  · obtain ⟨z, G, L, M, rfl, R, q⟩ := h
    refine ⟨_, (pss_cons (ps_fld (pv 0) (pe_tup (pa_cons (pe_ic T.k_REFUSED) (pa_cons (pv 1) (pa_cons pe_int pa_nil)))) rfl) (pss_one (ps_ret pe_non))), ?_⟩
    refine ⟨_, rfl, (by show 3 ≤ sizeLine; decide), fun c hc => ⟨_, rfl, ?_⟩⟩
    exact set_come T R hc fun H' R' f ks => q H' c R' f ks
theorem ok_go_on (T : Txt P w K mg A) : FO P w K mg base A .d_go_on 1 (spGoOn A.cl K) := by
  refine (T.fn .d_go_on).ok sc_go_on (fun vs H Q E h => ?_) (fun cdv Ar outer s H vs Q E hr h => ?_)
  · obtain ⟨G, L, M, rfl, _⟩ := h
    rfl
  · obtain ⟨G, L, M, rfl, R, q⟩ := h
    refine ⟨_, (pss_cons (ps_fld (pv 0) (pe_glob (v := V.ref A.nm3) rfl T.g_NOTHING_MORE rfl) rfl) (pss_one (ps_ret pe_non))), ?_⟩
    obtain ⟨dk, hk⟩ := R.kp
    refine ⟨_, rfl, L.kp, _, dk, _, rfl, hk, T.c_keep, T.n_keep_come, (by show 5 < 1000; decide), ?_⟩
    rw [kf_pcome]
    exact q _ A.nm3 R.setcm T.t_NOTHING_MORE (Kst.own R (r := .kp) rfl)
theorem runrow {L : Lay} {s : State} {r : Nat} {rest : List Nat} (hr : s.row = r :: rest) : runV L (ms s).row = .ref (L.st r) := by
  rw [show (ms s).row = r :: rest from hr]
  rfl
theorem Rep.kpr {T : Cl} {H : Hp} {G : Gh} {L : Lay} {s : State} {r : Nat} {rest : List Nat} (R : Rep T K H G L (ms s)) (hr : s.row = r :: rest) : ∃ dx, H L.kp = some (.ins T.keep dx (kf L.sl L.tl (.ref (L.st r)) L.cm L.un)) := by
  obtain ⟨dx, h⟩ := R.kp
  rw [runrow hr] at h
  exact ⟨dx, h⟩
theorem ok_add_act (T : Txt P w K mg A) : FO P w K mg base A .d_add_act 2 (spAddAct A.cl K) := by
  refine (T.fn .d_add_act).ok sc_add_act (fun vs H Q E h => ?_) (fun cdv Ar outer s H vs Q E hr h => ?_)
  · obtain ⟨wn, b, a, r, rest, x, f, fs, G, L, s, rfl, _⟩ := h
    rfl
  · obtain ⟨wn, b, a, r, rest, x, f, fs, G, L, st, rfl, R, hr0, hx, hf, hal, hb, q0, q1⟩ := h
    refine ⟨_, (pss_cons (ps_set (i := 3) sc_add_act.nd rfl (Or.inl rfl) (pe_fld (pe_meth0 (pe_fld (pv 0) rfl) T.c_stack T.m_stack_innermost (ok_stack_innermost T) (hr.mono (by decide)) (T.bi .d_stack_innermost) .nil pass0) rfl)) (pss_cons (ps_if (pt_cmpR op_ge (pe_callB call_len_seq (by rfl) T.b_len PySem.boot_len (pa_cons (pv 3) pa_nil)) (pe_ic T.k_ACTS_MOST) (nomark _)) (pss_one (ps_ret (pe_call (ok_refuse T) (hr.mono (by decide)) rfl T.g_refuse (T.fn .d_refuse).kp (T.bi .d_refuse) .nil pass0 (pa_cons (pv 0) (pa_cons (pv 1) pa_nil))))) pss_nil) (pss_cons (ps_expr (pe_bm PySem.F.plainAttrs_list PySem.F.slot_list_append PySem.F.type_list_append mt_append (pv 3) (pa_cons (pv 2) pa_nil))) (pss_one (ps_ret (pe_call (ok_go_on T) (hr.mono (by decide)) rfl T.g_go_on (T.fn .d_go_on).kp (T.bi .d_go_on) .nil pass0 (pa_cons (pv 0) pa_nil))))))), ?_⟩
    have hM : (ms st).S r = some x := hx
    obtain ⟨dk, hk⟩ := R.kpr hr0
    obtain ⟨ds, hs⟩ := R.stk (live_of hM)
    have hin := R.inner hM hf
    have hfr := frameAt_head hM hf
    obtain ⟨df, hfm⟩ := R.frm hfr
    have hac := R.acs hfr
    have hact := R.misc.act _ _ _ hfr
    have elen : ((L.aa r fs.length).map V.ref).length = f.acts.length := by
      have := Paired.length hact
      rw [List.length_reverse] at this
      rw [List.length_map, this]
    refine ⟨_, rfl, L.kp, _, dk, _, _, rfl, hk, T.c_keep, T.n_keep_running, kf_running _ _ _ _ _, L.st r, ds, _, rfl, hs, (by kernel_rfl), L.st r, ds, r, _, _, _, _, _, _, rfl, hs, hin, L.fm r fs.length, _, df, _, _, rfl, hfm, T.c_frame, T.n_frame_acts, ff_acts _ _ _ _ _, ?_⟩
    refine ⟨_, rfl, L.ac r fs.length, _, rfl, .inl (SqL.of hac), _, _, rfl, rfl, _, rfl, ite2 (fun c => ?_) (fun c => ?_)⟩
    · have c' := of_decide_eq_true c
      rw [elen] at c'
      exact ⟨_, rfl, _, rfl, wn, G, L, ms st, rfl, R, q0 (by omega)⟩
    · have c' : ¬ 32 ≤ f.acts.length := fun h => c (decide_eq_true (by rw [elen]; omega))
      refine ⟨_, rfl, .inl ⟨rfl, _, SqL.of hac⟩, _, rfl, L.ac r fs.length, _, _, rfl, rfl, hac, (by rw [elen, sizeLine_eq]; omega), ?_⟩
      have e : (L.aa r fs.length).map V.ref ++ [V.ref b] = ((L.aa r fs.length ++ [b]).map V.ref) := by
        rw [List.map_append]
        rfl
      rw [e]
      have R1 := R.setacts (y := { (x.top { f with acts := a :: f.acts }) with came := ⟨0, 0, 0⟩ }) (as := L.aa r fs.length ++ [b]) (l := a :: f.acts) hM hf (top_frames hf) rfl (by
        rw [List.reverse_cons]
        exact Paired.put (F := fun a c => Fx H G a (.tup (actV c))) hb hact)
      rw [← ms_up (y := { (x.top { f with acts := a :: f.acts }) with came := ⟨0, 0, 0⟩ }) hx (show x.number = r from stack_number hx)] at R1
      refine ⟨_, rfl, G, L.acts r fs.length (L.aa r fs.length ++ [b]), _, rfl, R1, fun H' cc R' kt ks => ?_⟩
      exact q1 c' H' _ R' kt rfl ((Kst.own R (cont_ac hfr)).trans ks)
theorem ok_want_throw (T : Txt P w K mg A) : FO P w K mg base A .d_want_throw 9 (spWant A.cl K 2) := by
  refine (T.fn .d_want_throw).ok sc_want_throw (fun vs H Q E h => ?_) (fun cdv Ar outer s H vs Q E hr h => ?_)
  · obtain ⟨z, k, G, L, s, ak, S, rfl, _⟩ := h
    rfl
  · obtain ⟨z, k, G, L, st, ak, S, rfl, hz, hw, wd, good, hrow, hfit, out⟩ := h
    refine ⟨_, (pss_one (ps_ret (pe_call (ok_throw_on T) (hr.mono (by decide)) rfl T.g_throw_on (T.fn .d_throw_on).kp (T.bi .d_throw_on) .nil pass0 (pa_cons (pv 0) (pa_cons (pv 1) (pa_cons (pe_call (ok_throw_of_number T) (hr.mono (by decide)) rfl T.g_throw_of_number (T.fn .d_throw_of_number).kp (T.bi .d_throw_of_number) .nil pass0 (pa_cons (pv 2) pa_nil)) pa_nil)))))), ?_⟩
    obtain ⟨r, rest, x, f, fs, hr0, hx, hf, hrun⟩ := good.row_cons hrow
    rw [want_2 hrun hf hz hw] at hfit out
    refine ⟨_, rfl, _, rfl, _, rfl, z.toNat / 16, G, rfl, wd.dom, fun v H1 th1 s1 => ?_⟩
    exact ⟨st.size, _, k, G, L, st, ak, S, v, rfl, wd.same s1, good, th1, Nat.le_refl _, hfit, out.step (Went.refl _ _) (Same.stay s1)⟩
theorem Good.acl_top {s : State} (g : Good s) {r : Nat} {x : Stack} {f : Md35.Frame} {fs : List Md35.Frame} (hx : s.stack r = some x) (hf : x.frames = f :: fs) : f.acts.length ≤ 32 ∧ f.words.length = 4 :=
  ⟨(g.sw r x hx).acl f (by rw [hf]; simp), (g.sw r x hx).wds f (by rw [hf]; simp)⟩
theorem ok_want_handler (T : Txt P w K mg A) : FO P w K mg base A .d_want_handler 3 (spWant A.cl K 3) := by
  refine (T.fn .d_want_handler).ok sc_want_handler (fun vs H Q E h => ?_) (fun cdv Ar outer s H vs Q E hr h => ?_)
  · obtain ⟨z, k, G, L, s, ak, S, rfl, _⟩ := h
    rfl
  · obtain ⟨z, k, G, L, st, ak, S, rfl, hz, hw, wd, good, hrow, hfit, out⟩ := h
    refine ⟨_, (pss_one (ps_ret (pe_call (ok_add_act T) (hr.mono (by decide)) rfl T.g_add_act (T.fn .d_add_act).kp (T.bi .d_add_act) .nil pass0 (pa_cons (pv 0) (pa_cons pe_int (pa_cons (pe_tup (pa_cons (pe_ic T.k_HANDLER) (pa_cons (pe_op op_mod (pv 2) (pe_ic T.k_KINDS)) pa_nil))) pa_nil)))))), ?_⟩
    obtain ⟨r, rest, x, f, fs, hr0, hx, hf, hrun⟩ := good.row_cons hrow
    rw [want_3 hrun hf hz hw] at out
    obtain ⟨hal, hwl⟩ := good.acl_top hx hf
    have hn : x.number = r := num_of hx
    refine ⟨_, rfl, _, rfl, _, _, rfl, rfl, (by show (0 : Int) < 256; decide), (by show 2 ≤ sizeLine; decide), fun b hb => ?_⟩
    have s1 := Same.new (o := .tup [.int 0, .int (((z.toNat / 16) % 256 : Nat) : Int)]) hb
    have w1 := wd.same s1
    refine ⟨3, b, .handler ((z.toNat / 16) % 256), r, rest, x, f, fs, G, L, st, rfl, w1.rep, hr0, hx, hf, hal, ⟨upd_same, wd.rep.free hb⟩, fun c H' cc R' fx ks => ?_, fun c H' L' R' kt kp ks => ?_⟩
    · rw [if_pos c] at out
      exact out.come (Went.refl _ _) (w1.kst R' ks) good hr0 fx.came ((Same.stay s1).trans ks.stay) rfl
    · rw [if_neg c] at out
      exact out.go H' G L' _ S (Went.refl _ _) (w1.kst R' ks) (good.top (f' := { f with acts := _ :: f.acts }) hx hf hwl (by show f.acts.length + 1 ≤ 32; omega) _) (by rw [show (st.with_ _).row = r :: rest from hr0]; simp) (com_of (s := st.with_ _) hr0 (stack_with_same hx hn) kt.came) ((Same.stay s1).trans ks.stay) kp
theorem ok_want_last (T : Txt P w K mg A) : FO P w K mg base A .d_want_last 3 (spWant A.cl K 4) := by
  refine (T.fn .d_want_last).ok sc_want_last (fun vs H Q E h => ?_) (fun cdv Ar outer s H vs Q E hr h => ?_)
  · obtain ⟨z, k, G, L, s, ak, S, rfl, _⟩ := h
    rfl
  · obtain ⟨z, k, G, L, st, ak, S, rfl, hz, hw, wd, good, hrow, hfit, out⟩ := h
    refine ⟨_, (pss_one (ps_ret (pe_call (ok_add_act T) (hr.mono (by decide)) rfl T.g_add_act (T.fn .d_add_act).kp (T.bi .d_add_act) .nil pass0 (pa_cons (pv 0) (pa_cons pe_int (pa_cons (pe_tup (pa_cons (pe_ic T.k_LAST) (pa_cons (pe_op op_mod (pv 2) (pe_ic T.k_FUNCTIONS)) pa_nil))) pa_nil)))))), ?_⟩
    obtain ⟨r, rest, x, f, fs, hr0, hx, hf, hrun⟩ := good.row_cons hrow
    rw [want_4 hrun hf hz hw] at out
    obtain ⟨hal, hwl⟩ := good.acl_top hx hf
    have hn : x.number = r := num_of hx
    refine ⟨_, rfl, _, rfl, _, _, rfl, rfl, (by show (0 : Int) < 65536; decide), (by show 2 ≤ sizeLine; decide), fun b hb => ?_⟩
    have s1 := Same.new (o := .tup [.int 1, .int (((z.toNat / 16) % 65536 : Nat) : Int)]) hb
    have w1 := wd.same s1
    refine ⟨4, b, .last ((z.toNat / 16) % 65536), r, rest, x, f, fs, G, L, st, rfl, w1.rep, hr0, hx, hf, hal, ⟨upd_same, wd.rep.free hb⟩, fun c H' cc R' fx ks => ?_, fun c H' L' R' kt kp ks => ?_⟩
    · rw [if_pos c] at out
      exact out.come (Went.refl _ _) (w1.kst R' ks) good hr0 fx.came ((Same.stay s1).trans ks.stay) rfl
    · rw [if_neg c] at out
      exact out.go H' G L' _ S (Went.refl _ _) (w1.kst R' ks) (good.top (f' := { f with acts := _ :: f.acts }) hx hf hwl (by show f.acts.length + 1 ≤ 32; omega) _) (by rw [show (st.with_ _).row = r :: rest from hr0]; simp) (com_of (s := st.with_ _) hr0 (stack_with_same hx hn) kt.came) ((Same.stay s1).trans ks.stay) kp
theorem ok_want_drop_act (T : Txt P w K mg A) : FO P w K mg base A .d_want_drop_act 9 (spWant A.cl K 5) := by
  refine (T.fn .d_want_drop_act).ok sc_want_drop_act (fun vs H Q E h => ?_) (fun cdv Ar outer s H vs Q E hr h => ?_)
  · obtain ⟨z, k, G, L, s, ak, S, rfl, _⟩ := h
    rfl
  · obtain ⟨z, k, G, L, st, ak, S, rfl, hz, hw, wd, good, hrow, hfit, out⟩ := h
    refine ⟨_, (pss_cons (ps_set (i := 3) sc_want_drop_act.nd rfl (Or.inl rfl) (pe_meth0 (pe_fld (pv 0) rfl) T.c_stack T.m_stack_innermost (ok_stack_innermost T) (hr.mono (by decide)) (T.bi .d_stack_innermost) .nil pass0)) (pss_cons (ps_if (pt_not (pt_truth (pe_fld (pv 3) rfl) (fun _ => rfl))) (pss_one (ps_ret (pe_call (ok_refuse T) (hr.mono (by decide)) rfl T.g_refuse (T.fn .d_refuse).kp (T.bi .d_refuse) .nil pass0 (pa_cons (pv 0) (pa_cons pe_int pa_nil))))) pss_nil) (pss_cons (ps_set (i := 4) sc_want_drop_act.nd rfl (Or.inl rfl) (pe_call (ok_drop_act T) (hr.mono (by decide)) rfl T.g_drop_act (T.fn .d_drop_act).kp (T.bi .d_drop_act) .nil pass0 (pa_cons (pv 1) (pa_cons (pv 3) (pa_cons (pe_ic T.k_WHY_RETURN) pa_nil))))) (pss_cons (ps_if (pt_cmpR op_notN (pv 4) pe_non (nomark _)) (pss_one (ps_ret (pe_call (ok_throw_on T) (hr.mono (by decide)) rfl T.g_throw_on (T.fn .d_throw_on).kp (T.bi .d_throw_on) .nil pass0 (pa_cons (pv 0) (pa_cons (pv 1) (pa_cons (pv 4) pa_nil)))))) pss_nil) (pss_one (ps_ret (pe_call (ok_go_on T) (hr.mono (by decide)) rfl T.g_go_on (T.fn .d_go_on).kp (T.bi .d_go_on) .nil pass0 (pa_cons (pv 0) pa_nil)))))))), ?_⟩
    obtain ⟨r, rest, x, f, fs, hr0, hx, hf, hrun⟩ := good.row_cons hrow
    have hM : (ms st).S r = some x := hx
    obtain ⟨dk, hk⟩ := wd.rep.kpr hr0
    obtain ⟨ds, hs⟩ := wd.rep.stk (live_of hM)
    have hin := wd.rep.inner hM hf
    have hfr := frameAt_head hM hf
    obtain ⟨df, hfm⟩ := wd.rep.frm hfr
    have hn : x.number = r := num_of hx
    obtain ⟨hal, hwl⟩ := good.acl_top hx hf
    refine ⟨_, rfl, L.kp, _, dk, _, _, rfl, hk, T.c_keep, T.n_keep_running, kf_running _ _ _ _ _, L.st r, ds, _, rfl, hs, (by kernel_rfl), L.st r, ds, r, _, _, _, _, _, _, rfl, hs, hin, ?_⟩
    cases ha : f.acts with
    | nil =>
      have hac := acts_nil wd.rep hfr ha
      rw [want_5n hrun hf hz hw ha] at out
      refine ⟨_, rfl, L.fm r fs.length, _, df, _, _, rfl, hfm, T.c_frame, T.n_frame_acts, ff_acts _ _ _ _ _, _, .inl ⟨_, SqL.of hac, rfl⟩, iteT ?_⟩
      exact ⟨_, rfl, 5, G, L, ms st, rfl, wd.rep, fun H' c R' fx ks => out.come (Went.refl _ _) (wd.kst R' ks) good hr0 fx.came ks.stay rfl⟩
    | cons a l =>
      obtain ⟨as, b, eaa, hac, has, hb⟩ := act_last wd.rep hfr ha
      obtain ⟨good3, hx3, hf3⟩ := top_act good hx hf ha
      refine ⟨_, rfl, L.fm r fs.length, _, df, _, _, rfl, hfm, T.c_frame, T.n_frame_acts, ff_acts _ _ _ _ _, _, .inl ⟨_, SqL.of hac, rfl⟩, ?_⟩
      rw [snoc_ne]
      refine iteF ?_
      have hr3 : (st.with_ (x.top { f with acts := l })).row = r :: rest := hr0
      have e3 : ∀ cm : Came, (st.with_ (x.top { f with acts := l })).come cm = st.with_ { (x.top { f with acts := l }) with came := cm } := fun cm => by
        rw [come_of hr3 hx3]
        have : ∀ y : Stack, y.number = x.number → (st.with_ (x.top { f with acts := l })).with_ y = st.with_ y := fun y hy => by
          show ({ st with stacks := _ } : State) = { st with stacks := _ }
          congr 1
          show (st.stacks.map _).map _ = st.stacks.map _
          rw [List.map_map]
          refine List.map_congr_left fun u _ => ?_
          show (if (if u.number = (x.top { f with acts := l }).number then x.top { f with acts := l } else u).number = y.number then y else (if u.number = (x.top { f with acts := l }).number then x.top { f with acts := l } else u)) = if u.number = y.number then y else u
          have hxn : (x.top { f with acts := l }).number = x.number := rfl
          by_cases hu : u.number = x.number
          · rw [hxn, if_pos hu, hxn, if_pos hy.symm, if_pos (hu.trans hy.symm)]
          · rw [hxn, if_neg hu]
        exact this _ rfl
      refine ⟨_, rfl, _, rfl, r, x, f, fs, a, l, 0, G, L, st, ak, S, rfl, wd, hx, hf, ha, fun h eh H5 L5 w5 st5 sam5 => ?_, fun g eg => ?_⟩
      · subst eh
        rw [want_5h hrun hf hz hw ha, ← e3] at out
        refine ⟨_, rfl, rfl, _, rfl, iteF ?_⟩
        refine ⟨_, rfl, G, L5, _, (by rw [sam5.kp]; rfl), w5.rep, fun H' c R' kt ks => ?_⟩
        exact out.come (Went.refl _ _) (w5.kst R' ks) good3 hr3 kt.came (st5.trans ks.stay) sam5.kp
      · subst eg
        rw [want_5l hrun hf hz hw ha] at out hfit
        refine ⟨hfit.ask, fun v H5 L5 w5 th5 st5 sam5 => ?_⟩
        have went5 : Went S (Given.Prog.ask (st.with_ (x.top { f with acts := l })) (.clean g 0) fun u y => if 0 < y then unwind u.size u (thrown y.toNat) k else k (u.come ⟨0, 0, 0⟩)) (S.add (.clean g 0)) (if 0 < S.ans then unwind (st.with_ (x.top { f with acts := l })).size (st.with_ (x.top { f with acts := l })) (thrown S.ans.toNat) k else k ((st.with_ (x.top { f with acts := l })).come ⟨0, 0, 0⟩)) := Went.ask
        by_cases hz5 : 0 < S.ans
        · rw [if_pos hz5] at th5
          rw [if_pos hz5] at went5
          have th5' : ThAt A.cl H5 G v (thrown S.ans.toNat) := th5
          refine ⟨_, rfl, rfl, _, rfl, ?_⟩
          rw [decide_eq_false th5'.ne]
          have o5 := out.step went5 st5
          refine iteT ⟨_, rfl, _, rfl, _, rfl, _, _, k, G, L5, _, ak, _, v, (by rw [sam5.kp]; rfl), w5, good3, th5', Nat.le_refl _, went5.fits hfit, ?_⟩
          rw [sam5.kp]
          exact o5
        · rw [if_neg hz5] at th5
          rw [if_neg hz5] at went5
          have th5' : v = .non := th5
          subst th5'
          refine ⟨_, rfl, rfl, _, rfl, iteF ?_⟩
          refine ⟨_, rfl, G, L5, _, (by rw [sam5.kp]; rfl), w5.rep, fun H' c R' kt ks => ?_⟩
          exact out.come went5 (w5.kst R' ks) good3 hr3 kt.came (st5.trans ks.stay) sam5.kp
end
end Th
namespace Th
open PySem PySem.Spec PyProof.Rows L2
open Md35 (State Stack Throw Came Ans P unwind leave ending gathered over thrown want)
section
variable {P : Program} {w : World} {K : PySem.W.Frag} {mg : Str → Option Value} {base : Heap} {A : Ad}
theorem ok_want_return (T : Txt P w K mg A) : FO P w K mg base A .d_want_return 9 (spWant A.cl K 0) := by
  refine (T.fn .d_want_return).ok sc_want_return (fun vs H Q E h => ?_) (fun cdv Ar outer s H vs Q E hr h => ?_)
  · obtain ⟨z, k, G, L, s, ak, S, rfl, _⟩ := h
    rfl
  · obtain ⟨z, k, G, L, st, ak, S, rfl, hz, hw, wd, good, hrow, hfit, out⟩ := h
    refine ⟨_, (pss_cons (ps_set (i := 3) sc_want_return.nd rfl (Or.inl rfl) (pe_fld (pv 0) rfl)) (pss_cons (ps_set (i := 4) sc_want_return.nd rfl (Or.inl rfl) (pe_meth0 (pv 3) T.c_stack T.m_stack_innermost (ok_stack_innermost T) (hr.mono (by decide)) (T.bi .d_stack_innermost) .nil pass0)) (pss_cons (ps_while PassesOwn.never (pt_truth (pe_fld (pv 4) rfl) (fun _ => rfl)) (pss_cons (ps_set (i := 5) sc_want_return.nd rfl (Or.inl rfl) (pe_call (ok_drop_act T) (hr.mono (by decide)) rfl T.g_drop_act (T.fn .d_drop_act).kp (T.bi .d_drop_act) .nil pass0 (pa_cons (pv 1) (pa_cons (pv 4) (pa_cons (pe_ic T.k_WHY_RETURN) pa_nil))))) (pss_one (ps_if (pt_cmpR op_notN (pv 5) pe_non (nomark _)) (pss_one (ps_ret (pe_call (ok_throw_on T) (hr.mono (by decide)) rfl T.g_throw_on (T.fn .d_throw_on).kp (T.bi .d_throw_on) .nil pass0 (pa_cons (pv 0) (pa_cons (pv 1) (pa_cons (pv 5) pa_nil)))))) pss_nil)))) (pss_cons (ps_expr (pe_meth (pv 0) T.c_keep T.m_keep_drop_frame (ok_keep_drop_frame T) (hr.mono (by decide)) (T.bi .d_keep_drop_frame) .nil pass0 (pa_cons (pv 3) pa_nil))) (pss_cons (ps_if (pt_truth (pe_fld (pv 3) rfl) (fun _ => rfl)) (pss_cons (ps_fld (pv 0) (pe_tup (pa_cons (pe_ic T.k_RETURNED) (pa_cons (pv 2) (pa_cons pe_int pa_nil)))) rfl) (pss_one (ps_ret pe_non))) pss_nil) (pss_cons (ps_expr (pe_meth (pv 0) T.c_keep T.m_keep_drop_stack (ok_keep_drop_stack T) (hr.mono (by decide)) (T.bi .d_keep_drop_stack) .nil pass0 (pa_cons (pv 3) pa_nil))) (pss_cons (ps_expr (pe_meth0 (pv 0) T.c_keep T.m_keep_take_off (ok_keep_take_off T) (hr.mono (by decide)) (T.bi .d_keep_take_off) .nil pass0)) (pss_cons (ps_if (pt_cmpR op_isN (pe_fld (pv 0) rfl) pe_non (nomark _)) (pss_one (ps_ret (pe_lst (pa_cons (pe_ic T.k_ENDS_RETURNED) (pa_cons (pv 2) pa_nil))))) pss_nil) (pss_cons (ps_fld (pv 0) (pe_tup (pa_cons (pe_ic T.k_STACK_RETURNED) (pa_cons (pv 2) (pa_cons (pe_fld (pv 3) rfl) pa_nil)))) rfl) (pss_one (ps_ret pe_non))))))))))), ?_⟩
    obtain ⟨r, rest, x, f, fs, hr0, hx, hf, hrun⟩ := good.row_cons hrow
    rw [want_0 hrun hf hz hw] at hfit out
    have hM : (ms st).S r = some x := hx
    obtain ⟨dk, hk⟩ := wd.rep.kpr hr0
    obtain ⟨ds, hs⟩ := wd.rep.stk (live_of hM)
    have hin := wd.rep.inner hM hf
    generalize ev : ((z.toNat / 16 : Nat) : Int) = v at hfit out
    refine ⟨_, rfl, L.kp, _, dk, _, _, rfl, hk, T.c_keep, T.n_keep_running, kf_running _ _ _ _ _, ?_⟩
    refine ⟨_, rfl, L.st r, ds, _, rfl, hs, (by kernel_rfl), L.st r, ds, r, _, _, _, _, _, _, rfl, hs, hin, ?_⟩
    obtain ⟨Wv, hW⟩ : ∃ W : Nat → L2.St → Hp → Prop, W = fun m σ H1 => ∃ (L1 : Lay) (n1 : Nat) (s1 : State) (S1 : AS) (x1 : Stack) (f1 : Md35.Frame) (u : Option V), σ = [some (.ref L.kp), some (.ref ak), some (.int v), some (.ref (L.st r)), some (.ref (L1.fm r fs.length)), u] ∧ m = f1.acts.length ∧
        Went S (leave st.size st v k) S1 (leave n1 s1 v k) ∧ Wd A.cl K H1 G L1 s1 ak S1 ∧ Good s1 ∧ s1.row = r :: rest ∧ s1.stack r = some x1 ∧ x1.frames = f1 :: fs ∧ s1.size ≤ n1 ∧ Stay G H G H1 ∧ L.Sam L1 := ⟨_, rfl⟩
    refine ⟨Wv, ⟨f.acts.length, ?_⟩, fun m σ H1 hw1 => ?_⟩
    · rw [hW, ← ev]
      exact ⟨L, _, st, S, x, f, none, rfl, rfl, Went.refl _ _, wd, good, hr0, hx, hf, Nat.le_refl _, Stay.refl _ _, Lay.Sam.refl L⟩
    · rw [hW] at hw1
      obtain ⟨L1, n1, s1, S1, x1, f1, u, rfl, rfl, went, wd1, good1, hr1, hx1, hf1, hsz1, st1, sam1⟩ := hw1
      have hM1 : (ms s1).S r = some x1 := hx1
      have hfr1 := frameAt_head hM1 hf1
      obtain ⟨df1, hfm1⟩ := wd1.rep.frm hfr1
      have fit1 := went.fits hfit
      obtain ⟨n2, rfl⟩ := size_succ hsz1
      have hn1 : x1.number = r := num_of hx1
      cases ha : f1.acts with
      | cons a l =>
        obtain ⟨as, b, eaa, hac, has, hb⟩ := act_last wd1.rep hfr1 ha
        refine ⟨_, rfl, L1.fm r fs.length, _, df1, _, _, rfl, hfm1, T.c_frame, T.n_frame_acts, ff_acts _ _ _ _ _, _, .inl ⟨_, SqL.of hac, rfl⟩, ?_⟩
        rw [snoc_ne]
        refine iteT ⟨_, fun σ' H' h => h, ?_⟩
        obtain ⟨good3, hx3, hf3⟩ := top_act good1 hx1 hf1 ha
        have hsz3 := size_act good1.toWF hx1 hf1 ha
        refine ⟨_, rfl, _, rfl, r, x1, f1, fs, a, l, 0, G, L1, s1, ak, S1, rfl, wd1, hx1, hf1, ha, fun h eh H3 L3 w3 st3 sam3 => ?_, fun g eg => ?_⟩
        · subst eh
          refine ⟨_, rfl, rfl, _, rfl, iteF ?_⟩
          refine ⟨l.length, (by first | exact Nat.lt_succ_self _ | (rw [ha]; exact Nat.lt_succ_self _)), ?_⟩
          rw [hW]
          exact ⟨L3, n2, _, S1, _, { f1 with acts := l }, _, (by rw [sam3.fm]; rfl), rfl, went.trans (Went.of_eq (leave_skip hr1 hx1 hf1 ha)), w3, good3, hr1, hx3, hf3, by omega, st1.trans st3, sam1.trans sam3⟩
        · subst eg
          have fl := fit1
          rw [leave_last hr1 hx1 hf1 ha] at fl
          refine ⟨fl.ask, fun y H3 L3 w3 th3 st3 sam3 => ?_⟩
          have went3 : Went S (leave st.size st v k) (S1.add (.clean g 0)) (if 0 < S1.ans then unwind (s1.with_ (x1.top { f1 with acts := l })).size (s1.with_ (x1.top { f1 with acts := l })) (thrown S1.ans.toNat) k else leave n2 (s1.with_ (x1.top { f1 with acts := l })) v k) :=
            went.trans ((Went.of_eq (leave_last hr1 hx1 hf1 ha)).trans Went.ask)
          by_cases hz3 : 0 < S1.ans
          · rw [if_pos hz3] at th3
            rw [if_pos hz3] at went3
            have th3' : ThAt A.cl H3 G y (thrown S1.ans.toNat) := th3
            refine ⟨_, rfl, rfl, _, rfl, ?_⟩
            rw [decide_eq_false th3'.ne]
            have o3 := out.step went3 (st1.trans st3)
            have kp3 : L3.kp = L.kp := sam3.kp.trans sam1.kp
            refine iteT ⟨_, rfl, _, rfl, _, rfl, _, _, k, G, L3, _, ak, _, y, (by rw [kp3]; rfl), w3, good3, th3', Nat.le_refl _, went3.fits hfit, ?_⟩
            rw [kp3]
            exact o3
          · rw [if_neg hz3] at th3
            rw [if_neg hz3] at went3
            have th3' : y = .non := th3
            subst th3'
            refine ⟨_, rfl, rfl, _, rfl, iteF ?_⟩
            refine ⟨l.length, (by first | exact Nat.lt_succ_self _ | (rw [ha]; exact Nat.lt_succ_self _)), ?_⟩
            rw [hW]
            exact ⟨L3, n2, _, _, _, { f1 with acts := l }, _, (by rw [sam3.fm]; rfl), rfl, went3, w3, good3, hr1, hx3, hf3, by omega, st1.trans st3, sam1.trans sam3⟩
      | nil =>
        have hac := acts_nil wd1.rep hfr1 ha
        refine ⟨_, rfl, L1.fm r fs.length, _, df1, _, _, rfl, hfm1, T.c_frame, T.n_frame_acts, ff_acts _ _ _ _ _, _, .inl ⟨_, SqL.of hac, rfl⟩, iteF ?_⟩
        obtain ⟨dk1, hk1⟩ := wd1.rep.kp
        rw [sam1.kp] at hk1
        refine ⟨_, rfl, L.kp, dk1, _, rfl, hk1, (by kernel_rfl), _, rfl, r, x1, f1, fs, G, L1, ms s1, (by rw [sam1.kp, sam1.st]; rfl), wd1.rep, good1.toWF.mw, hM1, hf1, fun H3 R3 ks3 => ?_⟩
        have hn3 : x1.pop.number = r := hn1
        have hM3 : ((ms s1).up r (some x1.pop)).S r = some x1.pop := up_S
        obtain ⟨ds3, hs3⟩ := R3.stk (live_of hM3)
        have hfr3 := R3.frs hM3
        rw [sam1.st] at hs3
        have pf := pop_frames hf1
        refine ⟨_, rfl, L.st r, _, ds3, _, _, rfl, hs3, T.c_stack, T.n_stack_frames, sf_frames _ _ _ _ _, _, .inl ⟨_, SqL.of hfr3, rfl⟩, ?_⟩
        rw [pf]
        have w3 : AskAt A.cl H3 G ak S1 := wd1.ask.kst ks3
        cases fs with
        | cons g gs =>
          have e : (!(frsV L1 r (g :: gs).length).isEmpty) = true := by
            rw [List.length_cons, frsV_succ, snoc_ne]
          rw [e]
          refine iteT ⟨_, rfl, (by show 3 ≤ sizeLine; decide), fun c hc => ⟨_, rfl, ?_⟩⟩
          rw [← sam1.kp]
          refine set_come T R3 hc fun H4 R4 fx ks4 => ?_
          have R5 := R4.came (k := r) (x := x1.pop) (y := { x1.pop with came := ⟨1, v, 0⟩ }) hM3 rfl rfl
          rw [up_up, ← ms_up (y := { x1.pop with came := ⟨1, v, 0⟩ }) hx1 hn3] at R5
          have sw := good1.sw r x1 hx1
          exact out.go H4 G _ _ S1 (went.trans (Went.of_eq (leave_pop hr1 hx1 hf1 ha))) (wd1.kst R5 (ks3.trans ks4)) (good1.withP hx1 hn3 ((sw.pop hf1).came _) (fun p hp => pop_sub hp) (by show x1.pop.frames ≠ []; rw [pf]; simp)) (by rw [show (s1.with_ _).row = r :: rest from hr1]; simp) (com_of (s := s1.with_ _) hr1 (stack_with_same hx1 hn3) fx.came) (st1.trans (ks3.trans ks4).stay) sam1.kp
        | nil =>
          have e : (!(frsV L1 r ([] : List Md35.Frame).length).isEmpty) = false := rfl
          rw [e]
          have wf3 := good1.toWF.pop hx1 hf1
          have hx3 : (s1.with_ x1.pop).stack r = some x1.pop := stack_with_same hx1 hn3
          rw [← ms_up hx1 hn3] at R3
          obtain ⟨dk3, hk3⟩ := R3.kp
          rw [sam1.kp] at hk3
          refine iteF ⟨_, rfl, L.kp, dk3, _, rfl, hk3, (by kernel_rfl), _, rfl, r, x1.pop, G, L1, ms (s1.with_ x1.pop), (by rw [sam1.kp, sam1.st]; rfl), R3, wf3.mw, hx3, fun H4 R4 ks4 => ?_⟩
          obtain ⟨dk4, hk4⟩ := R4.kp
          rw [sam1.kp] at hk4
          have hnd := good1.rnd
          rw [hr1, List.nodup_cons] at hnd
          refine ⟨_, rfl, L.kp, dk4, _, rfl, hk4, (by kernel_rfl), r, rest, G, L1, _, (by rw [sam1.kp]; rfl), R4, hr1, hnd.1, fun H5 R5 ks5 ⟨d5, hst5⟩ => ?_⟩
          have ew : ((s1.with_ x1.pop).without r) = s1.without r := by
            have := without_with (s := s1) (y := x1.pop)
            rw [hn3] at this
            exact this
          have R5' : Rep A.cl K H5 G L1 (ms { (s1.without r) with row := rest }) := by
            rw [← ew, ms_out]
            exact R5
          have ks5' := (ks3.trans ks4).trans ks5
          have w5 : Wd A.cl K H5 G L1 { (s1.without r) with row := rest } ak S1 := wd1.kst R5' ks5'
          have g5 := good1.gone hr1
          obtain ⟨dk5, hk5⟩ := R5'.kp
          rw [sam1.kp] at hk5
          refine ⟨_, rfl, L.kp, _, dk5, _, _, rfl, hk5, T.c_keep, T.n_keep_running, kf_running _ _ _ _ _, rfl, _, rfl, ?_⟩
          rw [runV_non]
          cases rest with
          | nil =>
            refine iteT ⟨_, rfl, (by show 2 ≤ sizeLine; decide), fun l hl => ?_⟩
            exact out.fin _ G L1 _ S1 ⟨0, [v]⟩ l (went.trans (Went.of_eq (leave_out hr1 hx1 hf1 ha))) (w5.same (Same.new hl)) g5 rfl (st1.trans (ks5'.stay.trans (new_stay hl))) sam1.kp upd_same (R5'.free hl)
          | cons q rest' =>
            rw [sam1.st] at hst5
            refine iteF ⟨_, rfl, _, rfl, L.st r, _, d5, _, _, rfl, hst5, T.c_stack, T.n_stack_number, sf_number _ _ _ _ _, (by show 3 ≤ sizeLine; decide), fun c hc => ⟨_, rfl, ?_⟩⟩
            rw [← sam1.kp]
            refine set_come T R5' hc fun H6 R6 fx ks6 => ?_
            exact out.come (went.trans (Went.of_eq (leave_back hr1 hx1 hf1 ha))) (w5.kst R6 ks6) g5 rfl fx.came (st1.trans (ks5'.trans ks6).stay) sam1.kp
theorem ok_want_call (T : Txt P w K mg A) : FO P w K mg base A .d_want_call 4 (spWant A.cl K 1) := by
  refine (T.fn .d_want_call).ok sc_want_call (fun vs H Q E h => ?_) (fun cdv Ar outer s H vs Q E hr h => ?_)
  · obtain ⟨z, k, G, L, s, ak, S, rfl, _⟩ := h
    rfl
  · obtain ⟨z, k, G, L, st, ak, S, rfl, hz, hw, wd, good, hrow, hfit, out⟩ := h
    refine ⟨_, (pss_cons (ps_if (pt_not (pt_val (pe_meth (pv 0) T.c_keep T.m_keep_add_frame (ok_keep_add_frame T) (hr.mono (by decide)) (T.bi .d_keep_add_frame) .nil pass0 (pa_cons (pe_fld (pv 0) rfl) (pa_cons (pe_op op_mod (pv 2) (pe_ic T.k_FUNCTIONS)) pa_nil))))) (pss_one (ps_ret (pe_call (ok_refuse T) (hr.mono (by decide)) rfl T.g_refuse (T.fn .d_refuse).kp (T.bi .d_refuse) .nil pass0 (pa_cons (pv 0) (pa_cons pe_int pa_nil))))) pss_nil) (pss_cons (ps_fld (pv 0) (pe_tup (pa_cons (pe_ic T.k_CALLED) (pa_cons (pe_op op_fdiv (pv 2) (pe_ic T.k_FUNCTIONS)) (pa_cons pe_int pa_nil)))) rfl) (pss_one (ps_ret pe_non)))), ?_⟩
    obtain ⟨r, rest, x, f, fs, hr0, hx, hf, hrun⟩ := good.row_cons hrow
    rw [want_1 hrun hf hz hw] at out
    have hM : (ms st).S r = some x := hx
    obtain ⟨dk, hk⟩ := wd.rep.kpr hr0
    have hn : x.number = r := num_of hx
    have tkp : ∀ q, tk (ms st) q = true ↔ ∃ y ∈ st.stacks, q ∈ y.pieces := fun q => by
      rw [tk_iff]
      constructor
      · rintro ⟨j, y, _, h2, h3⟩
        exact ⟨y, stack_mem h2, h3⟩
      · rintro ⟨y, h1, h2⟩
        have h3 := mem_stack good.toWF h1
        exact ⟨y.number, y, good.small _ _ h3, h3, h2⟩
    refine ⟨_, rfl, L.kp, dk, _, rfl, hk, (by kernel_rfl), _, rfl, L.kp, _, dk, _, _, rfl, hk, T.c_keep, T.n_keep_running, kf_running _ _ _ _ _, _, rfl, _, _, rfl, rfl, (by show (0 : Int) < 65536; decide), r, (z.toNat / 16) % 65536, x, G, L, ms st, rfl, wd.rep, good.toWF.mw, hM, fun c H1 G1 L1 R1 ks1 kp1 _ => ?_, fun c hall => ?_, fun c p hp hpf hpb H1 G1 L1 R1 ks1 kp1 _ => ?_⟩
    · refine ⟨_, rfl, iteF ?_⟩
      rw [push_room c] at out
      have hn1 : ({ x with frames := { fn := (z.toNat / 16) % 65536 } :: x.frames } : Stack).number = r := hn
      rw [← ms_up hx hn1] at R1
      have g1 := (good.push (f := { fn := (z.toNat / 16) % 65536 }) hx rfl (Nat.zero_le _) (push_room c)).1
      refine ⟨_, rfl, _, _, rfl, rfl, ⟨by decide, by decide⟩, (by show 3 ≤ sizeLine; decide), fun cc hc => ⟨_, rfl, ?_⟩⟩
      rw [← kp1.kp]
      refine set_come T R1 hc fun H2 R2 fx ks2 => ?_
      exact out.come (Went.refl _ _) ((wd.kst R1 ks1).kst R2 ks2) g1 hr0 fx.came (ks1.trans ks2).stay kp1.kp
    · refine ⟨_, rfl, iteT ?_⟩
      have hnone : st.piece = none := by
        cases e : st.piece with
        | none => rfl
        | some p =>
          obtain ⟨h1, h2, _⟩ := piece_some e
          obtain ⟨y, hy, hpy⟩ := (tkp p).mp (hall p h1)
          exact absurd hpy (h2 y hy)
      rw [push_full c, hnone] at out
      exact ⟨_, rfl, 1, G, L, ms st, rfl, wd.rep, fun H' cc R' fx ks => out.come (Went.refl _ _) (wd.kst R' ks) good hr0 fx.came ks.stay rfl⟩
    · refine ⟨_, rfl, iteF ?_⟩
      have hsome : st.piece = some p := by
        cases e : st.piece with
        | none =>
          have := (tkp p).mpr (piece_none e p hp)
          rw [hpf] at this
          cases this
        | some p' =>
          obtain ⟨h1, h2, h3⟩ := piece_some e
          congr 1
          rcases Nat.lt_trichotomy p p' with h | h | h
          · have := (tkp p).mpr (h3 p h)
            rw [hpf] at this
            cases this
          · exact h.symm
          · obtain ⟨y, hy, hpy⟩ := (tkp p').mp (hpb p' h)
            exact absurd hpy (h2 y hy)
      have epush := push_full (s := st) (x := x) (f := { fn := (z.toNat / 16) % 65536 }) c
      rw [hsome] at epush
      rw [epush] at out
      have hn1 : ({ x with frames := { fn := (z.toNat / 16) % 65536 } :: x.frames, pieces := x.pieces ++ [p] } : Stack).number = r := hn
      rw [← ms_up hx hn1] at R1
      have g1 := (good.push (f := { fn := (z.toNat / 16) % 65536 }) hx rfl (Nat.zero_le _) epush).1
      refine ⟨_, rfl, _, _, rfl, rfl, ⟨by decide, by decide⟩, (by show 3 ≤ sizeLine; decide), fun cc hc => ⟨_, rfl, ?_⟩⟩
      rw [← kp1.kp]
      refine set_come T R1 hc fun H2 R2 fx ks2 => ?_
      exact out.come (Went.refl _ _) ((wd.kst R1 ks1).kst R2 ks2) g1 hr0 fx.came (ks1.trans ks2).stay kp1.kp
end
end Th
namespace Th
open PySem PySem.Spec PyProof.Rows L2
open Md35 (State Stack Throw Came Ans P unwind leave ending gathered over thrown want insertStack)
theorem tk_state {s : State} (g : WF s) (q : Nat) : tk (ms s) q = true ↔ ∃ y ∈ s.stacks, q ∈ y.pieces := by
  rw [tk_iff]
  constructor
  · rintro ⟨j, y, _, h2, h3⟩
    exact ⟨y, stack_mem h2, h3⟩
  · rintro ⟨y, h1, h2⟩
    have h3 := mem_stack g h1
    exact ⟨y.number, y, g.small _ _ h3, h3, h2⟩
theorem piece_no {s : State} (g : WF s) (hall : ∀ q, q < 256 → tk (ms s) q = true) : s.piece = none := by
  cases e : s.piece with
  | none => rfl
  | some p =>
    obtain ⟨h1, h2, _⟩ := piece_some e
    obtain ⟨y, hy, hpy⟩ := (tk_state g p).mp (hall p h1)
    exact absurd hpy (h2 y hy)
theorem piece_yes {s : State} (g : WF s) {p : Nat} (hp : p < 256) (hpf : tk (ms s) p = false) (hpb : ∀ q, q < p → tk (ms s) q = true) : s.piece = some p := by
  cases e : s.piece with
  | none =>
    have := (tk_state g p).mpr (piece_none e p hp)
    rw [hpf] at this
    cases this
  | some p' =>
    obtain ⟨h1, h2, h3⟩ := piece_some e
    congr 1
    rcases Nat.lt_trichotomy p p' with h | h | h
    · have := (tk_state g p).mpr (h3 p h)
      rw [hpf] at this
      cases this
    · exact h.symm
    · obtain ⟨y, hy, hpy⟩ := (tk_state g p').mp (hpb p' h)
      exact absurd hpy (h2 y hy)
theorem begin_no1 {s : State} {f : Nat} {c : Came} (h : ∀ j, j < 64 → (s.stack j).isSome = true) : s.begin_ f c = none := by
  cases e : s.begin_ f c with
  | none => rfl
  | some y =>
    obtain ⟨u, k⟩ := y
    obtain ⟨p, hk, hs, _⟩ := begin_some e
    have := h k hk
    rw [hs] at this
    cases this
theorem begin_no2 {s : State} {f : Nat} {c : Came} (h : s.piece = none) : s.begin_ f c = none := by
  cases e : s.begin_ f c with
  | none => rfl
  | some y =>
    obtain ⟨u, k⟩ := y
    obtain ⟨p, hk, hs, _, hp, _⟩ := begin_some e
    rw [h] at hp
    cases hp
theorem ms_insert {s : State} {x : Stack} (h : s.stack x.number = none) : ms { s with stacks := insertStack x s.stacks } = (ms s).up x.number (some x) := by
  have e : ({ s with stacks := insertStack x s.stacks } : State).stack = upS s.stack x.number (some x) := by
    funext j
    rw [insert_stack h]
    rfl
  show (⟨({ s with stacks := insertStack x s.stacks } : State).stack, s.row, s.uncaught⟩ : MS) = ⟨upS s.stack x.number (some x), s.row, s.uncaught⟩
  rw [e]
theorem isSome_of {α : Type} {o : Option α} (h : o.isSome = true) : ∃ x, o = some x := by
  cases o with
  | none => cases h
  | some x => exact ⟨x, rfl⟩
section
variable {P : Program} {w : World} {K : PySem.W.Frag} {mg : Str → Option Value} {base : Heap} {A : Ad}
theorem ok_want_hand_out (T : Txt P w K mg A) : FO P w K mg base A .d_want_hand_out 2 (spWant A.cl K 6) := by
  refine (T.fn .d_want_hand_out).ok sc_want_hand_out (fun vs H Q E h => ?_) (fun cdv Ar outer s H vs Q E hr h => ?_)
  · obtain ⟨z, k, G, L, s, ak, S, rfl, _⟩ := h
    rfl
  · obtain ⟨z, k, G, L, st, ak, S, rfl, hz, hw, wd, good, hrow, hfit, out⟩ := h
    refine ⟨_, (pss_cons (ps_set (i := 3) sc_want_hand_out.nd rfl (Or.inl rfl) (pe_fld (pe_fld (pv 0) rfl) rfl)) (pss_cons (ps_expr (pe_meth0 (pv 0) T.c_keep T.m_keep_take_off (ok_keep_take_off T) (hr.mono (by decide)) (T.bi .d_keep_take_off) .nil pass0)) (pss_cons (ps_if (pt_cmpR op_isN (pe_fld (pv 0) rfl) pe_non (nomark _)) (pss_one (ps_ret (pe_lst (pa_cons (pe_ic T.k_ENDS_HANDED_OUT) (pa_cons (pv 2) (pa_cons (pv 3) pa_nil)))))) pss_nil) (pss_cons (ps_fld (pv 0) (pe_tup (pa_cons (pe_ic T.k_HANDED_OUT) (pa_cons (pv 2) (pa_cons (pv 3) pa_nil)))) rfl) (pss_one (ps_ret pe_non)))))), ?_⟩
    obtain ⟨r, rest, x, f, fs, hr0, hx, hf, hrun⟩ := good.row_cons hrow
    have hn : x.number = r := num_of hx
    rw [want_6 hrun hf hz hw, hr0, hn] at out
    have hM : (ms st).S r = some x := hx
    obtain ⟨dk, hk⟩ := wd.rep.kpr hr0
    obtain ⟨ds, hs⟩ := wd.rep.stk (live_of hM)
    have hnd := good.rnd
    rw [hr0, List.nodup_cons] at hnd
    refine ⟨_, rfl, L.kp, _, dk, _, _, rfl, hk, T.c_keep, T.n_keep_running, kf_running _ _ _ _ _, L.st r, _, ds, _, _, rfl, hs, T.c_stack, T.n_stack_number, sf_number _ _ _ _ _, ?_⟩
    refine ⟨_, rfl, L.kp, dk, _, rfl, hk, (by kernel_rfl), r, rest, G, L, ms st, rfl, wd.rep, hr0, hnd.1, fun H1 R1 ks1 _ => ?_⟩
    have R1' : Rep A.cl K H1 G L (ms { st with row := rest }) := R1
    have w1 : Wd A.cl K H1 G L { st with row := rest } ak S := wd.kst R1' ks1
    have g1 : Good { st with row := rest } := good.row hnd.2 fun q hq => good.rin q (by rw [hr0]; exact List.mem_cons_of_mem _ hq)
    obtain ⟨dk1, hk1⟩ := R1'.kp
    refine ⟨_, rfl, L.kp, _, dk1, _, _, rfl, hk1, T.c_keep, T.n_keep_running, kf_running _ _ _ _ _, rfl, _, rfl, ?_⟩
    rw [runV_non]
    cases rest with
    | nil =>
      refine iteT ⟨_, rfl, _, rfl, (by show 3 ≤ sizeLine; decide), fun l hl => ?_⟩
      exact out.fin _ G L { st with row := [] } S ⟨2, [((z.toNat / 16 : Nat) : Int), (r : Int)]⟩ l (Went.refl _ _) (w1.same (Same.new hl)) g1 rfl (ks1.stay.trans (new_stay hl)) rfl upd_same (R1'.free hl)
    | cons q rest' =>
      refine iteF ⟨_, rfl, _, rfl, (by show 3 ≤ sizeLine; decide), fun c hc => ⟨_, rfl, ?_⟩⟩
      refine set_come T R1' hc fun H2 R2 fx ks2 => ?_
      exact out.come (s := { st with row := q :: rest' }) (Went.refl _ _) (w1.kst R2 ks2) g1 rfl fx.came (ks1.trans ks2).stay rfl
theorem ok_want_new_stack (T : Txt P w K mg A) : FO P w K mg base A .d_want_new_stack 5 (spWant A.cl K 7) := by
  refine (T.fn .d_want_new_stack).ok sc_want_new_stack (fun vs H Q E h => ?_) (fun cdv Ar outer s H vs Q E hr h => ?_)
  · obtain ⟨z, k, G, L, s, ak, S, rfl, _⟩ := h
    rfl
  · obtain ⟨z, k, G, L, st, ak, S, rfl, hz, hw, wd, good, hrow, hfit, out⟩ := h
    refine ⟨_, (pss_cons (ps_set (i := 3) sc_want_new_stack.nd rfl (Or.inl rfl) (pe_meth (pv 0) T.c_keep T.m_keep_add_stack (ok_keep_add_stack T) (hr.mono (by decide)) (T.bi .d_keep_add_stack) .nil pass0 (pa_cons (pe_op op_mod (pv 2) (pe_ic T.k_FUNCTIONS)) pa_nil))) (pss_cons (ps_if (pt_cmpR op_isN (pv 3) pe_non (nomark _)) (pss_one (ps_ret (pe_call (ok_refuse T) (hr.mono (by decide)) rfl T.g_refuse (T.fn .d_refuse).kp (T.bi .d_refuse) .nil pass0 (pa_cons (pv 0) (pa_cons pe_int pa_nil))))) pss_nil) (pss_cons (ps_fld (pv 0) (pe_tup (pa_cons (pe_ic T.k_STACK_MADE) (pa_cons (pe_fld (pv 3) rfl) (pa_cons pe_int pa_nil)))) rfl) (pss_one (ps_ret pe_non))))), ?_⟩
    obtain ⟨r, rest, x, f, fs, hr0, hx, hf, hrun⟩ := good.row_cons hrow
    rw [want_7 hrun hf hz hw] at out
    obtain ⟨dk, hk⟩ := wd.rep.kpr hr0
    have no : st.begin_ ((z.toNat / 16) % 65536) ⟨0, 0, 0⟩ = none → ∃ v H1, (V.non = v) ∧ H1 = H ∧ Out A.cl K G H L.kp ak S (k (st.come ⟨8, 7, 0⟩)) k Q := fun e => ⟨_, _, rfl, rfl, by rw [e] at out; exact out⟩
    refine ⟨_, rfl, L.kp, dk, _, rfl, hk, (by kernel_rfl), _, rfl, _, _, rfl, rfl, (by show (0 : Int) < 65536; decide), (z.toNat / 16) % 65536, G, L, ms st, rfl, wd.rep, good.toWF.mw, fun q hq => ?_, fun hall => ?_, fun hall => ?_, fun kk p hk64 hs hbef hp hpf hpb H1 G1 L1 R1 ks1 kp1 => ?_⟩
    · obtain ⟨y, hy⟩ := good.rin q hq
      rw [show (ms st).S q = some y from hy]
      rfl
    · obtain ⟨_, _, _, _, o⟩ := no (begin_no1 hall)
      refine ⟨_, rfl, rfl, _, rfl, ?_⟩
      rw [decide_eq_true rfl]
      exact iteT ⟨_, rfl, 7, G, L, ms st, rfl, wd.rep, fun H' cc R' fx ks => o.come (Went.refl _ _) (wd.kst R' ks) good hr0 fx.came ks.stay rfl⟩
    · obtain ⟨_, _, _, _, o⟩ := no (begin_no2 (piece_no good.toWF hall))
      refine ⟨_, rfl, rfl, _, rfl, ?_⟩
      rw [decide_eq_true rfl]
      exact iteT ⟨_, rfl, 7, G, L, ms st, rfl, wd.rep, fun H' cc R' fx ks => o.come (Went.refl _ _) (wd.kst R' ks) good hr0 fx.came ks.stay rfl⟩
    · have hpc := piece_yes good.toWF hp hpf hpb
      have eb := begin_of (f := (z.toNat / 16) % 65536) (c := ⟨0, 0, 0⟩) hk64 hs (fun j hj => isSome_of (hbef j hj)) hpc
      obtain ⟨g1, r1, _, _⟩ := good.begin_ eb
      rw [eb] at out
      have R1' := R1 ⟨0, 0, 0⟩
      have em := ms_insert (s := st) (x := ⟨kk, [{ fn := (z.toNat / 16) % 65536 }], [p], ⟨0, 0, 0⟩⟩) hs
      rw [← em] at R1'
      obtain ⟨ds1, hs1⟩ := (R1 ⟨0, 0, 0⟩).stk (live_of up_S)
      refine ⟨_, rfl, rfl, _, rfl, ?_⟩
      rw [decide_eq_false (by intro y; cases y)]
      refine iteF ⟨_, rfl, L1.st kk, _, ds1, _, _, rfl, hs1, T.c_stack, T.n_stack_number, sf_number _ _ _ _ _, (by show 3 ≤ sizeLine; decide), fun c hc => ⟨_, rfl, ?_⟩⟩
      rw [← kp1.kp]
      refine set_come T R1' hc fun H2 R2 fx ks2 => ?_
      exact out.come (Went.refl _ _) ((wd.kst R1' ks1).kst R2 ks2) g1 (r1.trans hr0) fx.came (ks1.trans ks2).stay kp1.kp
theorem ok_want_go_on_with (T : Txt P w K mg A) : FO P w K mg base A .d_want_go_on_with 3 (spWant A.cl K 8) := by
  refine (T.fn .d_want_go_on_with).ok sc_want_go_on_with (fun vs H Q E h => ?_) (fun cdv Ar outer s H vs Q E hr h => ?_)
  · obtain ⟨z, k, G, L, s, ak, S, rfl, _⟩ := h
    rfl
  · obtain ⟨z, k, G, L, st, ak, S, rfl, hz, hw, wd, good, hrow, hfit, out⟩ := h
    refine ⟨_, (pss_cons (ps_set (i := 3) sc_want_go_on_with.nd rfl (Or.inl rfl) (pe_meth (pv 0) T.c_keep T.m_keep_cut_stack (ok_keep_cut_stack T) (hr.mono (by decide)) (T.bi .d_keep_cut_stack) .nil pass0 (pa_cons (pe_op op_mod (pv 2) (pe_ic T.k_STACKS_MOST)) pa_nil))) (pss_cons (ps_if (pt_cmpR op_isN (pv 3) pe_non (nomark _)) (pss_one (ps_ret (pe_call (ok_refuse T) (hr.mono (by decide)) rfl T.g_refuse (T.fn .d_refuse).kp (T.bi .d_refuse) .nil pass0 (pa_cons (pv 0) (pa_cons pe_int pa_nil))))) pss_nil) (pss_cons (ps_expr (pe_meth (pv 0) T.c_keep T.m_keep_put_on_sending (ok_keep_put_on_sending T) (hr.mono (by decide)) (T.bi .d_keep_put_on_sending) .nil pass0 (pa_cons (pv 3) (pa_cons (pe_op op_fdiv (pv 2) (pe_ic T.k_STACKS_MOST)) pa_nil)))) (pss_one (ps_ret pe_non))))), ?_⟩
    obtain ⟨r, rest, x, f, fs, hr0, hx, hf, hrun⟩ := good.row_cons hrow
    rw [want_8 hrun hf hz hw] at out
    obtain ⟨dk, hk⟩ := wd.rep.kpr hr0
    have rf : Out A.cl K G H L.kp ak S (k (st.come ⟨8, 8, 0⟩)) k Q → spRefuse A.cl K [.ref L.kp, .int 8] H Q E0 := fun o => ⟨8, G, L, ms st, rfl, wd.rep, fun H' cc R' fx ks => o.come (Went.refl _ _) (wd.kst R' ks) good hr0 fx.came ks.stay rfl⟩
    refine ⟨_, rfl, L.kp, dk, _, rfl, hk, (by kernel_rfl), _, rfl, _, _, rfl, rfl, (by show (0 : Int) < 64; decide), (((z.toNat / 16) % 64 : Nat) : Int), G, L, ms st, rfl, wd.rep, good.toWF.mw, fun e => ?_, fun y e hc => ?_, fun y e hc => ?_⟩
    · rw [stA_nat] at e
      rw [show st.stack ((z.toNat / 16) % 64) = none from e] at out
      refine ⟨_, rfl, rfl, _, rfl, ?_⟩
      rw [decide_eq_true rfl]
      exact iteT ⟨_, rfl, rf out⟩
    · rw [stA_nat] at e
      have e' : st.stack ((z.toNat / 16) % 64) = some y := e
      have hn : y.number = (z.toNat / 16) % 64 := num_of e'
      rw [e'] at out
      have o2 : Out A.cl K G H L.kp ak S (k (st.come ⟨8, 8, 0⟩)) k Q := by
        have hc' : st.row.contains y.number = true := by rw [hn]; exact hc
        simp only [hc', if_true] at out
        exact out
      refine ⟨_, rfl, rfl, _, rfl, ?_⟩
      rw [decide_eq_true rfl]
      exact iteT ⟨_, rfl, rf o2⟩
    · rw [stA_nat] at e
      have e' : st.stack ((z.toNat / 16) % 64) = some y := e
      have hn : y.number = (z.toNat / 16) % 64 := num_of e'
      rw [e'] at out
      have hc' : ¬ st.row.contains y.number = true := by
        rw [hn]
        intro h
        have hc2 : st.row.contains ((z.toNat / 16) % 64) = false := hc
        rw [h] at hc2
        cases hc2
      have hnm : (z.toNat / 16) % 64 ∉ st.row := fun m => hc' (by rw [hn]; simpa using m)
      cases hfy : y.frames with
      | nil => exact absurd hfy (good.live _ _ e')
      | cons g gs =>
        have o2 : Out A.cl K G H L.kp ak S (k (({ st with row := (z.toNat / 16) % 64 :: st.row } : State).come ⟨if g.place = 0 then 0 else 6, (((z.toNat / 16) / 64 : Nat) : Int), 0⟩)) k Q := by
          have hc3 : ¬ st.row.contains ((z.toNat / 16) % 64) = true := by rw [← hn]; exact hc'
          simp only [hn, if_neg hc3, hfy] at out
          exact out
        refine ⟨_, rfl, rfl, _, rfl, ?_⟩
        rw [decide_eq_false (by intro y; cases y)]
        refine iteF ⟨_, rfl, L.kp, dk, _, rfl, hk, (by kernel_rfl), _, rfl, _, rfl, _, _, rfl, rfl, ⟨by decide, by decide⟩, (z.toNat / 16) % 64, (((z.toNat / 16) / 64 : Nat) : Int), y, g, gs, G, L, ms st, rfl, wd.rep, e', hfy, fun H1 c R1 fx ks1 => ?_⟩
        have R1' : Rep A.cl K H1 G { L with cm := c } (ms { st with row := (z.toNat / 16) % 64 :: st.row }) := R1
        have g1 : Good { st with row := (z.toNat / 16) % 64 :: st.row } := good.row (List.nodup_cons.mpr ⟨hnm, good.rnd⟩) fun q hq => by
          rcases List.mem_cons.mp hq with rfl | hq
          · exact ⟨y, e'⟩
          · exact good.rin q hq
        exact o2.come (Went.refl _ _) (wd.kst R1' ks1) g1 rfl fx.came ks1.stay rfl
theorem ok_want_throw_again (T : Txt P w K mg A) : FO P w K mg base A .d_want_throw_again 9 (spWant A.cl K 10) := by
  refine (T.fn .d_want_throw_again).ok sc_want_throw_again (fun vs H Q E h => ?_) (fun cdv Ar outer s H vs Q E hr h => ?_)
  · obtain ⟨z, k, G, L, s, ak, S, rfl, _⟩ := h
    rfl
  · obtain ⟨z, k, G, L, st, ak, S, rfl, hz, hw, wd, good, hrow, hfit, out⟩ := h
    refine ⟨_, (pss_cons (ps_set (i := 3) sc_want_throw_again.nd rfl (Or.inl rfl) (pe_fld (pe_meth0 (pe_fld (pv 0) rfl) T.c_stack T.m_stack_innermost (ok_stack_innermost T) (hr.mono (by decide)) (T.bi .d_stack_innermost) .nil pass0) rfl)) (pss_cons (ps_if (pt_cmpR op_isN (pv 3) pe_non (nomark _)) (pss_one (ps_ret (pe_call (ok_refuse T) (hr.mono (by decide)) rfl T.g_refuse (T.fn .d_refuse).kp (T.bi .d_refuse) .nil pass0 (pa_cons (pv 0) (pa_cons pe_int pa_nil))))) pss_nil) (pss_one (ps_ret (pe_call (ok_throw_on T) (hr.mono (by decide)) rfl T.g_throw_on (T.fn .d_throw_on).kp (T.bi .d_throw_on) .nil pass0 (pa_cons (pv 0) (pa_cons (pv 1) (pa_cons (pv 3) pa_nil)))))))), ?_⟩
    obtain ⟨r, rest, x, f, fs, hr0, hx, hf, hrun⟩ := good.row_cons hrow
    rw [want_10 hrun hf hz hw] at out hfit
    have hM : (ms st).S r = some x := hx
    obtain ⟨dk, hk⟩ := wd.rep.kpr hr0
    obtain ⟨ds, hs⟩ := wd.rep.stk (live_of hM)
    have hin := wd.rep.inner hM hf
    have hfr := frameAt_head hM hf
    obtain ⟨df, hfm⟩ := wd.rep.frm hfr
    have hcau := wd.rep.misc.cau _ _ _ hfr
    refine ⟨_, rfl, L.kp, _, dk, _, _, rfl, hk, T.c_keep, T.n_keep_running, kf_running _ _ _ _ _, L.st r, ds, _, rfl, hs, (by kernel_rfl), L.st r, ds, r, _, _, _, _, _, _, rfl, hs, hin, L.fm r fs.length, _, df, _, _, rfl, hfm, T.c_frame, T.n_frame_caught, ff_caught _ _ _ _ _, ?_⟩
    cases hc : f.caught with
    | none =>
      rw [hc] at hcau out
      have hcau' : L.cg r fs.length = .non := hcau
      rw [hcau']
      refine ⟨_, rfl, rfl, _, rfl, ?_⟩
      rw [decide_eq_true rfl]
      exact iteT ⟨_, rfl, 10, G, L, ms st, rfl, wd.rep, fun H' cc R' fx ks => out.come (Went.refl _ _) (wd.kst R' ks) good hr0 fx.came ks.stay rfl⟩
    | some t =>
      rw [hc] at hcau out hfit
      have hcau' : ThAt A.cl H G (L.cg r fs.length) t := hcau
      refine ⟨_, rfl, rfl, _, rfl, ?_⟩
      rw [decide_eq_false hcau'.ne]
      exact iteF ⟨_, rfl, _, rfl, _, rfl, st.size, t, k, G, L, st, ak, S, _, rfl, wd, good, hcau', Nat.le_refl _, hfit, out⟩
theorem ok_want_set_word (T : Txt P w K mg A) : FO P w K mg base A .d_want_set_word 2 (spWant A.cl K 11) := by
  refine (T.fn .d_want_set_word).ok sc_want_set_word (fun vs H Q E h => ?_) (fun cdv Ar outer s H vs Q E hr h => ?_)
  · obtain ⟨z, k, G, L, s, ak, S, rfl, _⟩ := h
    rfl
  · obtain ⟨z, k, G, L, st, ak, S, rfl, hz, hw, wd, good, hrow, hfit, out⟩ := h
    refine ⟨_, (pss_cons (ps_set (i := 3) sc_want_set_word.nd rfl (Or.inl rfl) (pe_fld (pe_meth0 (pe_fld (pv 0) rfl) T.c_stack T.m_stack_innermost (ok_stack_innermost T) (hr.mono (by decide)) (T.bi .d_stack_innermost) .nil pass0) rfl)) (pss_cons (ps_asg (pe_op op_fdiv (pv 2) (pe_ic T.k_WORDS)) (pg_sub (pv 3) (pe_op op_mod (pv 2) (pe_ic T.k_WORDS)) set_list)) (pss_one (ps_ret (pe_call (ok_go_on T) (hr.mono (by decide)) rfl T.g_go_on (T.fn .d_go_on).kp (T.bi .d_go_on) .nil pass0 (pa_cons (pv 0) pa_nil)))))), ?_⟩
    obtain ⟨r, rest, x, f, fs, hr0, hx, hf, hrun⟩ := good.row_cons hrow
    rw [want_11 hrun hf hz hw] at out
    have hM : (ms st).S r = some x := hx
    obtain ⟨dk, hk⟩ := wd.rep.kpr hr0
    obtain ⟨ds, hs⟩ := wd.rep.stk (live_of hM)
    have hin := wd.rep.inner hM hf
    have hfr := frameAt_head hM hf
    obtain ⟨df, hfm⟩ := wd.rep.frm hfr
    have hwd := wd.rep.wds hfr
    obtain ⟨hal, hwl⟩ := good.acl_top hx hf
    have hn : x.number = r := num_of hx
    refine ⟨_, rfl, L.kp, _, dk, _, _, rfl, hk, T.c_keep, T.n_keep_running, kf_running _ _ _ _ _, L.st r, ds, _, rfl, hs, (by kernel_rfl), L.st r, ds, r, _, _, _, _, _, _, rfl, hs, hin, L.fm r fs.length, _, df, _, _, rfl, hfm, T.c_frame, T.n_frame_words, ff_words _ _ _ _ _, ?_⟩
    have hlt : (z.toNat / 16) % 4 < (f.words.map V.int).length := by
      rw [List.length_map, hwl]
      exact Nat.mod_lt _ (by decide)
    refine ⟨_, rfl, _, _, rfl, rfl, ⟨by decide, by decide⟩, _, rfl, _, rfl, _, _, rfl, rfl, (by show (0 : Int) < 4; decide), L.wd r fs.length, _, _, (z.toNat / 16) % 4, rfl, rfl, hwd, ixN_nat hlt, ?_⟩
    have e : (f.words.map V.int).set ((z.toNat / 16) % 4) (V.int ((((z.toNat / 16 : Nat) : Int)) / 4)) = (f.words.set ((z.toNat / 16) % 4) (((z.toNat / 16) / 4 : Nat) : Int)).map V.int := by
      rw [List.map_set]
      rfl
    rw [e]
    have R1 := wd.rep.setwords (ws := f.words.set ((z.toNat / 16) % 4) (((z.toNat / 16) / 4 : Nat) : Int)) (y := { (x.top { f with words := f.words.set ((z.toNat / 16) % 4) (((z.toNat / 16) / 4 : Nat) : Int) }) with came := ⟨0, 0, 0⟩ }) hM hf (top_frames hf) rfl
    rw [← ms_up (y := { (x.top { f with words := f.words.set ((z.toNat / 16) % 4) (((z.toNat / 16) / 4 : Nat) : Int) }) with came := ⟨0, 0, 0⟩ }) hx hn] at R1
    refine ⟨_, rfl, G, L, _, rfl, R1, fun H' c R' kt ks => ?_⟩
    have ks' := (Kst.own (o := .lst ((f.words.set ((z.toNat / 16) % 4) (((z.toNat / 16) / 4 : Nat) : Int)).map V.int)) wd.rep (cont_wd hfr)).trans ks
    exact out.go H' G _ _ S (Went.refl _ _) (wd.kst R' ks') (good.top (f' := { f with words := f.words.set ((z.toNat / 16) % 4) (((z.toNat / 16) / 4 : Nat) : Int) }) hx hf (by show (f.words.set _ _).length = 4; rw [List.length_set]; exact hwl) hal _) (by rw [show (st.with_ _).row = r :: rest from hr0]; simp) (com_of (s := st.with_ _) hr0 (stack_with_same hx hn) kt.came) ks'.stay rfl
theorem ok_want_tell_word (T : Txt P w K mg A) : FO P w K mg base A .d_want_tell_word 2 (spWant A.cl K 12) := by
  refine (T.fn .d_want_tell_word).ok sc_want_tell_word (fun vs H Q E h => ?_) (fun cdv Ar outer s H vs Q E hr h => ?_)
  · obtain ⟨z, k, G, L, s, ak, S, rfl, _⟩ := h
    rfl
  · obtain ⟨z, k, G, L, st, ak, S, rfl, hz, hw, wd, good, hrow, hfit, out⟩ := h
    refine ⟨_, (pss_cons (ps_fld (pv 0) (pe_tup (pa_cons (pe_ic T.k_WORD) (pa_cons (pe_ix ix_list (pe_fld (pe_meth0 (pe_fld (pv 0) rfl) T.c_stack T.m_stack_innermost (ok_stack_innermost T) (hr.mono (by decide)) (T.bi .d_stack_innermost) .nil pass0) rfl) (pe_op op_mod (pv 2) (pe_ic T.k_WORDS)) (fun _ _ => rfl)) (pa_cons pe_int pa_nil)))) rfl) (pss_one (ps_ret pe_non))), ?_⟩
    obtain ⟨r, rest, x, f, fs, hr0, hx, hf, hrun⟩ := good.row_cons hrow
    rw [want_12 hrun hf hz hw] at out
    have hM : (ms st).S r = some x := hx
    obtain ⟨dk, hk⟩ := wd.rep.kpr hr0
    obtain ⟨ds, hs⟩ := wd.rep.stk (live_of hM)
    have hin := wd.rep.inner hM hf
    have hfr := frameAt_head hM hf
    obtain ⟨df, hfm⟩ := wd.rep.frm hfr
    have hwd := wd.rep.wds hfr
    obtain ⟨hal, hwl⟩ := good.acl_top hx hf
    have hlt : (z.toNat / 16) % 4 < f.words.length := by
      rw [hwl]
      exact Nat.mod_lt _ (by decide)
    have hget : (f.words.map V.int)[(z.toNat / 16) % 4]? = some (V.int (f.words.getD ((z.toNat / 16) % 4) 0)) := by
      rw [List.getElem?_map, List.getD_eq_getElem?_getD, List.getElem?_eq_getElem hlt]
      rfl
    refine ⟨_, rfl, L.kp, _, dk, _, _, rfl, hk, T.c_keep, T.n_keep_running, kf_running _ _ _ _ _, L.st r, ds, _, rfl, hs, (by kernel_rfl), L.st r, ds, r, _, _, _, _, _, _, rfl, hs, hin, L.fm r fs.length, _, df, _, _, rfl, hfm, T.c_frame, T.n_frame_words, ff_words _ _ _ _ _, _, rfl, _, _, rfl, rfl, (by show (0 : Int) < 4; decide), L.wd r fs.length, _, _, _, rfl, rfl, SqL.of hwd, atI_nat hget, (by show 3 ≤ sizeLine; decide), fun c hc => ⟨_, rfl, ?_⟩⟩
    refine set_come T wd.rep hc fun H2 R2 fx ks2 => ?_
    exact out.come (Went.refl _ _) (wd.kst R2 ks2) good hr0 fx.came ks2.stay rfl
theorem ok_want_end (T : Txt P w K mg A) : FO P w K mg base A .d_want_end 9 (spWant A.cl K 9) := by
  refine (T.fn .d_want_end).ok sc_want_end (fun vs H Q E h => ?_) (fun cdv Ar outer s H vs Q E hr h => ?_)
  · obtain ⟨z, k, G, L, s, ak, S, rfl, _⟩ := h
    rfl
  · obtain ⟨z, k, G, L, st, ak, S, rfl, hz, hw, wd, good, hrow, hfit, out⟩ := h
    refine ⟨_, (pss_cons (ps_set (i := 3) sc_want_end.nd rfl (Or.inl rfl) (pe_meth (pv 0) T.c_keep T.m_keep_cut_stack (ok_keep_cut_stack T) (hr.mono (by decide)) (T.bi .d_keep_cut_stack) .nil pass0 (pa_cons (pv 2) pa_nil))) (pss_cons (ps_if (pt_cmpR op_isN (pv 3) pe_non (nomark _)) (pss_one (ps_ret (pe_call (ok_refuse T) (hr.mono (by decide)) rfl T.g_refuse (T.fn .d_refuse).kp (T.bi .d_refuse) .nil pass0 (pa_cons (pv 0) (pa_cons pe_int pa_nil))))) pss_nil) (pss_cons (ps_set (i := 4) sc_want_end.nd rfl (Or.inl rfl) (pe_call (ok_end_stack T) (hr.mono (by decide)) rfl T.g_end_stack (T.fn .d_end_stack).kp (T.bi .d_end_stack) .nil pass0 (pa_cons (pv 0) (pa_cons (pv 1) (pa_cons (pv 3) pa_nil))))) (pss_cons (ps_if (pt_truth (pv 4) (fun _ => rfl)) (pss_one (ps_ret (pe_call (ok_throw_on T) (hr.mono (by decide)) rfl T.g_throw_on (T.fn .d_throw_on).kp (T.bi .d_throw_on) .nil pass0 (pa_cons (pv 0) (pa_cons (pv 1) (pa_cons (pe_call (ok_joined T) (hr.mono (by decide)) rfl T.g_joined (T.fn .d_joined).kp (T.bi .d_joined) .nil pass0 (pa_cons (pv 4) pa_nil)) pa_nil)))))) pss_nil) (pss_one (ps_ret (pe_call (ok_go_on T) (hr.mono (by decide)) rfl T.g_go_on (T.fn .d_go_on).kp (T.bi .d_go_on) .nil pass0 (pa_cons (pv 0) pa_nil)))))))), ?_⟩
    obtain ⟨r, rest, x, f, fs, hr0, hx, hf, hrun⟩ := good.row_cons hrow
    rw [want_9 hrun hf hz hw] at out hfit
    obtain ⟨dk, hk⟩ := wd.rep.kpr hr0
    have rf : Out A.cl K G H L.kp ak S (k (st.come ⟨8, 9, 0⟩)) k Q → spRefuse A.cl K [.ref L.kp, .int 9] H Q E0 := fun o => ⟨9, G, L, ms st, rfl, wd.rep, fun H' cc R' fx ks => o.come (Went.refl _ _) (wd.kst R' ks) good hr0 fx.came ks.stay rfl⟩
    refine ⟨_, rfl, L.kp, dk, _, rfl, hk, (by kernel_rfl), _, rfl, ((z.toNat / 16 : Nat) : Int), G, L, ms st, rfl, wd.rep, good.toWF.mw, fun e => ?_, fun y e hc => ?_, fun y e hc => ?_⟩
    · rw [stA_nat] at e
      rw [show st.stack (z.toNat / 16) = none from e] at out
      refine ⟨_, rfl, rfl, _, rfl, ?_⟩
      rw [decide_eq_true rfl]
      exact iteT ⟨_, rfl, rf out⟩
    · rw [stA_nat] at e
      have e' : st.stack (z.toNat / 16) = some y := e
      have hn : y.number = z.toNat / 16 := num_of e'
      rw [e'] at out
      have o2 : Out A.cl K G H L.kp ak S (k (st.come ⟨8, 9, 0⟩)) k Q := by
        have hc' : st.row.contains y.number = true := by rw [hn]; exact hc
        simp only [hc', if_true] at out
        exact out
      refine ⟨_, rfl, rfl, _, rfl, ?_⟩
      rw [decide_eq_true rfl]
      exact iteT ⟨_, rfl, rf o2⟩
    · rw [stA_nat] at e
      have e' : st.stack (z.toNat / 16) = some y := e
      have hn : y.number = z.toNat / 16 := num_of e'
      have hc' : ¬ st.row.contains y.number = true := by
        rw [hn]
        intro h
        have hc2 : st.row.contains (z.toNat / 16) = false := hc
        rw [h] at hc2
        cases hc2
      have hnm : z.toNat / 16 ∉ st.row := fun m => hc' (by rw [hn]; simpa using m)
      obtain ⟨kk, hkk⟩ : ∃ kk : State → List Throw → Md35.P, kk = fun u ts => match gathered ts with
        | some t => unwind u.size u t k
        | none => k (u.come ⟨0, 0, 0⟩) := ⟨_, rfl⟩
      rw [e'] at out hfit
      have o2 : Out A.cl K G H L.kp ak S (ending st.size st (z.toNat / 16) [] kk) k Q := by
        have hc3 : ¬ st.row.contains (z.toNat / 16) = true := by rw [← hn]; exact hc'
        simp only [hn, if_neg hc3] at out
        rw [hkk]
        exact out
      have f2 : Fits S (ending st.size st (z.toNat / 16) [] kk) := by
        have hc3 : ¬ st.row.contains (z.toNat / 16) = true := by rw [← hn]; exact hc'
        simp only [hn, if_neg hc3] at hfit
        rw [hkk]
        exact hfit
      refine ⟨_, rfl, rfl, _, rfl, ?_⟩
      rw [decide_eq_false (by intro y; cases y)]
      refine iteF ⟨_, rfl, _, rfl, _, rfl, st.size, z.toNat / 16, y, kk, G, L, st, ak, S, rfl, wd, good, hnm, e', Nat.le_refl _, f2, fun H1 G1 L1 s1 S1 l us ts went1 w1 g1 r1 hl1 thr1 st1 kp1 hts1 => ?_⟩
      have hul : us.length = ts.length := by
        have := Paired.length thr1
        rw [List.length_reverse] at this
        exact this
      refine ⟨_, rfl, _, .inl ⟨_, SqL.of hl1, rfl⟩, ?_⟩
      cases hg : gathered ts with
      | none =>
        have hts : ts = [] := by
          cases ts with
          | nil => rfl
          | cons a b => cases hg
        have hus : us = [] := by
          rw [hts] at hul
          exact List.length_eq_zero_iff.mp hul
        rw [hus]
        have went2 : Went S (ending st.size st (z.toNat / 16) [] kk) S1 (k (s1.come ⟨0, 0, 0⟩)) := by
          have e2 : kk s1 ts = k (s1.come ⟨0, 0, 0⟩) := by rw [hkk]; simp only [hg]
          rw [← e2]
          exact went1
        refine iteF ⟨_, rfl, G1, L1, ms s1, (by rw [kp1.kp]; rfl), w1.rep, fun H' c R' kt ks => ?_⟩
        exact o2.come went2 (w1.kst R' ks) g1 (r1.trans hr0) kt.came (st1.trans ks.stay) kp1.kp
      | some t =>
        have hne : (!us.isEmpty) = true := by
          cases us with
          | nil =>
            cases ts with
            | nil => cases hg
            | cons a b => simp at hul
          | cons a b => rfl
        rw [hne]
        have went2 : Went S (ending st.size st (z.toNat / 16) [] kk) S1 (unwind s1.size s1 t k) := by
          have e2 : kk s1 ts = unwind s1.size s1 t k := by rw [hkk]; simp only [hg]
          rw [← e2]
          exact went1
        refine iteT ⟨_, rfl, _, rfl, _, rfl, l, us, ts, t, G1, rfl, hl1, w1.dom, thr1, hg, fun v H2 th2 s2 => ?_⟩
        have o3 := o2.step went2 (st1.trans (Same.stay s2))
        refine ⟨s1.size, t, k, G1, L1, s1, ak, S1, v, (by rw [kp1.kp]; rfl), w1.same s2, g1, th2, Nat.le_refl _, went2.fits f2, ?_⟩
        rw [kp1.kp]
        exact o3
end
end Th
namespace Th
open PySem PySem.Spec PyProof.Rows L2
open Md35 (State Stack Throw Came Ans P unwind leave ending gathered over thrown want run)
def wantD : Nat → Df
  | 0 => .d_want_return
  | 1 => .d_want_call
  | 2 => .d_want_throw
  | 3 => .d_want_handler
  | 4 => .d_want_last
  | 5 => .d_want_drop_act
  | 6 => .d_want_hand_out
  | 7 => .d_want_new_stack
  | 8 => .d_want_go_on_with
  | 9 => .d_want_end
  | 10 => .d_want_throw_again
  | 11 => .d_want_set_word
  | _ => .d_want_tell_word
def spTakeStep (T : Cl) (K : PySem.W.Frag) : Sp := fun vs H Q _ => ∃ (n m : Nat) (G : Gh) (L : Lay) (s : State) (ak : Addr) (S : AS), vs = [.ref L.kp, .ref ak] ∧ Wd T K H G L s ak S ∧ Good s ∧ s.row ≠ [] ∧ Com K H G L (ms s) ∧ Fits S (run (n + 1) m s) ∧
  Out T K G H L.kp ak S (run (n + 1) m s) (fun t => run n (m + 1) t) Q
def spRunSteps (T : Cl) (K : PySem.W.Frag) : Sp := fun vs H Q _ => ∃ (b : Nat) (G : Gh) (L : Lay) (s : State) (ak : Addr) (S : AS), vs = [.ref L.kp, .ref ak, .int (b : Int)] ∧ b ≤ 100000 ∧ Wd T K H G L s ak S ∧ Good s ∧ s.row ≠ [] ∧ Com K H G L (ms s) ∧ Fits S (run b 0 s) ∧
  OutD T K G H L.kp ak S (run b 0 s) Q
section
variable {P : Program} {w : World} {K : PySem.W.Frag} {mg : Str → Option Value} {base : Heap} {A : Ad}
abbrev WOk (P : Program) (w : World) (K : PySem.W.Frag) (mg : Str → Option Value) (base : Heap) (A : Ad) (d : Df) (n : Nat) (sp : Sp) : Prop := ∃ fd ps, FnOk P w K mg base CX0 n (A.f d) fd ps sp ∧ PySem.W.keepIn K (.ref (A.f d)) = true ∧ Binds K fd ps []
theorem FO.wok (T : Txt P w K mg A) {d : Df} {j n : Nat} {sp : Sp} (h : FO P w K mg base A d j sp) (hj : j ≤ n) : WOk P w K mg base A d n sp := ⟨A.fd d, d.pars, FnOk.mono h hj, (T.fn d).kp, T.bi d⟩
theorem F_WANTS (T : Txt P w K mg A) (wn : Nat) : ∀ f : Addr, (wn < 13 ∧ f = A.f (wantD wn)) → ∃ fd ps, FnOk P w K mg base CX0 9 f fd ps (spWant A.cl K wn) ∧ PySem.W.keepIn K (.ref f) = true ∧ Binds K fd ps [] := by
  rintro f ⟨hw, rfl⟩
  match wn, hw with
  | 0, _ => exact FO.wok T (ok_want_return T) (by decide)
  | 1, _ => exact FO.wok T (ok_want_call T) (by decide)
  | 2, _ => exact FO.wok T (ok_want_throw T) (by decide)
  | 3, _ => exact FO.wok T (ok_want_handler T) (by decide)
  | 4, _ => exact FO.wok T (ok_want_last T) (by decide)
  | 5, _ => exact FO.wok T (ok_want_drop_act T) (by decide)
  | 6, _ => exact FO.wok T (ok_want_hand_out T) (by decide)
  | 7, _ => exact FO.wok T (ok_want_new_stack T) (by decide)
  | 8, _ => exact FO.wok T (ok_want_go_on_with T) (by decide)
  | 9, _ => exact FO.wok T (ok_want_end T) (by decide)
  | 10, _ => exact FO.wok T (ok_want_throw_again T) (by decide)
  | 11, _ => exact FO.wok T (ok_want_set_word T) (by decide)
  | 12, _ => exact FO.wok T (ok_want_tell_word T) (by decide)
theorem wants_at {A : Ad} {wn : Nat} (h : wn < 13) : ([.ref (A.f .d_want_return), .ref (A.f .d_want_call), .ref (A.f .d_want_throw), .ref (A.f .d_want_handler), .ref (A.f .d_want_last), .ref (A.f .d_want_drop_act), .ref (A.f .d_want_hand_out), .ref (A.f .d_want_new_stack), .ref (A.f .d_want_go_on_with), .ref (A.f .d_want_end), .ref (A.f .d_want_throw_again), .ref (A.f .d_want_set_word), .ref (A.f .d_want_tell_word)] : List V)[wn]? = some (.ref (A.f (wantD wn))) := by
  match wn, h with
  | 0, _ => rfl
  | 1, _ => rfl
  | 2, _ => rfl
  | 3, _ => rfl
  | 4, _ => rfl
  | 5, _ => rfl
  | 6, _ => rfl
  | 7, _ => rfl
  | 8, _ => rfl
  | 9, _ => rfl
  | 10, _ => rfl
  | 11, _ => rfl
  | 12, _ => rfl
theorem ok_take_step (T : Txt P w K mg A) : FO P w K mg base A .d_take_step 10 (spTakeStep A.cl K) := by
  refine (T.fn .d_take_step).ok sc_take_step (fun vs H Q E h => ?_) (fun cdv Ar outer s H vs Q E hr h => ?_)
  · obtain ⟨n, m, G, L, s, ak, S, rfl, _⟩ := h
    rfl
  · obtain ⟨n, m, G, L, st, ak, S, rfl, wd, good, hrow, com, hfit, out⟩ := h
    refine ⟨_, (pss_cons (ps_set (i := 2) sc_take_step.nd rfl (Or.inl rfl) (pe_meth0 (pe_fld (pv 0) rfl) T.c_stack T.m_stack_innermost (ok_stack_innermost T) (hr.mono (by decide)) (T.bi .d_stack_innermost) .nil pass0)) (pss_cons (ps_set (i := 3) sc_take_step.nd rfl (Or.inl rfl) (pe_meth (pv 1) T.c_asks T.m_asks_run (ok_asks_run T) (hr.mono (by decide)) (T.bi .d_asks_run) .nil pass0 (pa_cons (pv 2) (pa_cons (pe_fld (pv 0) rfl) pa_nil)))) (pss_cons (ps_fld (pv 2) (pe_callB (call_min2 rfl) (by rfl) T.b_min boot_min (pa_cons (pe_op op_add (pe_fld (pv 2) rfl) pe_int) (pa_cons (pe_ic T.k_PLACE_MOST) pa_nil))) rfl) (pss_cons (ps_if (pt_cmpR op_lt (pv 3) pe_int (nomark _)) (pss_one (ps_ret (pe_call (ok_refuse T) (hr.mono (by decide)) rfl T.g_refuse (T.fn .d_refuse).kp (T.bi .d_refuse) .nil pass0 (pa_cons (pv 0) (pa_cons (pe_ic T.k_NO_WANT) pa_nil))))) pss_nil) (pss_cons (ps_set (i := 4) sc_take_step.nd rfl (Or.inl rfl) (pe_op op_mod (pv 3) pe_int)) (pss_cons (ps_if (pt_cmpR op_ge (pv 4) (pe_callB call_len_seq (by rfl) T.b_len PySem.boot_len (pa_cons (pe_glob (v := V.ref A.wants) rfl T.g_WANTS rfl) pa_nil)) (nomark _)) (pss_one (ps_ret (pe_call (ok_refuse T) (hr.mono (by decide)) rfl T.g_refuse (T.fn .d_refuse).kp (T.bi .d_refuse) .nil pass0 (pa_cons (pv 0) (pa_cons (pv 4) pa_nil))))) pss_nil) (pss_one (ps_ret (pe_callV (pe_ix ix_tup (pe_glob (v := V.ref A.wants) rfl T.g_WANTS rfl) (pv 4) (fun _ _ => rfl)) (F_WANTS T (S.ans.toNat % 16)) (hr.mono (by decide)) (pa_cons (pv 0) (pa_cons (pv 1) (pa_cons (pe_op op_fdiv (pv 3) pe_int) pa_nil)))))))))))), ?_⟩
    obtain ⟨r, rest, x, f, fs, hr0, hx, hf, hrun⟩ := good.row_cons hrow
    rw [run_1 hrun hf] at hfit out
    have hM : (ms st).S r = some x := hx
    obtain ⟨dk, hk⟩ := wd.rep.kpr hr0
    obtain ⟨ds, hs⟩ := wd.rep.stk (live_of hM)
    have hin := wd.rep.inner hM hf
    have hfr := frameAt_head hM hf
    obtain ⟨df, hfm⟩ := wd.rep.frm hfr
    obtain ⟨hal, hwl⟩ := good.acl_top hx hf
    have hn : x.number = r := num_of hx
    have hcm := com.get hr0 hx
    obtain ⟨adx, rr, tt, haa, gaa, _⟩ := id wd.ask
    have hroom := hfit.ask
    refine ⟨_, rfl, L.kp, _, dk, _, _, rfl, hk, T.c_keep, T.n_keep_running, kf_running _ _ _ _ _, L.st r, ds, _, rfl, hs, (by kernel_rfl), L.st r, ds, r, _, _, _, _, _, _, rfl, hs, hin, ?_⟩
    refine ⟨_, rfl, ak, adx, _, rfl, haa, (by kernel_rfl), _, rfl, _, rfl, L.kp, _, dk, _, _, rfl, hk, T.c_keep, T.n_keep_come, kf_come _ _ _ _ _, ak, L.fm r fs.length, L.cm, df, S, f.fn, f.place, _, _, _, x.came, G, rfl, wd.dom, wd.ask, hfm, hcm.sq, hroom, room_n wd.tol hroom, fun H1 ask1 oth1 => ?_⟩
    have R1 := oth1.rep wd.rep
    obtain ⟨df1, hfm1⟩ := R1.frm hfr
    refine ⟨_, rfl, L.fm r fs.length, _, df1, _, _, rfl, hfm1, T.c_frame, T.n_frame_place, ff_place _ _ _ _ _, _, _, rfl, rfl, _, _, rfl, _, rfl, L.fm r fs.length, _, df1, _, rfl, hfm1, T.c_frame, T.n_frame_place, (by show 5 < 1000; decide), ?_⟩
    have e1 : (if (4294967295 : Int) < (f.place : Int) + 1 then (4294967295 : Int) else (f.place : Int) + 1) = ((min (f.place + 1) Md35.LASTPLACE : Nat) : Int) := by
      show _ = ((min (f.place + 1) 4294967295 : Nat) : Int)
      split <;> omega
    rw [e1, ff_pplace]
    have R2 := R1.setplace (dx := df1) (m := min (f.place + 1) Md35.LASTPLACE) (y := x.top { f with place := min (f.place + 1) Md35.LASTPLACE }) hM hf (top_frames hf) rfl
    rw [← ms_up (y := x.top { f with place := min (f.place + 1) Md35.LASTPLACE }) hx hn] at R2
    have ks2 : Kst G H1 G (upd H1 (L.fm r fs.length) (.ins A.cl.frame df1 (ff f.fn (min (f.place + 1) Md35.LASTPLACE) (L.wd r fs.length) (L.cg r fs.length) (L.ac r fs.length)))) := Kst.own R1 (cont_fm hfr)
    have w2 : Wd A.cl K _ G L (st.with_ (x.top { f with place := min (f.place + 1) Md35.LASTPLACE })) ak (S.add (.run f.fn f.place x.came.why x.came.value x.came.more)) := ⟨R2, ask1.kst ks2, tol_add wd.tol _⟩
    have g2 : Good (st.with_ (x.top { f with place := min (f.place + 1) Md35.LASTPLACE })) := good.top (f' := { f with place := min (f.place + 1) Md35.LASTPLACE }) hx hf hwl hal x.came
    have st2 := oth1.stay.trans ks2.stay
    have o2 := out.step Went.ask st2
    have f2 := Went.ask.fits hfit
    have hx2 : (st.with_ (x.top { f with place := min (f.place + 1) Md35.LASTPLACE })).stack r = some (x.top { f with place := min (f.place + 1) Md35.LASTPLACE }) := stack_with_same hx hn
    have hf2 : (x.top { f with place := min (f.place + 1) Md35.LASTPLACE }).frames = { f with place := min (f.place + 1) Md35.LASTPLACE } :: fs := top_frames hf
    have hr2 : (st.with_ (x.top { f with place := min (f.place + 1) Md35.LASTPLACE })).row = r :: rest := hr0
    have hrun2 := running_of hr2 hx2
    refine ⟨_, rfl, _, _, rfl, rfl, _, rfl, ite2 (fun c => ?_) (fun c => ?_)⟩
    · have c' : S.ans < 0 := of_decide_eq_true c
      have o3 : Out A.cl K G _ L.kp ak _ _ _ Q := o2
      rw [want_neg hrun2 hf2 c'] at o3
      exact ⟨_, rfl, 15, G, L, _, rfl, w2.rep, fun H' cc R' fx ks => o3.come (Went.refl _ _) (w2.kst R' ks) g2 hr2 fx.came ks.stay rfl⟩
    · have c' : ¬ S.ans < 0 := fun h => c (decide_eq_true h)
      refine ⟨_, rfl, _, _, rfl, rfl, (by show (0 : Int) < 16; decide), ?_⟩
      have ez : S.ans % 16 = ((S.ans.toNat % 16 : Nat) : Int) := by omega
      have ev : S.ans / 16 = ((S.ans.toNat / 16 : Nat) : Int) := by omega
      dsimp only
      rw [ez]
      refine ⟨_, rfl, A.wants, _, rfl, .inr (.inr T.t_WANTS), _, _, rfl, rfl, _, rfl, ite2 (fun d => ?_) (fun d => ?_)⟩
      · have d' : (13 : Int) ≤ ((S.ans.toNat % 16 : Nat) : Int) := of_decide_eq_true d
        have o3 : Out A.cl K G _ L.kp ak _ _ _ Q := o2
        rw [want_more hrun2 hf2 c' rfl (by omega)] at o3
        exact ⟨_, rfl, _, rfl, _, G, L, _, rfl, w2.rep, fun H' cc R' fx ks => o3.come (Went.refl _ _) (w2.kst R' ks) g2 hr2 fx.came ks.stay rfl⟩
      · have d' : S.ans.toNat % 16 < 13 := by
          have : ¬ (13 : Int) ≤ ((S.ans.toNat % 16 : Nat) : Int) := fun h => d (decide_eq_true h)
          omega
        refine ⟨_, rfl, A.wants, _, _, _, rfl, rfl, .inr T.t_WANTS, atI_nat (wants_at d'), A.f (wantD (S.ans.toNat % 16)), rfl, ⟨d', rfl⟩, _, rfl, _, rfl, _, rfl, _, _, rfl, rfl, ⟨by decide, by decide⟩, ?_⟩
        dsimp only
        rw [ev]
        exact ⟨S.ans, _, G, L, _, ak, _, rfl, c', rfl, w2, g2, by rw [hr2]; simp, f2, o2⟩
theorem ok_run_steps (T : Txt P w K mg A) : FO P w K mg base A .d_run_steps 11 (spRunSteps A.cl K) := by
  refine (T.fn .d_run_steps).ok sc_run_steps (fun vs H Q E h => ?_) (fun cdv Ar outer s H vs Q E hr h => ?_)
  · obtain ⟨b, G, L, s, ak, S, rfl, _⟩ := h
    rfl
  · obtain ⟨b, G, L, st, ak, S, rfl, hb, wd, good, hrow, com, hfit, out⟩ := h
    refine ⟨_, (pss_cons (ps_for PassesOwn.never rfl (pi_range1 rfl T.b_range (pa_cons (pv 2) pa_nil)) (pg_name (i := 3) sc_run_steps.nd rfl (Or.inl rfl)) (pss_cons (ps_set (i := 4) sc_run_steps.nd rfl (Or.inl rfl) (pe_call (ok_take_step T) (hr.mono (by decide)) rfl T.g_take_step (T.fn .d_take_step).kp (T.bi .d_take_step) .nil pass0 (pa_cons (pv 0) (pa_cons (pv 1) pa_nil)))) (pss_one (ps_if (pt_cmpR op_notN (pv 4) pe_non (nomark _)) (pss_one (ps_ret (pv 4))) pss_nil)))) (pss_one (ps_ret (pe_lst (pa_cons (pe_ic T.k_STOPPED) (pa_cons (pv 2) pa_nil)))))), ?_⟩
    refine ⟨_, rfl, (b : Int), rfl, by omega, by omega, for_range (lo := 0) (n := b) (fun i σ H1 => ∃ (G1 : Gh) (L1 : Lay) (s1 : State) (S1 : AS) (u u' : Option V), i ≤ b ∧ σ = [some (.ref L.kp), some (.ref ak), some (.int (b : Int)), u, u'] ∧ Went S (run b 0 st) S1 (run (b - i) i s1) ∧ Wd A.cl K H1 G1 L1 s1 ak S1 ∧ Good s1 ∧ s1.row ≠ [] ∧ Com K H1 G1 L1 (ms s1) ∧ Stay G H G1 H1 ∧ L1.kp = L.kp) ⟨G, L, st, S, none, none, Nat.zero_le _, rfl, Went.refl _ _, wd, good, hrow, com, Stay.refl _ _, rfl⟩ ?_ ?_⟩
    · rintro i σ H1 hi ⟨G1, L1, s1, S1, u, u', hib, rfl, went, w1, g1, hr1, com1, st1, kp1⟩
      obtain ⟨j, hj⟩ : ∃ j, b - i = j + 1 := ⟨b - i - 1, by omega⟩
      rw [hj] at went
      refine ⟨_, rfl, _, rfl, j, i, G1, L1, s1, ak, S1, (by rw [kp1]; rfl), w1, g1, hr1, com1, went.fits hfit, fun H2 G2 L2 s2 S2 went2 w2 g2 hr2 com2 st2 kp2 => ?_, fun H2 G2 L2 s2 S2 a l went2 w2 g2 hr2 st2 kp2 hl gl => ?_⟩
      · refine ⟨_, rfl, rfl, _, rfl, ?_⟩
        rw [decide_eq_true rfl]
        refine iteF ⟨G2, L2, s2, S2, _, _, hi, rfl, ?_, w2, g2, hr2, com2, st1.trans st2, kp2.trans kp1⟩
        rw [show b - (i + 1) = j by omega]
        exact went.trans went2
      · refine ⟨_, rfl, rfl, _, rfl, ?_⟩
        rw [decide_eq_false (by intro y; cases y)]
        exact iteT ⟨_, rfl, out H2 G2 L2 s2 S2 a l (went.trans went2) w2 g2 (com_nil hr2) (st1.trans st2) (kp2.trans kp1) hl gl⟩
    · rintro σ H1 ⟨G1, L1, s1, S1, u, u', hib, rfl, went, w1, g1, hr1, com1, st1, kp1⟩
      rw [Nat.sub_self, run_0] at went
      refine ⟨_, rfl, (by show 2 ≤ sizeLine; decide), fun l hl => ?_⟩
      have s2 := Same.new (o := .lst [.int 3, .int (b : Int)]) hl
      refine out _ G1 L1 s1 S1 ⟨3, [(b : Int)]⟩ l went (w1.same s2) g1 (fun r x e hx => (com1 r x e hx).stay (Same.stay s2)) (st1.trans (Same.stay s2)) kp1 upd_same (w1.rep.free hl)
end
end Th
namespace Th
open PySem PySem.Spec PyProof.Rows L2
open Md35 (State Stack Throw Came Ans P)
theorem for_rev {K : PySem.W.Frag} {a : Addr} {xs : List V} {g : TG} {tb : TS} {D : Ends} {σ : L2.St} {H : Hp} (Pv : Nat → L2.St → Hp → Prop) (h0 : Pv 0 σ H) (hl : ∀ i σ H, i ≤ xs.length → Pv i σ H → SqL K H a xs)
    (hs : ∀ i x σ H, xs.reverse[i]? = some x → Pv i σ H → g x σ H fun σ2 H2 => tb { D with nx := Pv (i + 1), ct := Pv (i + 1), bk := D.nx } σ2 H2) (hd : ∀ σ H, Pv xs.length σ H → D.nx σ H) :
    ∃ W : Nat → Nat → L2.St → Hp → Prop, (∃ m, W 0 m σ H) ∧ ∀ i m σ H, W i m σ H →
      ((Itv K a xs.length).stop i H ∧ D.nx σ H) ∨ ((Itv K a xs.length).go i H ∧ ∃ N : L2.St → Hp → Prop, (∀ σ' H', N σ' H' → ∃ m', m' < m ∧ W (i + 1) m' σ' H') ∧ ∀ x H', (Itv K a xs.length).yld i H x H' → g x σ H' fun σ2 H2 => tb { D with nx := N, ct := N, bk := D.nx } σ2 H2) := by
  refine ⟨fun i m σ H => m = xs.length - i ∧ i ≤ xs.length ∧ Pv i σ H, ⟨xs.length, by simp, Nat.zero_le _, h0⟩, ?_⟩
  rintro i m σ H ⟨rfl, hi, p⟩
  have q := hl i σ H hi p
  by_cases hlt : i < xs.length
  · have hj : xs.length - 1 - i < xs.length := by omega
    refine .inr ⟨⟨hlt, xs, xs[xs.length - 1 - i], q, List.getElem?_eq_getElem hj⟩, Pv (i + 1), fun σ' H' p' => ⟨xs.length - (i + 1), by omega, rfl, hlt, p'⟩, fun x H' y => ?_⟩
    obtain ⟨e, y⟩ := y
    subst e
    refine hs i x σ _ ?_ p
    rw [List.getElem?_reverse hlt]
    exact y xs q
  · have e : i = xs.length := by omega
    subst e
    exact .inl ⟨Nat.le_refl _, hd σ H p⟩
def Told (Q : VK) (H : Hp) (a : Ans) : Prop := ∀ (H' : Hp) (l : Addr), H l = none → H' l = some (.lst ((a.value :: a.out).map V.int)) → Same H H' → Q (.ref l) H'
def frameNs (f : Md35.Frame) : List Int := (f.fn : Int) :: (f.place : Int) :: (f.words ++ [(f.acts.length : Int)])
def spTellFrames (T : Cl) (K : PySem.W.Frag) : Sp := fun vs H Q _ => ∃ (k : Nat) (x : Stack) (G : Gh) (L : Lay) (M : MS), vs = [.ref (L.st k)] ∧ Rep T K H G L M ∧ M.S k = some x ∧ SW x ∧ Told Q H ⟨(x.frames.length : Int), x.frames.flatMap frameNs⟩
def spTellActs (T : Cl) (K : PySem.W.Frag) : Sp := fun vs H Q _ => ∃ (k i : Nat) (f : Md35.Frame) (G : Gh) (L : Lay) (M : MS), vs = [.ref (L.fm k i)] ∧ Rep T K H G L M ∧ frameAt M k i = some f ∧ f.acts.length ≤ 32 ∧ Told Q H ⟨(f.acts.length : Int), f.acts.flatMap Md35.ofAct⟩
def spTellPieces (T : Cl) (K : PySem.W.Frag) : Sp := fun vs H Q _ => ∃ (k : Nat) (x : Stack) (G : Gh) (L : Lay) (M : MS), vs = [.ref (L.st k)] ∧ Rep T K H G L M ∧ M.S k = some x ∧ SW x ∧ Told Q H ⟨(x.pieces.length : Int), x.pieces.map fun (p : Nat) => (p : Int)⟩
def spTellCauses (T : Cl) (K : PySem.W.Frag) : Sp := fun vs H Q _ => ∃ (v : V) (t : Throw) (G : Gh), vs = [v] ∧ ThAt T H G v t ∧ Told Q H ⟨(t.causes.length : Int), Md35.ofThrow t⟩
def stackNs (s : State) (y : Stack) : List Int := [(y.number : Int), if s.row.contains y.number = true then 1 else 0, Md35.waits s.row y.number]
def spTellRow (T : Cl) (K : PySem.W.Frag) : Sp := fun vs H Q _ => ∃ (G : Gh) (L : Lay) (s : State), vs = [.ref L.sl] ∧ Rep T K H G L (ms s) ∧ Good s ∧ Told Q H ⟨(s.stacks.length : Int), s.stacks.flatMap (stackNs s)⟩
theorem flat_take {α : Type} {g : α → List Int} {l : List α} {i : Nat} {a : α} (h : l[i]? = some a) : (l.take (i + 1)).flatMap g = (l.take i).flatMap g ++ g a := by
  rw [List.take_add_one, h]
  show (l.take i ++ [a]).flatMap g = _
  rw [List.flatMap_append, List.flatMap_cons, List.flatMap_nil, List.append_nil]
theorem frs_rev {L : Lay} {k n i : Nat} {v : V} (h : (frsV L k n).reverse[i]? = some v) : i < n ∧ v = .ref (L.fm k (n - 1 - i)) := by
  have hi : i < n := by
    have := (List.getElem?_eq_some_iff.mp h).1
    rw [List.length_reverse, frsV_length] at this
    exact this
  rw [List.getElem?_reverse (by rw [frsV_length]; exact hi), frsV_length] at h
  unfold frsV at h
  rw [List.getElem?_map, List.getElem?_range (by omega)] at h
  cases h
  exact ⟨hi, rfl⟩
theorem frameAt_rev {M : MS} {k i : Nat} {x : Stack} (hx : M.S k = some x) (hi : i < x.frames.length) : frameAt M k (x.frames.length - 1 - i) = some x.frames[i] := by
  rw [frameAt_of hx, List.getElem?_reverse (by omega)]
  have : x.frames.length - 1 - (x.frames.length - 1 - i) = i := by omega
  rw [this, List.getElem?_eq_getElem hi]
section
variable {P : Program} {w : World} {K : PySem.W.Frag} {mg : Str → Option Value} {base : Heap} {A : Ad}
theorem ok_tell_frames (T : Txt P w K mg A) : FO P w K mg base A .d_tell_frames 1 (spTellFrames A.cl K) := by
  refine (T.fn .d_tell_frames).ok sc_tell_frames (fun vs H Q E h => ?_) (fun cdv Ar outer s H vs Q E hr h => ?_)
  · obtain ⟨k, x, G, L, M, rfl, _⟩ := h
    rfl
  · obtain ⟨k, x, G, L, M, rfl, R, hx, sw, q⟩ := h
    refine ⟨_, (pss_cons (ps_set (i := 1) sc_tell_frames.nd rfl (Or.inl rfl) (pe_lst (pa_cons (pe_callB call_len_seq (by rfl) T.b_len PySem.boot_len (pa_cons (pe_fld (pv 0) rfl) pa_nil)) pa_nil))) (pss_cons (ps_for PassesOwn.never rfl (pi_reversed rfl T.b_reversed (pa_cons (pe_fld (pv 0) rfl) pa_nil)) (pg_name (i := 2) sc_tell_frames.nd rfl (Or.inl rfl)) (pss_cons (ps_expr (pe_bm PySem.F.plainAttrs_list PySem.F.slot_list_extend PySem.F.type_list_extend mt_extend (pv 1) (pa_cons (pe_lst (pa_cons (pe_fld (pv 2) rfl) (pa_cons (pe_fld (pv 2) rfl) pa_nil))) pa_nil))) (pss_cons (ps_expr (pe_bm PySem.F.plainAttrs_list PySem.F.slot_list_extend PySem.F.type_list_extend mt_extend (pv 1) (pa_cons (pe_fld (pv 2) rfl) pa_nil))) (pss_one (ps_expr (pe_bm PySem.F.plainAttrs_list PySem.F.slot_list_append PySem.F.type_list_append mt_append (pv 1) (pa_cons (pe_callB call_len_seq (by rfl) T.b_len PySem.boot_len (pa_cons (pe_fld (pv 2) rfl) pa_nil)) pa_nil))))))) (pss_one (ps_ret (pv 1))))), ?_⟩
    obtain ⟨ds, hs⟩ := R.stk (live_of hx)
    have hfr := R.frs hx
    have hfl := sw.frames_le
    refine ⟨_, rfl, L.st k, _, ds, _, _, rfl, hs, T.c_stack, T.n_stack_frames, sf_frames _ _ _ _ _, L.fr k, _, rfl, .inl (SqL.of hfr), (by show 1 ≤ sizeLine; decide), fun l hl => ?_⟩
    have s0 := Same.new (o := .lst [.int ((frsV L k x.frames.length).length : Int)]) hl
    refine ⟨_, rfl, L.st k, _, ds, _, _, rfl, s0 _ _ hs, T.c_stack, T.n_stack_frames, sf_frames _ _ _ _ _, L.fr k, _, rfl, SqL.of (s0 _ _ hfr), for_rev (K := K) (a := L.fr k) (xs := frsV L k x.frames.length)
      (fun i σ H1 => ∃ (u : Option V) (ts : List Int), σ = [some (.ref (L.st k)), some (.ref l), u] ∧ H1 l = some (.lst (ts.map V.int)) ∧ ts = (x.frames.length : Int) :: (x.frames.take i).flatMap frameNs ∧ ts.length ≤ 1 + 7 * i ∧ Same H H1) ⟨none, [(x.frames.length : Int)], rfl, ?_, rfl, Nat.le_refl _, s0⟩ ?_ ?_ ?_⟩
    · rw [upd_same, frsV_length]
      rfl
    · rintro i σ H1 hi ⟨u, ts, rfl, h1, _, _, s1⟩
      exact SqL.of (s1 _ _ hfr)
    · rintro i y σ H1 hi ⟨u, ts, rfl, hl1, hts, hlen, s1⟩
      obtain ⟨hin, rfl⟩ := frs_rev hi
      have hfa := frameAt_rev hx hin
      generalize hf : x.frames[i] = f at hfa
      have hfm : f ∈ x.frames := by rw [← hf]; exact List.getElem_mem hin
      obtain ⟨df, hfrm⟩ := R.frm hfa
      have hwd := R.wds hfa
      have hac := R.acs hfa
      have hact := R.misc.act _ _ _ hfa
      have elen : ((L.aa k (x.frames.length - 1 - i)).map V.ref).length = f.acts.length := by
        have := Paired.length hact
        rw [List.length_reverse] at this
        rw [List.length_map, this]
      have hwl := sw.wds f hfm
      have f1 := s1 _ _ hfrm
      refine ⟨_, rfl, .inl ⟨rfl, _, SqL.of hl1⟩, _, rfl, L.fm k (x.frames.length - 1 - i), _, df, _, _, rfl, f1, T.c_frame, T.n_frame_function, ff_function _ _ _ _ _, _, rfl, L.fm k (x.frames.length - 1 - i), _, df, _, _, rfl, f1, T.c_frame, T.n_frame_place, ff_place _ _ _ _ _, (by show 2 ≤ sizeLine; decide), fun p hp => ?_⟩
      have nlp : l ≠ p := ne_of_none hl1 hp
      refine ⟨l, p, ts.map V.int, _, rfl, rfl, (by rw [upd_ne nlp]; exact hl1), upd_same, big16 (by simp; omega), ?_⟩
      have s2 : Same H (upd (upd H1 p (.lst [.int (f.fn : Int), .int (f.place : Int)])) l (.lst (ts.map V.int ++ [.int (f.fn : Int), .int (f.place : Int)]))) := fun b o e => by
        rw [upd_ne (ne_of_none e hl), upd_ne (ne_of_none (s1 b o e) hp)]
        exact s1 b o e
      refine ⟨_, rfl, .inl ⟨rfl, _, SqL.of upd_same⟩, _, rfl, L.fm k (x.frames.length - 1 - i), _, df, _, _, rfl, s2 _ _ hfrm, T.c_frame, T.n_frame_words, ff_words _ _ _ _ _, l, L.wd k (x.frames.length - 1 - i), _, _, rfl, rfl, upd_same, s2 _ _ hwd, big16 (by simp [hwl]; omega), ?_⟩
      rw [upd_upd]
      have s3 : ∀ o', Same H (upd (upd H1 p (.lst [.int (f.fn : Int), .int (f.place : Int)])) l o') := fun o' b o e => by
        rw [upd_ne (ne_of_none e hl), upd_ne (ne_of_none (s1 b o e) hp)]
        exact s1 b o e
      refine ⟨_, rfl, .inl ⟨rfl, _, SqL.of upd_same⟩, _, rfl, L.fm k (x.frames.length - 1 - i), _, df, _, _, rfl, s3 _ _ _ hfrm, T.c_frame, T.n_frame_acts, ff_acts _ _ _ _ _, L.ac k (x.frames.length - 1 - i), _, rfl, .inl (SqL.of (s3 _ _ _ hac)), l, _, _, rfl, rfl, upd_same, (by rw [sizeLine_eq]; simp [hwl]; omega), ?_⟩
      rw [upd_upd, elen]
      have hget : x.frames[i]? = some f := by rw [List.getElem?_eq_getElem hin, hf]
      refine ⟨_, ts ++ frameNs f, rfl, ?_, ?_, ?_, s3 _⟩
      · rw [upd_same]
        unfold frameNs
        simp
      · rw [flat_take hget, hts]
        rfl
      · rw [List.length_append]
        unfold frameNs
        simp [hwl]
        omega
    · rintro σ H1 ⟨u, ts, rfl, hl1, hts, hlen, s1⟩
      refine ⟨_, rfl, q H1 l hl ?_ s1⟩
      rw [hl1, hts, frsV_length, List.take_length]
theorem actV_of (a : Md35.Act) : actV a = (Md35.ofAct a).map V.int := by
  cases a <;> rfl
theorem ofAct_len (a : Md35.Act) : (Md35.ofAct a).length = 2 := by
  cases a <;> rfl
theorem ok_tell_acts (T : Txt P w K mg A) : FO P w K mg base A .d_tell_acts 1 (spTellActs A.cl K) := by
  refine (T.fn .d_tell_acts).ok sc_tell_acts (fun vs H Q E h => ?_) (fun cdv Ar outer s H vs Q E hr h => ?_)
  · obtain ⟨k, i, f, G, L, M, rfl, _⟩ := h
    rfl
  · obtain ⟨k, n, f, G, L, M, rfl, R, hfa, hal, q⟩ := h
    refine ⟨_, (pss_cons (ps_set (i := 1) sc_tell_acts.nd rfl (Or.inl rfl) (pe_lst (pa_cons (pe_callB call_len_seq (by rfl) T.b_len PySem.boot_len (pa_cons (pe_fld (pv 0) rfl) pa_nil)) pa_nil))) (pss_cons (ps_for PassesOwn.never rfl (pi_reversed rfl T.b_reversed (pa_cons (pe_fld (pv 0) rfl) pa_nil)) (pg_name (i := 2) sc_tell_acts.nd rfl (Or.inl rfl)) (pss_one (ps_expr (pe_bm PySem.F.plainAttrs_list PySem.F.slot_list_extend PySem.F.type_list_extend mt_extendT (pv 1) (pa_cons (pv 2) pa_nil))))) (pss_one (ps_ret (pv 1))))), ?_⟩
    obtain ⟨df, hfrm⟩ := R.frm hfa
    have hac := R.acs hfa
    have hact := R.misc.act _ _ _ hfa
    have elen : (L.aa k n).length = f.acts.length := by
      have := Paired.length hact
      rw [List.length_reverse] at this
      exact this
    refine ⟨_, rfl, L.fm k n, _, df, _, _, rfl, hfrm, T.c_frame, T.n_frame_acts, ff_acts _ _ _ _ _, L.ac k n, _, rfl, .inl (SqL.of hac), (by show 1 ≤ sizeLine; decide), fun l hl => ?_⟩
    have s0 := Same.new (o := .lst [.int (((L.aa k n).map V.ref).length : Int)]) hl
    refine ⟨_, rfl, L.fm k n, _, df, _, _, rfl, s0 _ _ hfrm, T.c_frame, T.n_frame_acts, ff_acts _ _ _ _ _, L.ac k n, _, rfl, SqL.of (s0 _ _ hac), for_rev (K := K) (a := L.ac k n) (xs := (L.aa k n).map V.ref)
      (fun i σ H1 => ∃ (u : Option V) (ts : List Int), σ = [some (.ref (L.fm k n)), some (.ref l), u] ∧ H1 l = some (.lst (ts.map V.int)) ∧ ts = (f.acts.length : Int) :: (f.acts.take i).flatMap Md35.ofAct ∧ ts.length ≤ 1 + 2 * i ∧ Same H H1) ⟨none, [(f.acts.length : Int)], rfl, ?_, rfl, Nat.le_refl _, s0⟩ ?_ ?_ ?_⟩
    · rw [upd_same, List.length_map, elen]
      rfl
    · rintro i σ H1 hi ⟨u, ts, rfl, h1, _, _, s1⟩
      exact SqL.of (s1 _ _ hac)
    · rintro i y σ H1 hi ⟨u, ts, rfl, hl1, hts, hlen, s1⟩
      have hin : i < f.acts.length := by
        have := (List.getElem?_eq_some_iff.mp hi).1
        rw [List.length_reverse, List.length_map, elen] at this
        exact this
      rw [List.getElem?_reverse (by rw [List.length_map, elen]; exact hin), List.length_map, elen, List.getElem?_map] at hi
      obtain ⟨b, hb, rfl⟩ := Option.map_eq_some_iff.mp hi
      obtain ⟨a, ha, hfx⟩ := Paired.get hact hb
      rw [List.getElem?_reverse (by omega)] at ha
      have e1 : f.acts.length - 1 - (f.acts.length - 1 - i) = i := by omega
      rw [e1] at ha
      refine ⟨_, rfl, .inl ⟨rfl, _, SqL.of hl1⟩, _, rfl, l, b, ts.map V.int, _, rfl, rfl, hl1, SqT.of (s1 _ _ hfx.1), (by rw [actV_of, sizeLine_eq]; simp [ofAct_len]; omega), ?_⟩
      refine ⟨_, ts ++ Md35.ofAct a, rfl, ?_, ?_, ?_, fun c o e => ?_⟩
      · rw [upd_same, actV_of, List.map_append]
      · rw [flat_take ha, hts]
        rfl
      · rw [List.length_append, ofAct_len]
        omega
      · rw [upd_ne (ne_of_none e hl)]
        exact s1 c o e
    · rintro σ H1 ⟨u, ts, rfl, hl1, hts, hlen, s1⟩
      refine ⟨_, rfl, q H1 l hl ?_ s1⟩
      rw [hl1, hts, List.length_map, elen, List.take_length]
theorem ok_tell_pieces (T : Txt P w K mg A) : FO P w K mg base A .d_tell_pieces 1 (spTellPieces A.cl K) := by
  refine (T.fn .d_tell_pieces).ok sc_tell_pieces (fun vs H Q E h => ?_) (fun cdv Ar outer s H vs Q E hr h => ?_)
  · obtain ⟨k, x, G, L, M, rfl, _⟩ := h
    rfl
  · obtain ⟨k, x, G, L, M, rfl, R, hx, sw, q⟩ := h
    refine ⟨_, (pss_one (ps_ret (pe_op op_cat (pe_lst (pa_cons (pe_callB call_len_seq (by rfl) T.b_len PySem.boot_len (pa_cons (pe_fld (pv 0) rfl) pa_nil)) pa_nil)) (pe_fld (pv 0) rfl)))), ?_⟩
    obtain ⟨ds, hs⟩ := R.stk (live_of hx)
    have hpc := R.pcs hx
    have hpl := sw.pieces_le
    refine ⟨_, rfl, L.st k, _, ds, _, _, rfl, hs, T.c_stack, T.n_stack_pieces, sf_pieces _ _ _ _ _, L.pc k, _, rfl, .inl (SqL.of hpc), (by show 1 ≤ sizeLine; decide), fun p hp => ?_⟩
    have s1 := Same.new (o := .lst [.int ((x.pieces.map fun (p : Nat) => V.int (p : Int)).length : Int)]) hp
    refine ⟨_, rfl, L.st k, _, ds, _, _, rfl, s1 _ _ hs, T.c_stack, T.n_stack_pieces, sf_pieces _ _ _ _ _, p, L.pc k, _, _, rfl, rfl, upd_same, s1 _ _ hpc, big16 (by simp; omega), fun l hl => ?_⟩
    refine q _ l (s1.free hl) ?_ (s1.trans (Same.new hl))
    rw [upd_same, List.length_map]
    show some (HO.lst (V.int (x.pieces.length : Int) :: x.pieces.map fun (p : Nat) => V.int (p : Int))) = some (HO.lst (V.int (x.pieces.length : Int) :: (x.pieces.map fun (p : Nat) => (p : Int)).map V.int))
    rw [List.map_map]
    rfl
theorem ok_tell_causes (T : Txt P w K mg A) : FO P w K mg base A .d_tell_causes 1 (spTellCauses A.cl K) := by
  refine (T.fn .d_tell_causes).ok sc_tell_causes (fun vs H Q E h => ?_) (fun cdv Ar outer s H vs Q E hr h => ?_)
  · obtain ⟨v, t, G, rfl, _⟩ := h
    rfl
  · obtain ⟨v, t, G, rfl, ⟨ta, tdx, tc, tcs, rfl, ht, htc, htcs, htl⟩, q⟩ := h
    refine ⟨_, (pss_cons (ps_set (i := 1) sc_tell_causes.nd rfl (Or.inl rfl) (pe_lst (pa_cons (pe_callB call_len_seq (by rfl) T.b_len PySem.boot_len (pa_cons (pe_fld (pv 0) rfl) pa_nil)) (pa_cons (pe_fld (pv 0) rfl) (pa_cons (pe_fld (pv 0) rfl) pa_nil))))) (pss_cons (ps_for PassesOwn.never rfl (pi_list (pe_fld (pv 0) rfl)) (pg_name (i := 2) sc_tell_causes.nd rfl (Or.inl rfl)) (pss_one (ps_expr (pe_bm PySem.F.plainAttrs_list PySem.F.slot_list_extend PySem.F.type_list_extend mt_extendT (pv 1) (pa_cons (pv 2) pa_nil))))) (pss_one (ps_ret (pv 1))))), ?_⟩
    have elen : tcs.length = t.causes.length := Paired.length htcs
    refine ⟨_, rfl, ta, _, tdx, _, _, rfl, ht.1, T.c_throw, T.n_throw_causes, tf_causes _ _ _, tc, _, rfl, .inl (SqL.of htc.1), _, rfl, ta, _, tdx, _, _, rfl, ht.1, T.c_throw, T.n_throw_kind, tf_kind _ _ _, _, rfl, ta, _, tdx, _, _, rfl, ht.1, T.c_throw, T.n_throw_value, tf_value _ _ _, (by show 3 ≤ sizeLine; decide), fun l hl => ?_⟩
    have s0 := Same.new (o := .lst [.int ((tcs.map V.ref).length : Int), .int (t.kind : Int), .int t.value]) hl
    refine ⟨_, rfl, ta, _, tdx, _, _, rfl, s0 _ _ ht.1, T.c_throw, T.n_throw_causes, tf_causes _ _ _, tc, rfl, ⟨_, SqL.of (s0 _ _ htc.1)⟩, for_list (K := K) (a := tc) (xs := tcs.map V.ref)
      (fun i σ H1 => ∃ (u : Option V) (ts : List Int), σ = [some (.ref ta), some (.ref l), u] ∧ H1 l = some (.lst (ts.map V.int)) ∧ ts = (t.causes.length : Int) :: (t.kind : Int) :: t.value :: (t.causes.take i).flatMap (fun (x : Nat × Int) => [(x.1 : Int), x.2]) ∧ ts.length ≤ 3 + 2 * i ∧ Same H H1) ⟨none, [(t.causes.length : Int), (t.kind : Int), t.value], rfl, ?_, rfl, Nat.le_refl _, s0⟩ ?_ ?_ ?_⟩
    · rw [upd_same, List.length_map, elen]
      rfl
    · rintro i σ H1 hi ⟨u, ts, rfl, h1, _, _, s1⟩
      exact SqL.of (s1 _ _ htc.1)
    · rintro i y σ H1 hi ⟨u, ts, rfl, hl1, hts, hlen, s1⟩
      rw [List.getElem?_map] at hi
      obtain ⟨b, hb, rfl⟩ := Option.map_eq_some_iff.mp hi
      obtain ⟨a, ha, hfx⟩ := Paired.get htcs hb
      have hin : i < t.causes.length := (List.getElem?_eq_some_iff.mp ha).1
      refine ⟨_, rfl, .inl ⟨rfl, _, SqL.of hl1⟩, _, rfl, l, b, ts.map V.int, _, rfl, rfl, hl1, SqT.of (s1 _ _ hfx.1), (by rw [sizeLine_eq]; simp; omega), ?_⟩
      refine ⟨_, ts ++ [(a.1 : Int), a.2], rfl, ?_, ?_, ?_, fun c o e => ?_⟩
      · rw [upd_same, List.map_append]
        rfl
      · rw [flat_take ha, hts]
        rfl
      · rw [List.length_append]
        simp
        omega
      · rw [upd_ne (ne_of_none e hl)]
        exact s1 c o e
    · rintro σ H1 ⟨u, ts, rfl, hl1, hts, hlen, s1⟩
      refine ⟨_, rfl, q H1 l hl ?_ s1⟩
      rw [hl1, hts, List.length_map, elen, List.take_length]
      rfl
end
end Th
namespace Th
open PySem PySem.Spec PyProof.Rows L2
open Md35 (State Stack Throw Came Ans P)
theorem nxt_wt (k : Nat) : ∀ row : List Nat, nxt row k = wt row k
  | [] => rfl
  | [_] => rfl
  | a :: b :: r => by
    show (if a = k then some b else nxt (b :: r) k) = (if a = k then some b else wt (b :: r) k)
    rw [nxt_wt k (b :: r)]
theorem range_snoc {α : Type} (f : Nat → Option α) (i : Nat) : (List.range (i + 1)).filterMap f = (List.range i).filterMap f ++ (f i).toList := by
  rw [List.range_succ, List.filterMap_append]
  cases h : f i with
  | none => simp [h]
  | some x => simp [h]
section
variable {P : Program} {w : World} {K : PySem.W.Frag} {mg : Str → Option Value} {base : Heap} {A : Ad}
theorem blk_row {sc : Scope} : BlkOk [("stacks" : Str), ("there" : Str), ("told" : Str), ("stack" : Str), ("waiter" : Str)] sc { kind := .function, names := [((".0" : Str), .local), (("stack" : Str), .local)], isGenerator := false, isCoroutine := false } [(("stack" : Str), 3)] where
  kind := rfl
  uniq := by decide +kernel
  ix := by decide +kernel
  free := fun y hy e => by
    rcases List.mem_cons.mp hy with h | h
    · rw [h] at e
      cases e
    · rcases List.mem_cons.mp h with h | h
      · rw [h] at e
        cases e
      · cases h
  own := by decide +kernel
theorem ok_tell_row (T : Txt P w K mg A) : FO P w K mg base A .d_tell_row 1 (spTellRow A.cl K) := by
  refine (T.fn .d_tell_row).ok sc_tell_row (fun vs H Q E h => ?_) (fun cdv Ar outer s H vs Q E hr h => ?_)
  · obtain ⟨G, L, s, rfl, _⟩ := h
    rfl
  · obtain ⟨G, L, st, rfl, R, good, q⟩ := h
    refine ⟨_, (pss_cons (ps_setLc (i := 1) (own := [("stack", 3)]) rfl sc_tell_row.nd rfl rfl (sw_true rfl rfl rfl (by decide +kernel)) (pi_list (pv 0)) blk_row (fun _ _ _ _ _ => pg_name (i := 3) sc_tell_row.nd rfl (Or.inl rfl)) (fun _ _ _ _ _ => pts_one (pt_cmpR op_notN (pv 3) pe_non (nomark _))) (fun _ _ _ _ _ => pv 3)) (pss_cons (ps_set (i := 2) sc_tell_row.nd rfl (Or.inl rfl) (pe_lst (pa_cons (pe_callB call_len_seq (by rfl) T.b_len PySem.boot_len (pa_cons (pv 1) pa_nil)) pa_nil))) (pss_cons (ps_for PassesOwn.never rfl (pi_list (pv 1)) (pg_name (i := 3) sc_tell_row.nd rfl (Or.inl rfl)) (pss_cons (ps_set (i := 4) sc_tell_row.nd rfl (Or.inl rfl) (pe_ifExp (pt_cmpR op_isN (pe_fld (pv 3) rfl) pe_non (nomark _)) (pe_ic T.k_NOBODY) (pe_fld (pe_fld (pv 3) rfl) rfl))) (pss_one (ps_expr (pe_bm PySem.F.plainAttrs_list PySem.F.slot_list_extend PySem.F.type_list_extend mt_extend (pv 2) (pa_cons (pe_lst (pa_cons (pe_fld (pv 3) rfl) (pa_cons (pe_ifExp (pt_val (pe_fld (pv 3) rfl)) (pe_ic T.k_ON) (pe_ic T.k_CUT)) (pa_cons (pv 4) pa_nil)))) pa_nil)))))) (pss_one (ps_ret (pv 2)))))), ?_⟩
    have hsl := R.sls
    have hst64 := good.toWF.stacks
    have hlen : st.stacks.length ≤ 64 := by
      rw [← hst64]
      exact Nat.le_trans (List.length_filterMap_le _ _) (by rw [List.length_range]; exact Nat.le_refl _)
    refine ⟨_, rfl, L.sl, rfl, ⟨_, SqL.of hsl⟩, fun D hD => lc_list (K := K) (a := L.sl) (xs := stksV L (ms st)) (fun i H1 => i ≤ 64 → H1 D = some (.lst (((List.range i).filterMap st.stack).map fun y => V.ref (L.st y.number))) ∧ Same H H1) ?_ ?_ ?_ ?_⟩
    · exact fun _ => ⟨upd_same, Same.new hD⟩
    · intro i H1 hi p
      rw [stksV_length] at hi
      exact SqL.of ((p hi).2 _ _ hsl)
    · intro i v H1 hi p
      have hi64 : i < 64 := by
        have := (List.getElem?_eq_some_iff.mp hi).1
        rw [stksV_length] at this
        exact this
      obtain ⟨hD1, s1⟩ := p (by omega)
      rw [stksV_get hi64] at hi
      refine ⟨rfl, _, rfl, rfl, _, rfl, ?_⟩
      cases e : st.stack i with
      | none =>
        rw [show ((ms st).S i) = none from e] at hi
        cases hi
        refine iteF fun _ => ⟨?_, s1⟩
        rw [range_snoc, e, hD1]
        simp
      | some y =>
        rw [show ((ms st).S i) = some y from e] at hi
        have ev : v = V.ref (L.st i) := (Option.some.inj hi).symm
        subst ev
        rw [decide_eq_false (by intro z; cases z)]
        have hal : (((List.range i).filterMap st.stack).map fun y => V.ref (L.st y.number)).length < sizeLine := by
          rw [List.length_map, sizeLine_eq]
          have := List.length_filterMap_le st.stack (List.range i)
          rw [List.length_range] at this
          omega
        refine iteT ⟨_, rfl, _, hD1, hal, fun _ => ⟨?_, fun b o e' => ?_⟩⟩
        · rw [upd_same, range_snoc, e, List.map_append]
          have hn : y.number = i := stack_number e
          show _ = some (HO.lst (_ ++ [V.ref (L.st y.number)]))
          rw [hn]
        · rw [upd_ne (ne_of_none e' hD)]
          exact s1 b o e'
    · intro H1 p
      obtain ⟨hD1, s1⟩ := p (by rw [stksV_length]; exact Nat.le_refl _)
      rw [stksV_length, hst64] at hD1
      refine ⟨_, rfl, D, _, rfl, .inl (SqL.of hD1), (by show 1 ≤ sizeLine; decide), fun l hl => ?_⟩
      have s2 := Same.new (o := .lst [.int ((st.stacks.map fun y => V.ref (L.st y.number)).length : Int)]) hl
      refine ⟨_, rfl, D, rfl, ⟨_, SqL.of (s2 _ _ hD1)⟩, for_list (K := K) (a := D) (xs := st.stacks.map fun y => V.ref (L.st y.number))
        (fun i σ H2 => ∃ (u u' : Option V) (ts : List Int), σ = [some (.ref L.sl), some (.ref D), some (.ref l), u, u'] ∧ H2 l = some (.lst (ts.map V.int)) ∧ ts = (st.stacks.length : Int) :: (st.stacks.take i).flatMap (stackNs st) ∧ ts.length ≤ 1 + 3 * i ∧ Same H1 H2) ⟨none, none, [(st.stacks.length : Int)], rfl, ?_, rfl, Nat.le_refl _, s2⟩ ?_ ?_ ?_⟩
      · rw [upd_same, List.length_map]
        rfl
      · rintro i σ H2 hi ⟨u, u', ts, rfl, h1, _, _, s3⟩
        exact SqL.of (s3 _ _ hD1)
      · rintro i v σ H2 hi ⟨u, u', ts, rfl, hl2, hts, hln, s3⟩
        rw [List.getElem?_map] at hi
        obtain ⟨y, hy, rfl⟩ := Option.map_eq_some_iff.mp hi
        have hin : i < st.stacks.length := (List.getElem?_eq_some_iff.mp hy).1
        have hym := List.mem_of_getElem? hy
        have hys := mem_stack good.toWF hym
        have hM : (ms st).S y.number = some y := hys
        obtain ⟨ds, hs⟩ := R.stk (live_of hM)
        have sh := s1.trans s3
        have hs2 := sh _ _ hs
        have ewait : ∃ z : Int, z = Md35.waits st.row y.number ∧ ∀ (Q' : VK), Q' (.int z) H2 → tIf (tTest (tOp (fun x y H Q => y = .non ∧ Q (.bl (decide (x = .non))) H) (tFld K (tVar 3) "waiter") (tC .non))) (tC (.int (-1))) (tFld K (tFld K (tVar 3) "waiter") "number") [some (.ref L.sl), some (.ref D), some (.ref l), some (.ref (L.st y.number)), u'] H2 Q' := by
          rw [waits_wt, ← nxt_wt]
          cases en : nxt st.row y.number with
          | none =>
            refine ⟨_, rfl, fun Q' hq => ⟨_, rfl, L.st y.number, _, ds, _, _, rfl, hs2, T.c_stack, T.n_stack_waiter, sf_waiter _ _ _ _ _, rfl, _, rfl, ?_⟩⟩
            have ew : wtV L (ms st).row y.number = .non := by
              unfold wtV
              rw [show nxt (ms st).row y.number = none from en]
            rw [ew, decide_eq_true rfl]
            exact iteT hq
          | some j =>
            refine ⟨_, rfl, fun Q' hq => ⟨_, rfl, L.st y.number, _, ds, _, _, rfl, hs2, T.c_stack, T.n_stack_waiter, sf_waiter _ _ _ _ _, rfl, _, rfl, ?_⟩⟩
            have ew : wtV L (ms st).row y.number = .ref (L.st j) := by
              unfold wtV
              rw [show nxt (ms st).row y.number = some j from en]
            rw [ew, decide_eq_false (by intro z; cases z)]
            obtain ⟨yj, hyj⟩ := good.rin j (nxt_mem en)
            have hMj : (ms st).S j = some yj := hyj
            obtain ⟨dj, hsj⟩ := R.stk (live_of hMj)
            exact iteF ⟨_, rfl, L.st y.number, _, ds, _, _, rfl, hs2, T.c_stack, T.n_stack_waiter, (by rw [← ew]; exact sf_waiter _ _ _ _ _), L.st j, _, dj, _, _, rfl, sh _ _ hsj, T.c_stack, T.n_stack_number, sf_number _ _ _ _ _, hq⟩
        obtain ⟨z, ez, hz⟩ := ewait
        refine hz _ ?_
        have eon : ∃ c : Int, c = (if st.row.contains y.number = true then 1 else 0) ∧ ∀ (Q' : VK), Q' (.int c) H2 → tIf (tB (tFld K (tVar 3) "on")) (tC (.int 1)) (tC (.int 0)) [some (.ref L.sl), some (.ref D), some (.ref l), some (.ref (L.st y.number)), some (.int z)] H2 Q' := by
          refine ⟨_, rfl, fun Q' hq => ⟨_, rfl, L.st y.number, _, ds, _, _, rfl, hs2, T.c_stack, T.n_stack_on, sf_on _ _ _ _ _, _, rfl, ?_⟩⟩
          cases e : st.row.contains y.number with
          | true =>
            rw [show (ms st).row.contains y.number = true from e]
            rw [e] at hq
            exact iteT hq
          | false =>
            rw [show (ms st).row.contains y.number = false from e]
            rw [e] at hq
            exact iteF hq
        obtain ⟨c, ec, hc⟩ := eon
        refine ⟨_, rfl, .inl ⟨rfl, _, SqL.of hl2⟩, _, rfl, L.st y.number, _, ds, _, _, rfl, hs2, T.c_stack, T.n_stack_number, sf_number _ _ _ _ _, hc _ ⟨_, rfl, (by show 3 ≤ sizeLine; decide), fun p hp => ?_⟩⟩
        have nlp : l ≠ p := ne_of_none hl2 hp
        refine ⟨l, p, ts.map V.int, _, rfl, rfl, (by rw [upd_ne nlp]; exact hl2), upd_same, big16 (by simp; omega), ?_⟩
        refine ⟨_, _, ts ++ stackNs st y, rfl, ?_, ?_, ?_, fun b o e => ?_⟩
        · rw [upd_same, List.map_append]
          unfold stackNs
          rw [← ec, ← ez]
          rfl
        · rw [flat_take hy, hts]
          rfl
        · rw [List.length_append]
          show ts.length + 3 ≤ _
          omega
        · rw [upd_ne (ne_of_none e hl), upd_ne (ne_of_none (s3 b o e) hp)]
          exact s3 b o e
      · rintro σ H2 ⟨u, u', ts, rfl, hl2, hts, hln, s3⟩
        refine ⟨_, rfl, q H2 l (s1.free hl) ?_ (s1.trans s3)⟩
        rw [hl2, hts, List.length_map, List.take_length]
end
end Th
namespace Th
open PySem PySem.Spec PyProof.Rows L2
open Md35 (State Stack Throw Came Ans P unwind leave ending gathered over thrown want run spec only within stackAt)
open Md35Neutral (callOf)
def spInRange : Sp := fun vs H Q _ => ∃ (a m : Int), vs = [.int a, .int m] ∧ Q (.bl (within a 0 m)) H
def spCall (T : Cl) (K : PySem.W.Frag) (p : Int) : Sp := fun vs H Q _ => ∃ (xs : List Int) (q : Md35.Call) (nl : Addr) (G : Gh) (L : Lay) (s : State) (ak : Addr) (reps : List Int), vs = [.ref L.kp, .ref ak, .ref nl] ∧ Md35Neutral.many p = some xs.length ∧ callOf (p :: xs) = some q ∧ Fx H G nl (.lst (xs.map V.int)) ∧ Wd T K H G L s ak ⟨reps, 0, []⟩ ∧ Good s ∧ Com K H G L (ms s) ∧
  Fits ⟨reps, 0, []⟩ (spec s q) ∧ OutD T K G H L.kp ak ⟨reps, 0, []⟩ (spec s q) Q
theorem Com.same {K : PySem.W.Frag} {H H' : Hp} {G : Gh} {L : Lay} {M : MS} (c : Com K H G L M) (s : Same H H') : Com K H' G L M := fun r x e hx => (c r x e hx).stay (Same.stay s)
theorem OutD.told {T : Cl} {K : PySem.W.Frag} {G : Gh} {H : Hp} {ak : Addr} {S : AS} {L : Lay} {s : State} {a : Ans} {Q : VK} (o : OutD T K G H L.kp ak S (.done s a) Q) (wd : Wd T K H G L s ak S) (good : Good s) (com : Com K H G L (ms s)) : Told Q H a := fun H' l hl h s1 =>
  o H' G L s S a l (Went.refl _ _) (wd.same s1) good (com.same s1) (Same.stay s1) rfl h (wd.rep.free hl)
theorem Told.one {Q : VK} {H : Hp} {z : Int} (t : Told Q H (only z)) {l : Addr} (hl : H l = none) : Q (.ref l) (upd H l (.lst [.int z])) := t _ l hl upd_same (Same.new hl)
theorem callOf_1 {xs : List Int} {q : Md35.Call} (hm : Md35Neutral.many 1 = some xs.length) (h : callOf (1 :: xs) = some q) : xs = [] ∧ q = .new_ := by
  have e : xs = [] := len_0 (Option.some.inj hm).symm
  subst e
  have h' : some Md35.Call.new_ = some q := h
  cases h'
  exact ⟨rfl, rfl⟩
theorem callOf_2 {xs : List Int} {q : Md35.Call} (hm : Md35Neutral.many 2 = some xs.length) (h : callOf (2 :: xs) = some q) : ∃ x y z, xs = [x, y, z] ∧ q = .go x y z := by
  obtain ⟨x, y, z, rfl⟩ := len_3 (Option.some.inj hm).symm
  have h' : some (Md35.Call.go x y z) = some q := h
  cases h'
  exact ⟨_, _, _, rfl, rfl⟩
theorem callOf_3 {xs : List Int} {q : Md35.Call} (hm : Md35Neutral.many 3 = some xs.length) (h : callOf (3 :: xs) = some q) : ∃ x y z, xs = [x, y, z] ∧ q = .send x y z := by
  obtain ⟨x, y, z, rfl⟩ := len_3 (Option.some.inj hm).symm
  have h' : some (Md35.Call.send x y z) = some q := h
  cases h'
  exact ⟨_, _, _, rfl, rfl⟩
theorem callOf_4 {xs : List Int} {q : Md35.Call} (hm : Md35Neutral.many 4 = some xs.length) (h : callOf (4 :: xs) = some q) : ∃ x y z u, xs = [x, y, z, u] ∧ q = .hurl x y z u := by
  obtain ⟨x, y, z, u, rfl⟩ := len_4 (Option.some.inj hm).symm
  have h' : some (Md35.Call.hurl x y z u) = some q := h
  cases h'
  exact ⟨_, _, _, _, rfl, rfl⟩
theorem callOf_5 {xs : List Int} {q : Md35.Call} (hm : Md35Neutral.many 5 = some xs.length) (h : callOf (5 :: xs) = some q) : ∃ x, xs = [x] ∧ q = .end_ x := by
  obtain ⟨x, rfl⟩ := len_1 (Option.some.inj hm).symm
  have h' : some (Md35.Call.end_ x) = some q := h
  cases h'
  exact ⟨_, rfl, rfl⟩
theorem callOf_6 {xs : List Int} {q : Md35.Call} (hm : Md35Neutral.many 6 = some xs.length) (h : callOf (6 :: xs) = some q) : ∃ x, xs = [x] ∧ q = .on x := by
  obtain ⟨x, rfl⟩ := len_1 (Option.some.inj hm).symm
  have h' : some (Md35.Call.on x) = some q := h
  cases h'
  exact ⟨_, rfl, rfl⟩
theorem callOf_7 {xs : List Int} {q : Md35.Call} (hm : Md35Neutral.many 7 = some xs.length) (h : callOf (7 :: xs) = some q) : ∃ x, xs = [x] ∧ q = .frames x := by
  obtain ⟨x, rfl⟩ := len_1 (Option.some.inj hm).symm
  have h' : some (Md35.Call.frames x) = some q := h
  cases h'
  exact ⟨_, rfl, rfl⟩
theorem callOf_8 {xs : List Int} {q : Md35.Call} (hm : Md35Neutral.many 8 = some xs.length) (h : callOf (8 :: xs) = some q) : ∃ x y, xs = [x, y] ∧ q = .acts x y := by
  obtain ⟨x, y, rfl⟩ := len_2 (Option.some.inj hm).symm
  have h' : some (Md35.Call.acts x y) = some q := h
  cases h'
  exact ⟨_, _, rfl, rfl⟩
theorem callOf_9 {xs : List Int} {q : Md35.Call} (hm : Md35Neutral.many 9 = some xs.length) (h : callOf (9 :: xs) = some q) : xs = [] ∧ q = .row := by
  have e : xs = [] := len_0 (Option.some.inj hm).symm
  subst e
  have h' : some Md35.Call.row = some q := h
  cases h'
  exact ⟨rfl, rfl⟩
theorem callOf_10 {xs : List Int} {q : Md35.Call} (hm : Md35Neutral.many 10 = some xs.length) (h : callOf (10 :: xs) = some q) : ∃ x, xs = [x] ∧ q = .pieces x := by
  obtain ⟨x, rfl⟩ := len_1 (Option.some.inj hm).symm
  have h' : some (Md35.Call.pieces x) = some q := h
  cases h'
  exact ⟨_, rfl, rfl⟩
theorem callOf_11 {xs : List Int} {q : Md35.Call} (hm : Md35Neutral.many 11 = some xs.length) (h : callOf (11 :: xs) = some q) : xs = [] ∧ q = .causes := by
  have e : xs = [] := len_0 (Option.some.inj hm).symm
  subst e
  have h' : some Md35.Call.causes = some q := h
  cases h'
  exact ⟨rfl, rfl⟩
theorem stA_ms (s : State) (z : Int) : stA (ms s) z = stackAt s z := rfl
theorem stA_some {s : State} {z : Int} {y : Stack} (h : stackAt s z = some y) : s.stack z.toNat = some y ∧ ¬ z < 0 := by
  unfold stackAt at h
  split at h
  · cases h
  · rename_i c
    exact ⟨h, c⟩
theorem good_empty : Good {} := by
  have no : ∀ (k : Nat) (x : Stack), ({} : State).stack k = some x → False := fun k x e => by
    cases e
  exact ⟨⟨List.Pairwise.nil, fun k x e => (no k x e).elim, List.nodup_nil, fun k x e => (no k x e).elim, fun j k x y e => (no j x e).elim⟩, fun r hr => absurd hr (by simp), fun k x e => (no k x e).elim⟩
section
variable {P : Program} {w : World} {K : PySem.W.Frag} {mg : Str → Option Value} {base : Heap} {A : Ad}
theorem ok_in_range (T : Txt P w K mg A) : FO P w K mg base A .d_in_range 1 (spInRange) := by
  refine (T.fn .d_in_range).ok sc_in_range (fun vs H Q E h => ?_) (fun cdv Ar outer s H vs Q E hr h => ?_)
  · obtain ⟨a, m, rfl, _⟩ := h
    rfl
  · obtain ⟨a, m, rfl, q⟩ := h
    refine ⟨_, (pss_one (ps_ret (pe_chain op_le op_le pe_int (pv 0) (pv 1)))), ?_⟩
    refine ⟨_, rfl, _, _, rfl, rfl, _, rfl, ?_⟩
    by_cases c : (0 : Int) ≤ a
    · rw [decide_eq_true c]
      refine iteT ⟨_, rfl, _, _, rfl, rfl, ?_⟩
      have e : within a 0 m = decide (a ≤ m) := by
        unfold within
        rw [decide_eq_true c, Bool.true_and]
      rw [e] at q
      exact q
    · rw [decide_eq_false c]
      have e : within a 0 m = false := by
        unfold within
        rw [decide_eq_false c, Bool.false_and]
      rw [e] at q
      exact iteF q
theorem ok_call_new (T : Txt P w K mg A) : FO P w K mg base A .d_call_new 2 (spCall A.cl K 1) := by
  refine (T.fn .d_call_new).ok sc_call_new (fun vs H Q E h => ?_) (fun cdv Ar outer s H vs Q E hr h => ?_)
  · obtain ⟨xs, q, nl, G, L, s, ak, reps, rfl, _⟩ := h
    rfl
  · obtain ⟨xs, qc, nl, G, L, st, ak, reps, rfl, hm, hq, hnl, wd, good, com, hfit, out⟩ := h
    refine ⟨_, (pss_cons (ps_expr (pe_meth0 (pv 0) T.c_keep T.m_keep_make_empty (ok_keep_make_empty T) (hr.mono (by decide)) (T.bi .d_keep_make_empty) .nil pass0)) (pss_one (ps_ret (pe_lst (pa_cons pe_int pa_nil))))), ?_⟩
    obtain ⟨rfl, rfl⟩ := callOf_1 hm hq
    obtain ⟨dk, hk⟩ := wd.rep.kp
    refine ⟨_, rfl, L.kp, dk, _, rfl, hk, (by kernel_rfl), L.kp, dk, _, rfl, hk, .inr ⟨_, _, _, _, _, rfl⟩, fun H1 sl tl c nsl ntl nc nst h1 h2 h3 h4 h5 => ?_⟩
    have gkp : G L.kp = some .kp := (wd.rep.own .kp _ rfl).1
    have nks : L.kp ≠ sl := ne_of_none hk nsl
    have nkt : L.kp ≠ tl := ne_of_none hk ntl
    have gk : ∀ {b o}, H b = some o → gad (gad G sl .sl) tl .tl b = G b := fun e => by rw [gad_ne (ne_of_none e ntl), gad_ne (ne_of_none e nsl)]
    have hdom : Dom (gad (gad G sl .sl) tl .tl) H1 := fun b r e => by
      by_cases hb1 : b = tl
      · rw [hb1, h3]
        simp
      · rw [gad_ne hb1] at e
        by_cases hb2 : b = sl
        · rw [hb2, h2]
          simp
        · rw [gad_ne hb2] at e
          cases q : H b with
          | none => exact absurd q (wd.dom b r e)
          | some o =>
            by_cases hb3 : b = L.kp
            · rw [hb3, h1]
              simp
            · rw [h5 b o q hb3]
              simp
    have R1 : Rep A.cl K H1 (gad (gad G sl .sl) tl .tl) { L with sl := sl, tl := tl, cm := c, un := .non } (ms {}) := by
      rw [ms_empty]
      refine Rep.empty (dx := dk) hdom ?_ ?_ gad_same rfl h1 h2 h3
      · rw [gk hk]
        exact gkp
      · rw [gad_ne nst]
        exact gad_same
    have ks1 : Kst G H (gad (gad G sl .sl) tl .tl) H1 := fun b o e n => ⟨h5 b o e (fun z => by
      have := n .kp (by rw [z]; exact gkp)
      cases this), gk e⟩
    have w1 : Wd A.cl K H1 _ _ {} ak ⟨reps, 0, []⟩ := wd.kst R1 ks1
    refine ⟨(by show 1 ≤ sizeLine; decide), fun l hl => ?_⟩
    exact out _ _ { L with sl := sl, tl := tl, cm := c, un := .non } {} _ (only 0) l (Went.refl _ _) (w1.same (Same.new hl)) good_empty (com_nil rfl) (ks1.stay.trans (Same.stay (Same.new hl))) rfl upd_same (R1.free hl)
theorem ok_call_frames (T : Txt P w K mg A) : FO P w K mg base A .d_call_frames 2 (spCall A.cl K 7) := by
  refine (T.fn .d_call_frames).ok sc_call_frames (fun vs H Q E h => ?_) (fun cdv Ar outer s H vs Q E hr h => ?_)
  · obtain ⟨xs, q, nl, G, L, s, ak, reps, rfl, _⟩ := h
    rfl
  · obtain ⟨xs, qc, nl, G, L, st, ak, reps, rfl, hm, hq, hnl, wd, good, com, hfit, out⟩ := h
    refine ⟨_, (pss_cons (ps_set (i := 3) sc_call_frames.nd rfl (Or.inl rfl) (pe_meth (pv 0) T.c_keep T.m_keep_find_stack (ok_keep_find_stack T) (hr.mono (by decide)) (T.bi .d_keep_find_stack) .nil pass0 (pa_cons (pe_ix ix_list (pv 2) pe_int (fun _ _ => rfl)) pa_nil))) (pss_one (ps_ret (pe_ifExp (pt_cmpR op_isN (pv 3) pe_non (nomark _)) (pe_lst (pa_cons (pe_ic T.k_NO_SUCH_STACK) pa_nil)) (pe_call (ok_tell_frames T) (hr.mono (by decide)) rfl T.g_tell_frames (T.fn .d_tell_frames).kp (T.bi .d_tell_frames) .nil pass0 (pa_cons (pv 3) pa_nil)))))), ?_⟩
    obtain ⟨z, rfl, rfl⟩ := callOf_7 hm hq
    obtain ⟨dk, hk⟩ := wd.rep.kp
    refine ⟨_, rfl, L.kp, dk, _, rfl, hk, (by kernel_rfl), _, rfl, nl, _, _, _, rfl, rfl, SqL.of hnl.1, atI_nat (j := 0) rfl, z, G, L, ms st, rfl, wd.rep, good.toWF.mw, fun e => ?_, fun y e => ?_⟩
    · rw [stA_ms] at e
      have o : OutD A.cl K G H L.kp ak ⟨reps, 0, []⟩ (.done st (only (-2))) Q := by
        simp only [spec, e] at out
        exact out
      refine ⟨_, rfl, rfl, _, rfl, ?_⟩
      rw [decide_eq_true rfl]
      exact iteT ⟨(by show 1 ≤ sizeLine; decide), fun l hl => (o.told wd good com).one hl⟩
    · rw [stA_ms] at e
      obtain ⟨hy, _⟩ := stA_some e
      have o : OutD A.cl K G H L.kp ak ⟨reps, 0, []⟩ (.done st ⟨(y.frames.length : Int), y.frames.flatMap frameNs⟩) Q := by
        simp only [spec, e] at out
        exact out
      refine ⟨_, rfl, rfl, _, rfl, ?_⟩
      rw [decide_eq_false (by intro y; cases y)]
      exact iteF ⟨_, rfl, z.toNat, y, G, L, ms st, rfl, wd.rep, hy, good.sw _ _ hy, o.told wd good com⟩
theorem ok_call_pieces (T : Txt P w K mg A) : FO P w K mg base A .d_call_pieces 2 (spCall A.cl K 10) := by
  refine (T.fn .d_call_pieces).ok sc_call_pieces (fun vs H Q E h => ?_) (fun cdv Ar outer s H vs Q E hr h => ?_)
  · obtain ⟨xs, q, nl, G, L, s, ak, reps, rfl, _⟩ := h
    rfl
  · obtain ⟨xs, qc, nl, G, L, st, ak, reps, rfl, hm, hq, hnl, wd, good, com, hfit, out⟩ := h
    refine ⟨_, (pss_cons (ps_set (i := 3) sc_call_pieces.nd rfl (Or.inl rfl) (pe_meth (pv 0) T.c_keep T.m_keep_find_stack (ok_keep_find_stack T) (hr.mono (by decide)) (T.bi .d_keep_find_stack) .nil pass0 (pa_cons (pe_ix ix_list (pv 2) pe_int (fun _ _ => rfl)) pa_nil))) (pss_one (ps_ret (pe_ifExp (pt_cmpR op_isN (pv 3) pe_non (nomark _)) (pe_lst (pa_cons (pe_ic T.k_NO_SUCH_STACK) pa_nil)) (pe_call (ok_tell_pieces T) (hr.mono (by decide)) rfl T.g_tell_pieces (T.fn .d_tell_pieces).kp (T.bi .d_tell_pieces) .nil pass0 (pa_cons (pv 3) pa_nil)))))), ?_⟩
    obtain ⟨z, rfl, rfl⟩ := callOf_10 hm hq
    obtain ⟨dk, hk⟩ := wd.rep.kp
    refine ⟨_, rfl, L.kp, dk, _, rfl, hk, (by kernel_rfl), _, rfl, nl, _, _, _, rfl, rfl, SqL.of hnl.1, atI_nat (j := 0) rfl, z, G, L, ms st, rfl, wd.rep, good.toWF.mw, fun e => ?_, fun y e => ?_⟩
    · rw [stA_ms] at e
      have o : OutD A.cl K G H L.kp ak ⟨reps, 0, []⟩ (.done st (only (-2))) Q := by
        simp only [spec, e] at out
        exact out
      refine ⟨_, rfl, rfl, _, rfl, ?_⟩
      rw [decide_eq_true rfl]
      exact iteT ⟨(by show 1 ≤ sizeLine; decide), fun l hl => (o.told wd good com).one hl⟩
    · rw [stA_ms] at e
      obtain ⟨hy, _⟩ := stA_some e
      have o : OutD A.cl K G H L.kp ak ⟨reps, 0, []⟩ (.done st ⟨(y.pieces.length : Int), y.pieces.map fun (p : Nat) => (p : Int)⟩) Q := by
        simp only [spec, e] at out
        exact out
      refine ⟨_, rfl, rfl, _, rfl, ?_⟩
      rw [decide_eq_false (by intro y; cases y)]
      exact iteF ⟨_, rfl, z.toNat, y, G, L, ms st, rfl, wd.rep, hy, good.sw _ _ hy, o.told wd good com⟩
theorem ok_call_row (T : Txt P w K mg A) : FO P w K mg base A .d_call_row 2 (spCall A.cl K 9) := by
  refine (T.fn .d_call_row).ok sc_call_row (fun vs H Q E h => ?_) (fun cdv Ar outer s H vs Q E hr h => ?_)
  · obtain ⟨xs, q, nl, G, L, s, ak, reps, rfl, _⟩ := h
    rfl
  · obtain ⟨xs, qc, nl, G, L, st, ak, reps, rfl, hm, hq, hnl, wd, good, com, hfit, out⟩ := h
    refine ⟨_, (pss_one (ps_ret (pe_call (ok_tell_row T) (hr.mono (by decide)) rfl T.g_tell_row (T.fn .d_tell_row).kp (T.bi .d_tell_row) .nil pass0 (pa_cons (pe_fld (pv 0) rfl) pa_nil)))), ?_⟩
    obtain ⟨rfl, rfl⟩ := callOf_9 hm hq
    obtain ⟨dk, hk⟩ := wd.rep.kp
    have o : OutD A.cl K G H L.kp ak ⟨reps, 0, []⟩ (.done st ⟨(st.stacks.length : Int), st.stacks.flatMap (stackNs st)⟩) Q := out
    exact ⟨_, rfl, L.kp, _, dk, _, _, rfl, hk, T.c_keep, T.n_keep_stacks, kf_stacks _ _ _ _ _, G, L, st, rfl, wd.rep, good, o.told wd good com⟩
theorem ok_call_causes (T : Txt P w K mg A) : FO P w K mg base A .d_call_causes 2 (spCall A.cl K 11) := by
  refine (T.fn .d_call_causes).ok sc_call_causes (fun vs H Q E h => ?_) (fun cdv Ar outer s H vs Q E hr h => ?_)
  · obtain ⟨xs, q, nl, G, L, s, ak, reps, rfl, _⟩ := h
    rfl
  · obtain ⟨xs, qc, nl, G, L, st, ak, reps, rfl, hm, hq, hnl, wd, good, com, hfit, out⟩ := h
    refine ⟨_, (pss_one (ps_ret (pe_ifExp (pt_cmpR op_isN (pe_fld (pv 0) rfl) pe_non (nomark _)) (pe_lst (pa_cons (pe_ic T.k_NOTHING_UNCAUGHT) pa_nil)) (pe_call (ok_tell_causes T) (hr.mono (by decide)) rfl T.g_tell_causes (T.fn .d_tell_causes).kp (T.bi .d_tell_causes) .nil pass0 (pa_cons (pe_fld (pv 0) rfl) pa_nil))))), ?_⟩
    obtain ⟨rfl, rfl⟩ := callOf_11 hm hq
    obtain ⟨dk, hk⟩ := wd.rep.kp
    have hun : ThO A.cl H G L.un st.uncaught := wd.rep.misc.unc
    refine ⟨_, rfl, L.kp, _, dk, _, _, rfl, hk, T.c_keep, T.n_keep_uncaught, kf_uncaught _ _ _ _ _, rfl, _, rfl, ?_⟩
    cases e : st.uncaught with
    | none =>
      rw [e] at hun
      have hun' : L.un = .non := hun
      have o : OutD A.cl K G H L.kp ak ⟨reps, 0, []⟩ (.done st (only (-3))) Q := by
        simp only [spec, e] at out
        exact out
      rw [hun', decide_eq_true rfl]
      exact iteT ⟨(by show 1 ≤ sizeLine; decide), fun l hl => (o.told wd good com).one hl⟩
    | some t =>
      rw [e] at hun
      have hun' : ThAt A.cl H G L.un t := hun
      have o : OutD A.cl K G H L.kp ak ⟨reps, 0, []⟩ (.done st ⟨(t.causes.length : Int), Md35.ofThrow t⟩) Q := by
        simp only [spec, e] at out
        exact out
      rw [decide_eq_false hun'.ne]
      exact iteF ⟨_, rfl, L.kp, _, dk, _, _, rfl, hk, T.c_keep, T.n_keep_uncaught, kf_uncaught _ _ _ _ _, L.un, t, G, rfl, hun', o.told wd good com⟩
theorem ok_call_acts (T : Txt P w K mg A) : FO P w K mg base A .d_call_acts 2 (spCall A.cl K 8) := by
  refine (T.fn .d_call_acts).ok sc_call_acts (fun vs H Q E h => ?_) (fun cdv Ar outer s H vs Q E hr h => ?_)
  · obtain ⟨xs, q, nl, G, L, s, ak, reps, rfl, _⟩ := h
    rfl
  · obtain ⟨xs, qc, nl, G, L, st, ak, reps, rfl, hm, hq, hnl, wd, good, com, hfit, out⟩ := h
    refine ⟨_, (pss_cons (ps_set (i := 3) sc_call_acts.nd rfl (Or.inl rfl) (pe_ix ix_list (pv 2) pe_int (fun _ _ => rfl))) (pss_cons (ps_if (pt_cmpR op_lt (pv 3) pe_int (nomark _)) (pss_one (ps_ret (pe_lst (pa_cons (pe_ic T.k_OUT_OF_RANGE) pa_nil)))) pss_nil) (pss_cons (ps_set (i := 4) sc_call_acts.nd rfl (Or.inl rfl) (pe_meth (pv 0) T.c_keep T.m_keep_find_stack (ok_keep_find_stack T) (hr.mono (by decide)) (T.bi .d_keep_find_stack) .nil pass0 (pa_cons (pe_ix ix_list (pv 2) pe_int (fun _ _ => rfl)) pa_nil))) (pss_cons (ps_if (pt_cmpR op_isN (pv 4) pe_non (nomark _)) (pss_one (ps_ret (pe_lst (pa_cons (pe_ic T.k_NO_SUCH_STACK) pa_nil)))) pss_nil) (pss_cons (ps_if (pt_cmpR op_ge (pv 3) (pe_callB call_len_seq (by rfl) T.b_len PySem.boot_len (pa_cons (pe_fld (pv 4) rfl) pa_nil)) (nomark _)) (pss_one (ps_ret (pe_lst (pa_cons (pe_ic T.k_NO_SUCH_FRAME) pa_nil)))) pss_nil) (pss_one (ps_ret (pe_call (ok_tell_acts T) (hr.mono (by decide)) rfl T.g_tell_acts (T.fn .d_tell_acts).kp (T.bi .d_tell_acts) .nil pass0 (pa_cons (pe_ix ix_list (pe_fld (pv 4) rfl) (pe_op op_sub (pe_un un_neg pe_int) (pv 3)) (fun _ _ => rfl)) pa_nil))))))))), ?_⟩
    obtain ⟨z, i, rfl, rfl⟩ := callOf_8 hm hq
    obtain ⟨dk, hk⟩ := wd.rep.kp
    refine ⟨_, rfl, nl, _, _, _, rfl, rfl, SqL.of hnl.1, atI_nat (j := 1) rfl, ?_⟩
    refine ⟨_, rfl, _, _, rfl, rfl, _, rfl, ite2 (fun c => ?_) (fun c => ?_)⟩
    · have c' : i < 0 := of_decide_eq_true c
      have o : OutD A.cl K G H L.kp ak ⟨reps, 0, []⟩ (.done st (only (-8))) Q := by
        simp only [spec, if_pos c'] at out
        exact out
      exact ⟨(by show 1 ≤ sizeLine; decide), fun l hl => (o.told wd good com).one hl⟩
    · have c' : ¬ i < 0 := fun h => c (decide_eq_true h)
      refine ⟨_, rfl, L.kp, dk, _, rfl, hk, (by kernel_rfl), _, rfl, nl, _, _, _, rfl, rfl, SqL.of hnl.1, atI_nat (j := 0) rfl, z, G, L, ms st, rfl, wd.rep, good.toWF.mw, fun e => ?_, fun y e => ?_⟩
      · rw [stA_ms] at e
        have o : OutD A.cl K G H L.kp ak ⟨reps, 0, []⟩ (.done st (only (-2))) Q := by
          simp only [spec, if_neg c', e] at out
          exact out
        refine ⟨_, rfl, rfl, _, rfl, ?_⟩
        rw [decide_eq_true rfl]
        exact iteT ⟨(by show 1 ≤ sizeLine; decide), fun l hl => (o.told wd good com).one hl⟩
      · rw [stA_ms] at e
        obtain ⟨hy, _⟩ := stA_some e
        have hM : (ms st).S z.toNat = some y := hy
        obtain ⟨ds, hs⟩ := wd.rep.stk (live_of hM)
        have hfr := wd.rep.frs hM
        refine ⟨_, rfl, rfl, _, rfl, ?_⟩
        rw [decide_eq_false (by intro y; cases y)]
        refine iteF ⟨_, rfl, _, rfl, L.st z.toNat, _, ds, _, _, rfl, hs, T.c_stack, T.n_stack_frames, sf_frames _ _ _ _ _, L.fr z.toNat, _, rfl, .inl (SqL.of hfr), _, _, rfl, rfl, _, rfl, ite2 (fun d => ?_) (fun d => ?_)⟩
        · have d' := of_decide_eq_true d
          rw [frsV_length] at d'
          have hnone : y.frames[i.toNat]? = none := List.getElem?_eq_none (by omega)
          have o : OutD A.cl K G H L.kp ak ⟨reps, 0, []⟩ (.done st (only (-3))) Q := by
            simp only [spec, if_neg c', e, hnone] at out
            exact out
          exact ⟨(by show 1 ≤ sizeLine; decide), fun l hl => (o.told wd good com).one hl⟩
        · have d' : i.toNat < y.frames.length := by
            have : ¬ (((frsV L z.toNat y.frames.length).length : Int) ≤ i) := fun h => d (decide_eq_true h)
            rw [frsV_length] at this
            omega
          have hsome : y.frames[i.toNat]? = some y.frames[i.toNat] := List.getElem?_eq_getElem d'
          have o : OutD A.cl K G H L.kp ak ⟨reps, 0, []⟩ (.done st ⟨(y.frames[i.toNat].acts.length : Int), y.frames[i.toNat].acts.flatMap Md35.ofAct⟩) Q := by
            simp only [spec, if_neg c', e, hsome] at out
            exact out
          have hfa := frameAt_rev hM d'
          have hat : atI (frsV L z.toNat y.frames.length) (-1 - i) = some (.ref (L.fm z.toNat (y.frames.length - 1 - i.toNat))) := by
            have ei : ixN (frsV L z.toNat y.frames.length).length (-1 - i) = some (y.frames.length - 1 - i.toNat) := by
              unfold ixN
              rw [frsV_length, if_neg (by omega), if_pos (by omega)]
              congr 1
              omega
            unfold atI
            rw [ei]
            show (frsV L z.toNat y.frames.length)[y.frames.length - 1 - i.toNat]? = _
            unfold frsV
            rw [List.getElem?_map, List.getElem?_range (by omega)]
            rfl
          refine ⟨_, rfl, L.st z.toNat, _, ds, _, _, rfl, hs, T.c_stack, T.n_stack_frames, sf_frames _ _ _ _ _, _, rfl, _, rfl, _, _, rfl, rfl, L.fr z.toNat, _, _, _, rfl, rfl, SqL.of hfr, hat, ?_⟩
          exact ⟨z.toNat, y.frames.length - 1 - i.toNat, y.frames[i.toNat], G, L, ms st, rfl, wd.rep, hfa, (good.sw _ _ hy).acl _ (List.getElem_mem d'), o.told wd good com⟩
end
end Th
namespace Th
open PySem PySem.Spec PyProof.Rows L2
open Md35 (State Stack Throw Came Ans P unwind leave ending gathered over thrown want run spec only within stackAt)
open Md35Neutral (callOf)
theorem within_iff {a m : Int} (h : within a 0 m = true) : 0 ≤ a ∧ a ≤ m := by
  unfold within at h
  rw [Bool.and_eq_true] at h
  exact ⟨of_decide_eq_true h.1, of_decide_eq_true h.2⟩
section
variable {P : Program} {w : World} {K : PySem.W.Frag} {mg : Str → Option Value} {base : Heap} {A : Ad}
theorem ok_call_on (T : Txt P w K mg A) : FO P w K mg base A .d_call_on 12 (spCall A.cl K 6) := by
  refine (T.fn .d_call_on).ok sc_call_on (fun vs H Q E h => ?_) (fun cdv Ar outer s H vs Q E hr h => ?_)
  · obtain ⟨xs, q, nl, G, L, s, ak, reps, rfl, _⟩ := h
    rfl
  · obtain ⟨xs, qc, nl, G, L, st, ak, reps, rfl, hm, hq, hnl, wd, good, com, hfit, out⟩ := h
    refine ⟨_, (pss_cons (ps_set (i := 3) sc_call_on.nd rfl (Or.inl rfl) (pe_ix ix_list (pv 2) pe_int (fun _ _ => rfl))) (pss_cons (ps_if (pt_not (pt_val (pe_call (ok_in_range T) (hr.mono (by decide)) rfl T.g_in_range (T.fn .d_in_range).kp (T.bi .d_in_range) .nil pass0 (pa_cons (pv 3) (pa_cons (pe_ic T.k_BUDGET_MOST) pa_nil))))) (pss_one (ps_ret (pe_lst (pa_cons (pe_ic T.k_OUT_OF_RANGE) pa_nil)))) pss_nil) (pss_cons (ps_if (pt_not (pt_val (pe_meth0 (pv 0) T.c_keep T.m_keep_is_stopped (ok_keep_is_stopped T) (hr.mono (by decide)) (T.bi .d_keep_is_stopped) .nil pass0))) (pss_one (ps_ret (pe_lst (pa_cons (pe_ic T.k_NOTHING_STOPPED) pa_nil)))) pss_nil) (pss_one (ps_ret (pe_call (ok_run_steps T) (hr.mono (by decide)) rfl T.g_run_steps (T.fn .d_run_steps).kp (T.bi .d_run_steps) .nil pass0 (pa_cons (pv 0) (pa_cons (pv 1) (pa_cons (pv 3) pa_nil))))))))), ?_⟩
    obtain ⟨b, rfl, rfl⟩ := callOf_6 hm hq
    obtain ⟨dk, hk⟩ := wd.rep.kp
    refine ⟨_, rfl, nl, _, _, _, rfl, rfl, SqL.of hnl.1, atI_nat (j := 0) rfl, ?_⟩
    refine ⟨_, rfl, b, 100000, rfl, _, rfl, ?_⟩
    cases hb : within b 0 100000 with
    | false =>
      have o : OutD A.cl K G H L.kp ak ⟨reps, 0, []⟩ (.done st (only (-8))) Q := by
        simp only [spec, show within b 0 Md35.BUDGET = false from hb, if_true] at out
        exact out
      exact iteT ⟨(by show 1 ≤ sizeLine; decide), fun l hl => (o.told wd good com).one hl⟩
    | true =>
      refine iteF ⟨_, rfl, L.kp, dk, _, rfl, hk, (by kernel_rfl), G, L, ms st, rfl, wd.rep, _, rfl, ?_⟩
      obtain ⟨b0, b1⟩ := within_iff hb
      cases hr0 : st.row with
      | nil =>
        have o : OutD A.cl K G H L.kp ak ⟨reps, 0, []⟩ (.done st (only (-3))) Q := by
          simp only [spec, show within b 0 Md35.BUDGET = true from hb, hr0] at out
          exact out
        rw [show (ms st).row = [] from hr0]
        exact iteT ⟨(by show 1 ≤ sizeLine; decide), fun l hl => (o.told wd good com).one hl⟩
      | cons r rest =>
        have e : spec st (.on b) = run b.toNat 0 st := by
          simp only [spec, show within b 0 Md35.BUDGET = true from hb, hr0]
          rfl
        rw [e] at out hfit
        rw [show (ms st).row = r :: rest from hr0]
        refine iteF ⟨_, rfl, _, rfl, _, rfl, b.toNat, G, L, st, ak, _, (by rw [Int.toNat_of_nonneg b0]; rfl), by omega, wd, good, by rw [hr0]; simp, com, hfit, out⟩
theorem ok_call_send (T : Txt P w K mg A) : FO P w K mg base A .d_call_send 12 (spCall A.cl K 3) := by
  refine (T.fn .d_call_send).ok sc_call_send (fun vs H Q E h => ?_) (fun cdv Ar outer s H vs Q E hr h => ?_)
  · obtain ⟨xs, q, nl, G, L, s, ak, reps, rfl, _⟩ := h
    rfl
  · obtain ⟨xs, qc, nl, G, L, st, ak, reps, rfl, hm, hq, hnl, wd, good, com, hfit, out⟩ := h
    refine ⟨_, (pss_cons (ps_set (i := 3) sc_call_send.nd rfl (Or.inl rfl) (pe_ix ix_list (pv 2) pe_int (fun _ _ => rfl))) (pss_cons (ps_if (pt_not (pt_val (pe_call (ok_in_range T) (hr.mono (by decide)) rfl T.g_in_range (T.fn .d_in_range).kp (T.bi .d_in_range) .nil pass0 (pa_cons (pv 3) (pa_cons (pe_ic T.k_BUDGET_MOST) pa_nil))))) (pss_one (ps_ret (pe_lst (pa_cons (pe_ic T.k_OUT_OF_RANGE) pa_nil)))) pss_nil) (pss_cons (ps_if (pt_val (pe_meth0 (pv 0) T.c_keep T.m_keep_is_stopped (ok_keep_is_stopped T) (hr.mono (by decide)) (T.bi .d_keep_is_stopped) .nil pass0)) (pss_one (ps_ret (pe_lst (pa_cons (pe_ic T.k_IS_STOPPED) pa_nil)))) pss_nil) (pss_cons (ps_set (i := 4) sc_call_send.nd rfl (Or.inl rfl) (pe_meth (pv 0) T.c_keep T.m_keep_cut_stack (ok_keep_cut_stack T) (hr.mono (by decide)) (T.bi .d_keep_cut_stack) .nil pass0 (pa_cons (pe_ix ix_list (pv 2) pe_int (fun _ _ => rfl)) pa_nil))) (pss_cons (ps_if (pt_cmpR op_isN (pv 4) pe_non (nomark _)) (pss_one (ps_ret (pe_lst (pa_cons (pe_ic T.k_NO_SUCH_STACK) pa_nil)))) pss_nil) (pss_cons (ps_expr (pe_meth (pv 0) T.c_keep T.m_keep_put_on_sending (ok_keep_put_on_sending T) (hr.mono (by decide)) (T.bi .d_keep_put_on_sending) .nil pass0 (pa_cons (pv 4) (pa_cons (pe_ix ix_list (pv 2) pe_int (fun _ _ => rfl)) pa_nil)))) (pss_one (ps_ret (pe_call (ok_run_steps T) (hr.mono (by decide)) rfl T.g_run_steps (T.fn .d_run_steps).kp (T.bi .d_run_steps) .nil pass0 (pa_cons (pv 0) (pa_cons (pv 1) (pa_cons (pv 3) pa_nil)))))))))))), ?_⟩
    obtain ⟨kz, x, b, rfl, rfl⟩ := callOf_3 hm hq
    obtain ⟨dk, hk⟩ := wd.rep.kp
    refine ⟨_, rfl, nl, _, _, _, rfl, rfl, SqL.of hnl.1, atI_nat (j := 2) rfl, ?_⟩
    refine ⟨_, rfl, b, 100000, rfl, _, rfl, ?_⟩
    cases hb : within b 0 100000 with
    | false =>
      have o : OutD A.cl K G H L.kp ak ⟨reps, 0, []⟩ (.done st (only (-8))) Q := by
        simp only [spec, show within b 0 Md35.BUDGET = false from hb, if_true] at out
        exact out
      exact iteT ⟨(by show 1 ≤ sizeLine; decide), fun l hl => (o.told wd good com).one hl⟩
    | true =>
      refine iteF ⟨_, rfl, L.kp, dk, _, rfl, hk, (by kernel_rfl), G, L, ms st, rfl, wd.rep, _, rfl, ?_⟩
      obtain ⟨b0, b1⟩ := within_iff hb
      cases hr0 : st.row with
      | cons r rest =>
        have o : OutD A.cl K G H L.kp ak ⟨reps, 0, []⟩ (.done st (only (-5))) Q := by
          simp only [spec, show within b 0 Md35.BUDGET = true from hb, hr0] at out
          exact out
        rw [show (ms st).row = r :: rest from hr0]
        exact iteT ⟨(by show 1 ≤ sizeLine; decide), fun l hl => (o.told wd good com).one hl⟩
      | nil =>
        rw [show (ms st).row = [] from hr0]
        refine iteF ⟨_, rfl, L.kp, dk, _, rfl, hk, (by kernel_rfl), _, rfl, nl, _, _, _, rfl, rfl, SqL.of hnl.1, atI_nat (j := 0) rfl, kz, G, L, ms st, rfl, wd.rep, good.toWF.mw, fun e => ?_, fun y e hc => ?_, fun y e hc => ?_⟩
        · rw [stA_ms] at e
          have o : OutD A.cl K G H L.kp ak ⟨reps, 0, []⟩ (.done st (only (-2))) Q := by
            simp only [spec, show within b 0 Md35.BUDGET = true from hb, hr0, e] at out
            exact out
          refine ⟨_, rfl, rfl, _, rfl, ?_⟩
          rw [decide_eq_true rfl]
          exact iteT ⟨(by show 1 ≤ sizeLine; decide), fun l hl => (o.told wd good com).one hl⟩
        · rw [show (ms st).row = [] from hr0] at hc
          cases hc
        · rw [stA_ms] at e
          obtain ⟨hy, _⟩ := stA_some e
          have hn : y.number = kz.toNat := num_of hy
          have hMy : (ms st).S kz.toNat = some y := hy
          cases hfy : y.frames with
          | nil => exact absurd hfy (good.live _ _ hy)
          | cons g gs =>
            have ee : spec st (.send kz x b) = run b.toNat 0 (({ st with row := [kz.toNat] } : State).come ⟨if g.place = 0 then 0 else 6, x, 0⟩) := by
              simp only [spec, show within b 0 Md35.BUDGET = true from hb, hr0, e, hn, hfy]
              rfl
            rw [ee] at out hfit
            refine ⟨_, rfl, rfl, _, rfl, ?_⟩
            rw [decide_eq_false (by intro y; cases y)]
            refine iteF ⟨_, rfl, L.kp, dk, _, rfl, hk, (by kernel_rfl), _, rfl, _, rfl, nl, _, _, _, rfl, rfl, SqL.of hnl.1, atI_nat (j := 1) rfl, kz.toNat, x, y, g, gs, G, L, ms st, rfl, wd.rep, hMy, hfy, fun H1 c R1 fx ks1 => ?_⟩
            have R1' : Rep A.cl K H1 G { L with cm := c } (ms { st with row := [kz.toNat] }) := by
              have := R1
              rw [show (ms st).row = [] from hr0] at this
              exact this
            have g1 : Good { st with row := [kz.toNat] } := good.row (by simp) fun q hq => by
              rw [List.mem_singleton.mp hq]
              exact ⟨y, hy⟩
            have w1 : Wd A.cl K H1 G { L with cm := c } { st with row := [kz.toNat] } ak ⟨reps, 0, []⟩ := wd.kst R1' ks1
            have hx1 : ({ st with row := [kz.toNat] } : State).stack kz.toNat = some y := hy
            have ec := come_of (s := { st with row := [kz.toNat] }) rfl hx1 ⟨if g.place = 0 then 0 else 6, x, 0⟩
            have R2 := R1'.came (k := kz.toNat) (x := y) (y := { y with came := ⟨if g.place = 0 then 0 else 6, x, 0⟩ }) hx1 rfl rfl
            rw [← ms_up (y := { y with came := ⟨if g.place = 0 then 0 else 6, x, 0⟩ }) hx1 hn, ← ec] at R2
            have hr2 : (({ st with row := [kz.toNat] } : State).come ⟨if g.place = 0 then 0 else 6, x, 0⟩).row = [kz.toNat] := by rw [ec]; rfl
            have hx2 : (({ st with row := [kz.toNat] } : State).come ⟨if g.place = 0 then 0 else 6, x, 0⟩).stack kz.toNat = some { y with came := ⟨if g.place = 0 then 0 else 6, x, 0⟩ } := by
              rw [ec]
              exact stack_with_same hx1 hn
            refine ⟨_, rfl, _, rfl, _, rfl, b.toNat, G, { L with cm := c }, _, ak, _, (by rw [Int.toNat_of_nonneg b0]; rfl), by omega, ⟨R2, w1.ask, w1.tol⟩, g1.come _, by rw [hr2]; simp, com_of hr2 hx2 fx.came, hfit, out.step (Went.refl _ _) ks1.stay⟩
theorem ok_call_hurl (T : Txt P w K mg A) : FO P w K mg base A .d_call_hurl 12 (spCall A.cl K 4) := by
  refine (T.fn .d_call_hurl).ok sc_call_hurl (fun vs H Q E h => ?_) (fun cdv Ar outer s H vs Q E hr h => ?_)
  · obtain ⟨xs, q, nl, G, L, s, ak, reps, rfl, _⟩ := h
    rfl
  · obtain ⟨xs, qc, nl, G, L, st, ak, reps, rfl, hm, hq, hnl, wd, good, com, hfit, out⟩ := h
    refine ⟨_, (pss_cons (ps_set (i := 3) sc_call_hurl.nd rfl (Or.inl rfl) (pe_ix ix_list (pv 2) pe_int (fun _ _ => rfl))) (pss_cons (ps_set (i := 4) sc_call_hurl.nd rfl (Or.inl rfl) (pe_ix ix_list (pv 2) pe_int (fun _ _ => rfl))) (pss_cons (ps_if (PW.pt (pw_or (pt_not (pt_val (pe_call (ok_in_range T) (hr.mono (by decide)) rfl T.g_in_range (T.fn .d_in_range).kp (T.bi .d_in_range) .nil pass0 (pa_cons (pv 3) (pa_cons (pe_ic T.k_KIND_MOST) pa_nil))))) (pw_or1 (pt_not (pt_val (pe_call (ok_in_range T) (hr.mono (by decide)) rfl T.g_in_range (T.fn .d_in_range).kp (T.bi .d_in_range) .nil pass0 (pa_cons (pv 4) (pa_cons (pe_ic T.k_BUDGET_MOST) pa_nil)))))))) (pss_one (ps_ret (pe_lst (pa_cons (pe_ic T.k_OUT_OF_RANGE) pa_nil)))) pss_nil) (pss_cons (ps_if (pt_val (pe_meth0 (pv 0) T.c_keep T.m_keep_is_stopped (ok_keep_is_stopped T) (hr.mono (by decide)) (T.bi .d_keep_is_stopped) .nil pass0)) (pss_one (ps_ret (pe_lst (pa_cons (pe_ic T.k_IS_STOPPED) pa_nil)))) pss_nil) (pss_cons (ps_set (i := 5) sc_call_hurl.nd rfl (Or.inl rfl) (pe_meth (pv 0) T.c_keep T.m_keep_cut_stack (ok_keep_cut_stack T) (hr.mono (by decide)) (T.bi .d_keep_cut_stack) .nil pass0 (pa_cons (pe_ix ix_list (pv 2) pe_int (fun _ _ => rfl)) pa_nil))) (pss_cons (ps_if (pt_cmpR op_isN (pv 5) pe_non (nomark _)) (pss_one (ps_ret (pe_lst (pa_cons (pe_ic T.k_NO_SUCH_STACK) pa_nil)))) pss_nil) (pss_cons (ps_expr (pe_meth (pv 0) T.c_keep T.m_keep_put_on (ok_keep_put_on T) (hr.mono (by decide)) (T.bi .d_keep_put_on) .nil pass0 (pa_cons (pv 5) pa_nil))) (pss_cons (ps_set (i := 6) sc_call_hurl.nd rfl (Or.inl rfl) (pe_call (ok_throw_on T) (hr.mono (by decide)) rfl T.g_throw_on (T.fn .d_throw_on).kp (T.bi .d_throw_on) .nil pass0 (pa_cons (pv 0) (pa_cons (pv 1) (pa_cons (pe_make T.mk_throw (ok_throw_init T) (hr.mono (by decide)) rfl T.g_Throw (T.bi .d_throw_init) .nil pass0 (pa_cons (pv 3) (pa_cons (pe_ix ix_list (pv 2) pe_int (fun _ _ => rfl)) (pa_cons (pe_lst pa_nil) pa_nil)))) pa_nil))))) (pss_one (ps_ret (pe_ifExp (pt_cmpR op_notN (pv 6) pe_non (nomark _)) (pv 6) (pe_call (ok_run_steps T) (hr.mono (by decide)) rfl T.g_run_steps (T.fn .d_run_steps).kp (T.bi .d_run_steps) .nil pass0 (pa_cons (pv 0) (pa_cons (pv 1) (pa_cons (pv 4) pa_nil))))))))))))))), ?_⟩
    obtain ⟨kz, kd, v, b, rfl, rfl⟩ := callOf_4 hm hq
    obtain ⟨dk, hk⟩ := wd.rep.kp
    refine ⟨_, rfl, nl, _, _, _, rfl, rfl, SqL.of hnl.1, atI_nat (j := 1) rfl, ?_⟩
    refine ⟨_, rfl, nl, _, _, _, rfl, rfl, SqL.of hnl.1, atI_nat (j := 3) rfl, ?_⟩
    have no8 : (within kd 0 255 = false ∨ within b 0 100000 = false) → ∀ l, H l = none → Q (.ref l) (upd H l (.lst [.int (-8)])) := fun h l hl => by
      have o : OutD A.cl K G H L.kp ak ⟨reps, 0, []⟩ (.done st (only (-8))) Q := by
        have h' : within kd 0 255 = false ∨ within b 0 Md35.BUDGET = false := h
        simp only [spec, if_pos h'] at out
        exact out
      exact (o.told wd good com).one hl
    refine ⟨_, rfl, kd, 255, rfl, _, rfl, ?_⟩
    cases hkd : within kd 0 255 with
    | false => exact iteT (iteT ⟨(by show 1 ≤ sizeLine; decide), no8 (.inl hkd)⟩)
    | true =>
      refine iteF ⟨_, rfl, b, 100000, rfl, _, rfl, ?_⟩
      cases hb : within b 0 100000 with
      | false => exact iteT ⟨(by show 1 ≤ sizeLine; decide), no8 (.inr hb)⟩
      | true =>
        have hnot : ¬ (within kd 0 255 = false ∨ within b 0 Md35.BUDGET = false) := by
          rw [hkd, show within b 0 Md35.BUDGET = true from hb]
          simp
        obtain ⟨b0, b1⟩ := within_iff hb
        obtain ⟨k0, k1⟩ := within_iff hkd
        refine iteF ⟨_, rfl, L.kp, dk, _, rfl, hk, (by kernel_rfl), G, L, ms st, rfl, wd.rep, _, rfl, ?_⟩
        cases hr0 : st.row with
        | cons r rest =>
          have o : OutD A.cl K G H L.kp ak ⟨reps, 0, []⟩ (.done st (only (-5))) Q := by
            simp only [spec, if_neg hnot, hr0] at out
            exact out
          rw [show (ms st).row = r :: rest from hr0]
          exact iteT ⟨(by show 1 ≤ sizeLine; decide), fun l hl => (o.told wd good com).one hl⟩
        | nil =>
          rw [show (ms st).row = [] from hr0]
          refine iteF ⟨_, rfl, L.kp, dk, _, rfl, hk, (by kernel_rfl), _, rfl, nl, _, _, _, rfl, rfl, SqL.of hnl.1, atI_nat (j := 0) rfl, kz, G, L, ms st, rfl, wd.rep, good.toWF.mw, fun e => ?_, fun y e hc => ?_, fun y e hc => ?_⟩
          · rw [stA_ms] at e
            have o : OutD A.cl K G H L.kp ak ⟨reps, 0, []⟩ (.done st (only (-2))) Q := by
              simp only [spec, if_neg hnot, hr0, e] at out
              exact out
            refine ⟨_, rfl, rfl, _, rfl, ?_⟩
            rw [decide_eq_true rfl]
            exact iteT ⟨(by show 1 ≤ sizeLine; decide), fun l hl => (o.told wd good com).one hl⟩
          · rw [show (ms st).row = [] from hr0] at hc
            cases hc
          · rw [stA_ms] at e
            obtain ⟨hy, _⟩ := stA_some e
            have hn : y.number = kz.toNat := num_of hy
            have hMy : (ms st).S kz.toNat = some y := hy
            have ee : spec st (.hurl kz kd v b) = unwind st.size { st with row := [kz.toNat] } ⟨kd.toNat, v, []⟩ (run b.toNat 0) := by
              simp only [spec, if_neg hnot, hr0, e, hn]
              rfl
            rw [ee] at out hfit
            refine ⟨_, rfl, rfl, _, rfl, ?_⟩
            rw [decide_eq_false (by intro y; cases y)]
            refine iteF ⟨_, rfl, L.kp, dk, _, rfl, hk, (by kernel_rfl), _, rfl, kz.toNat, y, G, L, ms st, rfl, wd.rep, hMy, fun H1 R1 ks1 => ?_⟩
            have R1' : Rep A.cl K H1 G L (ms { st with row := [kz.toNat] }) := by
              have := R1
              rw [show (ms st).row = [] from hr0] at this
              exact this
            have g1 : Good { st with row := [kz.toNat] } := good.row (by simp) fun q hq => by
              rw [List.mem_singleton.mp hq]
              exact ⟨y, hy⟩
            have w1 : Wd A.cl K H1 G L { st with row := [kz.toNat] } ak ⟨reps, 0, []⟩ := wd.kst R1' ks1
            have hnl1 := hnl.stay ks1.stay
            refine ⟨_, rfl, _, rfl, _, rfl, _, rfl, nl, _, _, _, rfl, rfl, SqL.of hnl1.1, atI_nat (j := 2) rfl, (by show 0 ≤ sizeLine; decide), fun ca hca => ?_⟩
            intro tx tdx ntx ntdx nex
            refine ⟨tx, tdx, ca, kd.toNat, v, (by rw [Int.toNat_of_nonneg k0]; rfl), upd_same, fun H2 h1 h2 => ⟨rfl, ?_⟩⟩
            have s1 : Same (upd H1 ca (.lst [])) H2 := Same.made ntx ntdx h2
            have s0 : Same H1 H2 := (Same.new hca).trans s1
            have nct : ca ≠ tx := ne_of_none upd_same ntx
            have tx0 : H1 tx = none := by
              rw [upd_ne nct.symm] at ntx
              exact ntx
            have hth : ThAt A.cl H2 G (.ref tx) ⟨kd.toNat, v, []⟩ := ⟨tx, tdx, ca, [], rfl, ⟨h1, w1.dom.free tx0⟩, ⟨s1 _ _ upd_same, w1.dom.free hca⟩, .nil, Nat.zero_le _⟩
            have w2 := w1.same s0
            have st2 := ks1.stay.trans (Same.stay (G := G) s0)
            have o2 := out.step (Went.refl _ _) st2
            refine ⟨st.size, _, run b.toNat 0, G, L, { st with row := [kz.toNat] }, ak, _, _, rfl, w2, g1, hth, Nat.le_refl _, hfit, fun H3 G3 L3 s3 S3 went3 w3 g3 r3 com3 st3 kp3 => ?_, fun H3 G3 L3 s3 S3 a l went3 w3 g3 r3 st3 kp3 hl gl => ?_⟩
            · refine ⟨_, rfl, rfl, _, rfl, ?_⟩
              rw [decide_eq_true rfl]
              refine iteF ⟨_, rfl, _, rfl, _, rfl, b.toNat, G3, L3, s3, ak, S3, (by rw [Int.toNat_of_nonneg b0, kp3]; rfl), by omega, w3, g3, r3, com3, went3.fits hfit, ?_⟩
              rw [kp3]
              exact o2.step went3 st3
            · refine ⟨_, rfl, rfl, _, rfl, ?_⟩
              rw [decide_eq_false (by intro y; cases y)]
              exact iteT ⟨_, rfl, o2 H3 G3 L3 s3 S3 a l went3 w3 g3 (com_nil r3) st3 kp3 hl gl⟩
theorem ok_call_end (T : Txt P w K mg A) : FO P w K mg base A .d_call_end 8 (spCall A.cl K 5) := by
  refine (T.fn .d_call_end).ok sc_call_end (fun vs H Q E h => ?_) (fun cdv Ar outer s H vs Q E hr h => ?_)
  · obtain ⟨xs, q, nl, G, L, s, ak, reps, rfl, _⟩ := h
    rfl
  · obtain ⟨xs, qc, nl, G, L, st, ak, reps, rfl, hm, hq, hnl, wd, good, com, hfit, out⟩ := h
    refine ⟨_, (pss_cons (ps_if (pt_val (pe_meth0 (pv 0) T.c_keep T.m_keep_is_stopped (ok_keep_is_stopped T) (hr.mono (by decide)) (T.bi .d_keep_is_stopped) .nil pass0)) (pss_one (ps_ret (pe_lst (pa_cons (pe_ic T.k_IS_STOPPED) pa_nil)))) pss_nil) (pss_cons (ps_set (i := 3) sc_call_end.nd rfl (Or.inl rfl) (pe_meth (pv 0) T.c_keep T.m_keep_cut_stack (ok_keep_cut_stack T) (hr.mono (by decide)) (T.bi .d_keep_cut_stack) .nil pass0 (pa_cons (pe_ix ix_list (pv 2) pe_int (fun _ _ => rfl)) pa_nil))) (pss_cons (ps_if (pt_cmpR op_isN (pv 3) pe_non (nomark _)) (pss_one (ps_ret (pe_lst (pa_cons (pe_ic T.k_NO_SUCH_STACK) pa_nil)))) pss_nil) (pss_cons (ps_set (i := 4) sc_call_end.nd rfl (Or.inl rfl) (pe_call (ok_end_stack T) (hr.mono (by decide)) rfl T.g_end_stack (T.fn .d_end_stack).kp (T.bi .d_end_stack) .nil pass0 (pa_cons (pv 0) (pa_cons (pv 1) (pa_cons (pv 3) pa_nil))))) (pss_cons (ps_if (pt_truth (pv 4) (fun _ => rfl)) (pss_one (ps_fld (pv 0) (pe_call (ok_joined T) (hr.mono (by decide)) rfl T.g_joined (T.fn .d_joined).kp (T.bi .d_joined) .nil pass0 (pa_cons (pv 4) pa_nil)) rfl)) pss_nil) (pss_one (ps_ret (pe_lst (pa_cons pe_int (pa_cons (pe_callB call_len_seq (by rfl) T.b_len PySem.boot_len (pa_cons (pv 4) pa_nil)) pa_nil)))))))))), ?_⟩
    obtain ⟨kz, rfl, rfl⟩ := callOf_5 hm hq
    obtain ⟨dk, hk⟩ := wd.rep.kp
    refine ⟨_, rfl, L.kp, dk, _, rfl, hk, (by kernel_rfl), G, L, ms st, rfl, wd.rep, _, rfl, ?_⟩
    cases hr0 : st.row with
    | cons r rest =>
      have o : OutD A.cl K G H L.kp ak ⟨reps, 0, []⟩ (.done st (only (-5))) Q := by
        simp only [spec, hr0] at out
        exact out
      rw [show (ms st).row = r :: rest from hr0]
      exact iteT ⟨(by show 1 ≤ sizeLine; decide), fun l hl => (o.told wd good com).one hl⟩
    | nil =>
      rw [show (ms st).row = [] from hr0]
      refine iteF ⟨_, rfl, L.kp, dk, _, rfl, hk, (by kernel_rfl), _, rfl, nl, _, _, _, rfl, rfl, SqL.of hnl.1, atI_nat (j := 0) rfl, kz, G, L, ms st, rfl, wd.rep, good.toWF.mw, fun e => ?_, fun y e hc => ?_, fun y e hc => ?_⟩
      · rw [stA_ms] at e
        have o : OutD A.cl K G H L.kp ak ⟨reps, 0, []⟩ (.done st (only (-2))) Q := by
          simp only [spec, hr0, e] at out
          exact out
        refine ⟨_, rfl, rfl, _, rfl, ?_⟩
        rw [decide_eq_true rfl]
        exact iteT ⟨(by show 1 ≤ sizeLine; decide), fun l hl => (o.told wd good com).one hl⟩
      · rw [show (ms st).row = [] from hr0] at hc
        cases hc
      · rw [stA_ms] at e
        obtain ⟨hy, _⟩ := stA_some e
        have hn : y.number = kz.toNat := num_of hy
        have hMy : (ms st).S kz.toNat = some y := hy
        obtain ⟨kk, hkk⟩ : ∃ kk : State → List Throw → Md35.P, kk = fun u ts => .done { u with uncaught := (gathered ts).orElse fun _ => u.uncaught } ⟨0, [(ts.length : Int)]⟩ := ⟨_, rfl⟩
        have ee : spec st (.end_ kz) = ending st.size st kz.toNat [] kk := by
          simp only [spec, hr0, e, hn]
          rw [hkk]
          rfl
        rw [ee] at out hfit
        refine ⟨_, rfl, rfl, _, rfl, ?_⟩
        rw [decide_eq_false (by intro y; cases y)]
        refine iteF ⟨_, rfl, _, rfl, _, rfl, st.size, kz.toNat, y, kk, G, L, st, ak, _, rfl, wd, good, by rw [hr0]; simp, hy, Nat.le_refl _, hfit, fun H1 G1 L1 s1 S1 l us ts went1 w1 g1 r1 hl1 thr1 st1 kp1 hts1 => ?_⟩
        have hul : us.length = ts.length := by
          have := Paired.length thr1
          rw [List.length_reverse] at this
          exact this
        have row1 : s1.row = [] := r1.trans hr0
        refine ⟨_, rfl, _, .inl ⟨_, SqL.of hl1, rfl⟩, ?_⟩
        cases hg : gathered ts with
        | none =>
          have hts : ts = [] := by
            cases ts with
            | nil => rfl
            | cons a b => cases hg
          have hus : us = [] := by
            rw [hts] at hul
            exact List.length_eq_zero_iff.mp hul
          subst hts
          subst hus
          refine iteF ⟨_, rfl, l, _, rfl, .inl (SqL.of hl1), (by show 2 ≤ sizeLine; decide), fun l2 hl2 => ?_⟩
          have went2 : Went ⟨reps, 0, []⟩ (ending st.size st kz.toNat [] kk) S1 (.done s1 ⟨0, [0]⟩) := by
            have e2 : kk s1 [] = .done s1 ⟨0, [0]⟩ := by rw [hkk]; rfl
            rw [← e2]
            exact went1
          exact out _ G1 L1 s1 S1 ⟨0, [0]⟩ l2 went2 (w1.same (Same.new hl2)) g1 (com_nil row1) (st1.trans (Same.stay (Same.new hl2))) kp1.kp upd_same (w1.rep.free hl2)
        | some t =>
          have hne : (!us.isEmpty) = true := by
            cases us with
            | nil =>
              cases ts with
              | nil => cases hg
              | cons a b => simp at hul
            | cons a b => rfl
          rw [hne]
          refine iteT ⟨_, rfl, l, us, ts, t, G1, rfl, hl1, w1.dom, thr1, hg, fun v H2 th2 s2 => ?_⟩
          have w2 := w1.same s2
          obtain ⟨dk2, hk2⟩ := w2.rep.kp
          rw [kp1.kp] at hk2
          refine ⟨_, rfl, L.kp, _, dk2, _, rfl, hk2, T.c_keep, T.n_keep_uncaught, (by show 5 < 1000; decide), ?_⟩
          rw [kf_puncaught]
          have R3 : Rep A.cl K (upd H2 L.kp (.ins A.cl.keep dk2 (kf L1.sl L1.tl (runV L1 (ms s1).row) L1.cm v))) G1 { L1 with un := v } (ms { s1 with uncaught := some t }) := by
            have := w2.rep.setun (dx := dk2) (v := v) (t := some t) th2
            rw [← kp1.kp]
            exact this
          have ks3 : Kst G1 H2 G1 (upd H2 L.kp (.ins A.cl.keep dk2 (kf L1.sl L1.tl (runV L1 (ms s1).row) L1.cm v))) := Kst.upd (r := .kp) (by rw [← kp1.kp]; exact (w2.rep.own .kp _ rfl).1) rfl
          have w3 : Wd A.cl K _ G1 { L1 with un := v } { s1 with uncaught := some t } ak S1 := w2.kst R3 ks3
          have hl3 : H2 l = some (.lst us) := s2 _ _ hl1
          have nlk : l ≠ L.kp := ne_of hl3 hk2 (by intro z; cases z)
          refine ⟨_, rfl, l, _, rfl, .inl (SqL.of (by rw [upd_ne nlk]; exact hl3)), (by show 2 ≤ sizeLine; decide), fun l2 hl2 => ?_⟩
          have went3 : Went ⟨reps, 0, []⟩ (ending st.size st kz.toNat [] kk) S1 (.done { s1 with uncaught := some t } ⟨0, [(ts.length : Int)]⟩) := by
            have e2 : kk s1 ts = .done { s1 with uncaught := some t } ⟨0, [(ts.length : Int)]⟩ := by
              rw [hkk]
              show Given.Prog.done ({ s1 with uncaught := (gathered ts).orElse fun _ => s1.uncaught } : State) _ = _
              rw [hg]
              rfl
            rw [← e2]
            exact went1
          refine out _ G1 { L1 with un := v } { s1 with uncaught := some t } S1 ⟨0, [(ts.length : Int)]⟩ l2 went3 (w3.same (Same.new hl2)) (g1.unc _) (com_nil row1) (st1.trans ((Same.stay s2).trans (ks3.stay.trans (Same.stay (Same.new hl2))))) kp1.kp ?_ (w3.rep.free hl2)
          rw [upd_same, hul]
          rfl
theorem ok_call_go (T : Txt P w K mg A) : FO P w K mg base A .d_call_go 12 (spCall A.cl K 2) := by
  refine (T.fn .d_call_go).ok sc_call_go (fun vs H Q E h => ?_) (fun cdv Ar outer s H vs Q E hr h => ?_)
  · obtain ⟨xs, q, nl, G, L, s, ak, reps, rfl, _⟩ := h
    rfl
  · obtain ⟨xs, qc, nl, G, L, st, ak, reps, rfl, hm, hq, hnl, wd, good, com, hfit, out⟩ := h
    refine ⟨_, (pss_cons (ps_set (i := 3) sc_call_go.nd rfl (Or.inl rfl) (pe_ix ix_list (pv 2) pe_int (fun _ _ => rfl))) (pss_cons (ps_if (PW.pt (pw_or (pt_not (pt_val (pe_call (ok_in_range T) (hr.mono (by decide)) rfl T.g_in_range (T.fn .d_in_range).kp (T.bi .d_in_range) .nil pass0 (pa_cons (pe_ix ix_list (pv 2) pe_int (fun _ _ => rfl)) (pa_cons (pe_ic T.k_FUNCTION_MOST) pa_nil))))) (pw_or1 (pt_not (pt_val (pe_call (ok_in_range T) (hr.mono (by decide)) rfl T.g_in_range (T.fn .d_in_range).kp (T.bi .d_in_range) .nil pass0 (pa_cons (pv 3) (pa_cons (pe_ic T.k_BUDGET_MOST) pa_nil)))))))) (pss_one (ps_ret (pe_lst (pa_cons (pe_ic T.k_OUT_OF_RANGE) pa_nil)))) pss_nil) (pss_cons (ps_if (pt_val (pe_meth0 (pv 0) T.c_keep T.m_keep_is_stopped (ok_keep_is_stopped T) (hr.mono (by decide)) (T.bi .d_keep_is_stopped) .nil pass0)) (pss_one (ps_ret (pe_lst (pa_cons (pe_ic T.k_IS_STOPPED) pa_nil)))) pss_nil) (pss_cons (ps_set (i := 4) sc_call_go.nd rfl (Or.inl rfl) (pe_meth (pv 0) T.c_keep T.m_keep_add_stack (ok_keep_add_stack T) (hr.mono (by decide)) (T.bi .d_keep_add_stack) .nil pass0 (pa_cons (pe_ix ix_list (pv 2) pe_int (fun _ _ => rfl)) pa_nil))) (pss_cons (ps_if (pt_cmpR op_isN (pv 4) pe_non (nomark _)) (pss_one (ps_ret (pe_lst (pa_cons (pe_ic T.k_NO_ROOM) pa_nil)))) pss_nil) (pss_cons (ps_expr (pe_meth (pv 0) T.c_keep T.m_keep_put_on_sending (ok_keep_put_on_sending T) (hr.mono (by decide)) (T.bi .d_keep_put_on_sending) .nil pass0 (pa_cons (pv 4) (pa_cons (pe_ix ix_list (pv 2) pe_int (fun _ _ => rfl)) pa_nil)))) (pss_one (ps_ret (pe_call (ok_run_steps T) (hr.mono (by decide)) rfl T.g_run_steps (T.fn .d_run_steps).kp (T.bi .d_run_steps) .nil pass0 (pa_cons (pv 0) (pa_cons (pv 1) (pa_cons (pv 3) pa_nil)))))))))))), ?_⟩
    obtain ⟨fz, x, b, rfl, rfl⟩ := callOf_2 hm hq
    obtain ⟨dk, hk⟩ := wd.rep.kp
    refine ⟨_, rfl, nl, _, _, _, rfl, rfl, SqL.of hnl.1, atI_nat (j := 2) rfl, ?_⟩
    have no8 : (within fz 0 65535 = false ∨ within b 0 100000 = false) → ∀ l, H l = none → Q (.ref l) (upd H l (.lst [.int (-8)])) := fun h l hl => by
      have o : OutD A.cl K G H L.kp ak ⟨reps, 0, []⟩ (.done st (only (-8))) Q := by
        have h' : within fz 0 65535 = false ∨ within b 0 Md35.BUDGET = false := h
        simp only [spec, if_pos h'] at out
        exact out
      exact (o.told wd good com).one hl
    refine ⟨_, rfl, nl, _, _, _, rfl, rfl, SqL.of hnl.1, atI_nat (j := 0) rfl, fz, 65535, rfl, _, rfl, ?_⟩
    cases hfz : within fz 0 65535 with
    | false => exact iteT (iteT ⟨(by show 1 ≤ sizeLine; decide), no8 (.inl hfz)⟩)
    | true =>
      refine iteF ⟨_, rfl, b, 100000, rfl, _, rfl, ?_⟩
      cases hb : within b 0 100000 with
      | false => exact iteT ⟨(by show 1 ≤ sizeLine; decide), no8 (.inr hb)⟩
      | true =>
        have hnot : ¬ (within fz 0 65535 = false ∨ within b 0 Md35.BUDGET = false) := by
          rw [hfz, show within b 0 Md35.BUDGET = true from hb]
          simp
        obtain ⟨b0, b1⟩ := within_iff hb
        obtain ⟨f0, f1⟩ := within_iff hfz
        refine iteF ⟨_, rfl, L.kp, dk, _, rfl, hk, (by kernel_rfl), G, L, ms st, rfl, wd.rep, _, rfl, ?_⟩
        cases hr0 : st.row with
        | cons r rest =>
          have o : OutD A.cl K G H L.kp ak ⟨reps, 0, []⟩ (.done st (only (-5))) Q := by
            simp only [spec, if_neg hnot, hr0] at out
            exact out
          rw [show (ms st).row = r :: rest from hr0]
          exact iteT ⟨(by show 1 ≤ sizeLine; decide), fun l hl => (o.told wd good com).one hl⟩
        | nil =>
          rw [show (ms st).row = [] from hr0]
          have no4 : st.begin_ fz.toNat ⟨0, x, 0⟩ = none → ∀ l, H l = none → Q (.ref l) (upd H l (.lst [.int (-4)])) := fun h l hl => by
            have o : OutD A.cl K G H L.kp ak ⟨reps, 0, []⟩ (.done st (only (-4))) Q := by
              simp only [spec, if_neg hnot, hr0, h] at out
              exact out
            exact (o.told wd good com).one hl
          refine iteF ⟨_, rfl, L.kp, dk, _, rfl, hk, (by kernel_rfl), _, rfl, nl, _, _, _, rfl, rfl, SqL.of hnl.1, atI_nat (j := 0) rfl, fz.toNat, G, L, ms st, (by rw [Int.toNat_of_nonneg f0]; rfl), wd.rep, good.toWF.mw, fun q hq => ?_, fun hall => ?_, fun hall => ?_, fun kk p hk64 hs hbef hp hpf hpb H1 G1 L1 R1 ks1 kp1 => ?_⟩
          · obtain ⟨y, hy⟩ := good.rin q hq
            rw [show (ms st).S q = some y from hy]
            rfl
          · refine ⟨_, rfl, rfl, _, rfl, ?_⟩
            rw [decide_eq_true rfl]
            exact iteT ⟨(by show 1 ≤ sizeLine; decide), no4 (begin_no1 hall)⟩
          · refine ⟨_, rfl, rfl, _, rfl, ?_⟩
            rw [decide_eq_true rfl]
            exact iteT ⟨(by show 1 ≤ sizeLine; decide), no4 (begin_no2 (piece_no good.toWF hall))⟩
          · have hpc := piece_yes good.toWF hp hpf hpb
            have eb := begin_of (f := fz.toNat) (c := ⟨0, x, 0⟩) hk64 hs (fun j hj => isSome_of (hbef j hj)) hpc
            obtain ⟨g1, r1, _, _⟩ := good.begin_ eb
            have em := ms_insert (s := st) (x := ⟨kk, [{ fn := fz.toNat }], [p], ⟨0, x, 0⟩⟩) hs
            have R1' := R1 ⟨0, x, 0⟩
            have hx1 : ((ms st).up kk (some ⟨kk, [{ fn := fz.toNat }], [p], ⟨0, x, 0⟩⟩)).S kk = some ⟨kk, [{ fn := fz.toNat }], [p], ⟨0, x, 0⟩⟩ := up_S
            have ee : spec st (.go fz x b) = run b.toNat 0 { ({ st with stacks := Md35.insertStack ⟨kk, [{ fn := fz.toNat }], [p], ⟨0, x, 0⟩⟩ st.stacks } : State) with row := [kk] } := by
              simp only [spec, if_neg hnot, hr0, eb]
              rfl
            rw [ee] at out hfit
            refine ⟨_, rfl, rfl, _, rfl, ?_⟩
            rw [decide_eq_false (by intro y; cases y)]
            have hnl1 := hnl.stay ks1.stay
            obtain ⟨dk1, hk1⟩ := R1'.kp
            rw [kp1.kp] at hk1
            refine iteF ⟨_, rfl, L.kp, dk1, _, rfl, hk1, (by kernel_rfl), _, rfl, _, rfl, nl, _, _, _, rfl, rfl, SqL.of hnl1.1, atI_nat (j := 1) rfl, kk, x, _, { fn := fz.toNat }, [], G1, L1, _, (by rw [kp1.kp]; rfl), R1', hx1, rfl, fun H2 c R2 fx ks2 => ?_⟩
            have R2' : Rep A.cl K H2 G1 { L1 with cm := c } (ms { ({ st with stacks := Md35.insertStack ⟨kk, [{ fn := fz.toNat }], [p], ⟨0, x, 0⟩⟩ st.stacks } : State) with row := [kk] }) := by
              have e3 : ms { ({ st with stacks := Md35.insertStack ⟨kk, [{ fn := fz.toNat }], [p], ⟨0, x, 0⟩⟩ st.stacks } : State) with row := [kk] } = { (ms st).up kk (some ⟨kk, [{ fn := fz.toNat }], [p], ⟨0, x, 0⟩⟩) with row := [kk] } := by
                rw [ms_row, em]
              rw [e3]
              have := R2
              rw [show ((ms st).up kk (some ⟨kk, [{ fn := fz.toNat }], [p], ⟨0, x, 0⟩⟩)).row = [] from hr0] at this
              exact this
            have hxk : ({ st with stacks := Md35.insertStack ⟨kk, [{ fn := fz.toNat }], [p], ⟨0, x, 0⟩⟩ st.stacks } : State).stack kk = some ⟨kk, [{ fn := fz.toNat }], [p], ⟨0, x, 0⟩⟩ := by
              rw [insert_stack (s := st) (x := ⟨kk, [{ fn := fz.toNat }], [p], ⟨0, x, 0⟩⟩) hs, if_pos rfl]
            have g2 : Good { ({ st with stacks := Md35.insertStack ⟨kk, [{ fn := fz.toNat }], [p], ⟨0, x, 0⟩⟩ st.stacks } : State) with row := [kk] } := g1.row (by simp) fun q hq => by
              rw [List.mem_singleton.mp hq]
              exact ⟨_, hxk⟩
            have ks3 := ks1.trans ks2
            refine ⟨_, rfl, _, rfl, _, rfl, b.toNat, G1, { L1 with cm := c }, _, ak, _, (by rw [Int.toNat_of_nonneg b0, ← kp1.kp]; rfl), by omega, wd.kst R2' ks3, g2, by simp, com_of rfl hxk fx.came, hfit, ?_⟩
            show OutD A.cl K G1 H2 L1.kp ak _ _ Q
            rw [kp1.kp]
            exact out.step (Went.refl _ _) ks3.stay
end
end Th
namespace Th
open PySem PySem.Spec PyProof.Rows L2
open Md35 (State Stack Throw Came Ans P spec only)
open Md35Neutral (callOf many)
def callD : Int → Df
  | 1 => .d_call_new
  | 2 => .d_call_go
  | 3 => .d_call_send
  | 4 => .d_call_hurl
  | 5 => .d_call_end
  | 6 => .d_call_on
  | 7 => .d_call_frames
  | 8 => .d_call_acts
  | 9 => .d_call_row
  | 10 => .d_call_pieces
  | _ => .d_call_causes
def spHow : Sp := fun vs H Q _ => ∃ (p : Int) (n : Nat), vs = [.int p] ∧ many p = some n ∧ Q (.int (n : Int)) H
def spDoCall (T : Cl) (K : PySem.W.Frag) : Sp := fun vs H Q _ => ∃ (p : Int) (xs : List Int) (q : Md35.Call) (nl : Addr) (G : Gh) (L : Lay) (s : State) (ak : Addr) (reps : List Int), vs = [.ref L.kp, .ref ak, .int p, .ref nl] ∧ many p = some xs.length ∧ callOf (p :: xs) = some q ∧ Fx H G nl (.lst (xs.map V.int)) ∧ Wd T K H G L s ak ⟨reps, 0, []⟩ ∧ Good s ∧ Com K H G L (ms s) ∧
  Fits ⟨reps, 0, []⟩ (spec s q) ∧ OutD T K G H L.kp ak ⟨reps, 0, []⟩ (spec s q) Q
section
variable {P : Program} {w : World} {K : PySem.W.Frag} {mg : Str → Option Value} {base : Heap} {A : Ad}
theorem ok_how_many_numbers (T : Txt P w K mg A) : FO P w K mg base A .d_how_many_numbers 1 (spHow) := by
  refine (T.fn .d_how_many_numbers).ok sc_how_many_numbers (fun vs H Q E h => ?_) (fun cdv Ar outer s H vs Q E hr h => ?_)
  · obtain ⟨p, n, rfl, _⟩ := h
    rfl
  · obtain ⟨p, n, rfl, hm, q⟩ := h
    refine ⟨_, (pss_one (ps_ret (pe_kd (pe_glob (v := V.ref A.numb) rfl T.g_NUMBERS rfl) (pv 0) (fun _ _ => rfl)))), ?_⟩
    obtain ⟨ts, hl, kd⟩ := T.t_NUMBERS
    match ts, hl with
    | [t1, t2, t3, t4, t5, t6, t7, t8, t9, t10, t11], _ =>
      rcases many_in hm with h | h | h | h | h | h | h | h | h | h | h
      all_goals
        obtain ⟨rfl, rfl⟩ := h
        exact ⟨_, rfl, A.numb, _, _, V.int _, _, rfl, rfl, kd, rfl, ⟨_, rfl⟩, q⟩
theorem F_CALLS (T : Txt P w K mg A) (p : Int) : ∀ f : Addr, ((∃ n, many p = some n) ∧ f = A.f (callD p)) → ∃ fd ps, FnOk P w K mg base CX0 12 f fd ps (spCall A.cl K p) ∧ PySem.W.keepIn K (.ref f) = true ∧ Binds K fd ps [] := by
  rintro f ⟨⟨n, hn⟩, rfl⟩
  rcases many_in hn with h | h | h | h | h | h | h | h | h | h | h <;> obtain ⟨rfl, _⟩ := h
  · exact FO.wok T (ok_call_new T) (by decide)
  · exact FO.wok T (ok_call_go T) (by decide)
  · exact FO.wok T (ok_call_send T) (by decide)
  · exact FO.wok T (ok_call_hurl T) (by decide)
  · exact FO.wok T (ok_call_end T) (by decide)
  · exact FO.wok T (ok_call_on T) (by decide)
  · exact FO.wok T (ok_call_frames T) (by decide)
  · exact FO.wok T (ok_call_acts T) (by decide)
  · exact FO.wok T (ok_call_row T) (by decide)
  · exact FO.wok T (ok_call_pieces T) (by decide)
  · exact FO.wok T (ok_call_causes T) (by decide)
theorem ok_do_call (T : Txt P w K mg A) : FO P w K mg base A .d_do_call 13 (spDoCall A.cl K) := by
  refine (T.fn .d_do_call).ok sc_do_call (fun vs H Q E h => ?_) (fun cdv Ar outer s H vs Q E hr h => ?_)
  · obtain ⟨p, xs, q, nl, G, L, s, ak, reps, rfl, _⟩ := h
    rfl
  · obtain ⟨p, xs, qc, nl, G, L, st, ak, reps, rfl, hm, hq, hnl, wd, good, com, hfit, out⟩ := h
    refine ⟨_, (pss_one (ps_ret (pe_callV (pe_kd (pe_glob (v := V.ref A.calls) rfl T.g_CALLS rfl) (pv 2) (fun _ _ => rfl)) (F_CALLS T p) (hr.mono (by decide)) (pa_cons (pv 0) (pa_cons (pv 1) (pa_cons (pv 3) pa_nil)))))), ?_⟩
    have hn := hm
    have fin : spCall A.cl K p [.ref L.kp, .ref ak, .ref nl] H Q E0 := ⟨xs, qc, nl, G, L, st, ak, reps, rfl, hm, hq, hnl, wd, good, com, hfit, out⟩
    rcases many_in hn with h | h | h | h | h | h | h | h | h | h | h
    all_goals
      obtain ⟨rfl, _⟩ := h
      exact ⟨_, rfl, A.calls, _, _, V.ref _, _, rfl, rfl, T.t_CALLS, rfl, rfl, _, rfl, ⟨⟨_, hn⟩, rfl⟩, _, rfl, _, rfl, _, rfl, fin⟩
end
end Th
namespace Th
open PySem PySem.Spec PyProof.Rows L2
open Md35 (State Stack Throw Came Ans P spec only)
open Md35Neutral (callOf many few step asked1)
theorem put_append : ∀ xs ys : List (List (List Int)), PyFlat.put (xs ++ ys) = PyFlat.put xs ++ PyFlat.put ys
  | [], _ => rfl
  | x :: xs, ys => by
    show PyFlat.put1 x ++ PyFlat.put (xs ++ ys) = (PyFlat.put1 x ++ PyFlat.put xs) ++ PyFlat.put ys
    rw [put_append xs ys, List.append_assoc]
theorem call_parts {c : List (List Int)} (h : PyFlat.okCall PyMd35.shape c) : ∃ p a reps q, c = [p :: a, reps] ∧ many p = some a.length ∧ callOf (p :: a) = some q := by
  obtain ⟨p, a, reps, rfl, hm⟩ := parts h
  obtain ⟨q, hq⟩ := callOf_parts hm
  exact ⟨p, a, reps, q, rfl, hm, hq⟩
theorem cut_mid {A B C : List V} {lo hi : Int} (hl : lo = (A.length : Int)) (hh : hi = ((A.length + B.length : Nat) : Int)) : cutV (A ++ B ++ C) (some lo) (some hi) = B := by
  subst hl hh
  unfold cutV
  rw [HT.sIx_nat, HT.sIx_nat]
  have e1 : min A.length (A ++ B ++ C).length = A.length := by simp
  have e2 : min (A.length + B.length) (A ++ B ++ C).length = A.length + B.length := by simp
  rw [e1, e2, List.append_assoc, List.drop_left, Nat.add_sub_cancel_left, List.take_left]
/-- the calls as they were handed in -/
def CallsAt (K : PySem.W.Frag) (H : Hp) (G : Gh) (a : Addr) (xs : List V) : Prop :=
  Fx H G a (.lst xs) ∨ (∃ o, Fx H G a (.frz o (.lst xs))) ∨ ∀ H' : Hp, SqL K H' a xs
theorem CallsAt.sq {K : PySem.W.Frag} {H : Hp} {G : Gh} {a : Addr} {xs : List V} (h : CallsAt K H G a xs) : SqL K H a xs := by
  rcases h with h | ⟨o, h⟩ | h
  · exact .inl (.inl h.1)
  · exact .inl (.inr ⟨o, h.1⟩)
  · exact h H
theorem CallsAt.stay {K : PySem.W.Frag} {H H' : Hp} {G G' : Gh} {a : Addr} {xs : List V} (h : CallsAt K H G a xs) (z : Stay G H G' H') : CallsAt K H' G' a xs := by
  rcases h with h | ⟨o, h⟩ | h
  · exact .inl (h.stay z)
  · exact .inr (.inl ⟨o, h.stay z⟩)
  · exact .inr (.inr h)
def spAnswers (K : PySem.W.Frag) : Sp := fun vs H Q _ => ∃ (a : Addr) (ns : List Int), vs = [.ref a] ∧ ns.length ≤ 30000 ∧ PyMd35.answers_asked ns = true ∧ SqL K H a (ns.map V.int) ∧ ∀ (H' : Hp) (p : Addr), H' p = some (.lst ((PyMd35.answers ns).map V.int)) → Q (.ref p) H'
/-- what a call answers, by its numbers -/
def ansOf (s : State) (c : List (List Int)) : List Int := (step s c).2
theorem told_cons (s : State) (c : List (List Int)) (r : List (List (List Int))) : PyFlat.told (PyFlat.played step s (c :: r)) = ((ansOf s c).length : Int) :: (ansOf s c ++ PyFlat.told (PyFlat.played step (step s c).1 r)) := by
  show (((ansOf s c) :: PyFlat.played step (step s c).1 r).flatMap fun a => (a.length : Int) :: a) = _
  rw [List.flatMap_cons]
  rfl
theorem few_cons {n : Nat} {s : State} {c : List (List Int)} {r : List (List (List Int))} (h : few n s (c :: r) = true) : few (n + (ansOf s c).length) (step s c).1 r = true ∧ n + (ansOf s c).length < 1000000 := ⟨h, few_lt r _ _ h⟩
theorem fits_of {s : State} {a reps : List Int} {q : Md35.Call} (hq : callOf a = some q) (h : (ansOf s [a, reps]).length ≤ 1000000) : Fits ⟨reps, 0, []⟩ (spec s q) := by
  unfold Fits
  have e : ansOf s [a, reps] = _ := congrArg Prod.snd (step_of (s := s) (reps := reps) hq)
  rw [e] at h
  simp only [List.length_cons, List.length_append, flat_length] at h
  show 0 + 6 * ((spec s q).played (reps.drop 0)).2.2.1.length ≤ 1000000
  rw [List.drop_zero]
  omega
theorem Fx.own {H : Hp} {G : Gh} {l a : Addr} {o u : HO} (z : Fx H G a u) (g : G l = some .res) : Fx (upd H l o) G a u := ⟨by
  rw [upd_ne (fun e => by
    have := z.2
    rw [e, g] at this
    cases this)]
  exact z.1, z.2⟩
theorem Com.own {K : PySem.W.Frag} {H : Hp} {G : Gh} {L : Lay} {M : MS} {l : Addr} {o : HO} (c : Com K H G L M) (g : G l = some .res) : Com K (upd H l o) G L M := fun r x e hx => by
  rcases c r x e hx with h | h
  · exact .inl (h.own g)
  · exact .inr h
theorem CallsAt.own {K : PySem.W.Frag} {H : Hp} {G : Gh} {a l : Addr} {o : HO} {xs : List V} (h : CallsAt K H G a xs) (g : G l = some .res) : CallsAt K (upd H l o) G a xs := by
  rcases h with h | ⟨o', h⟩ | h
  · exact .inl (h.own g)
  · exact .inr (.inl ⟨o', h.own g⟩)
  · exact .inr (.inr h)
section
variable {P : Program} {w : World} {K : PySem.W.Frag} {mg : Str → Option Value} {base : Heap} {A : Ad}
theorem ok_answers (T : Txt P w K mg A) : FO P w K mg base A .d_answers 14 (spAnswers K) := by
  refine (T.fn .d_answers).ok sc_answers (fun vs H Q E h => ?_) (fun cdv Ar outer s H vs Q E hr h => ?_)
  · obtain ⟨a, ns, rfl, _⟩ := h
    rfl
  · obtain ⟨a, ns, rfl, hlen, hask, hsq, q⟩ := h
    refine ⟨_, (pss_cons (ps_set (i := 1) sc_answers.nd rfl (Or.inl rfl) (pe_make0 T.mk_keep (ok_keep_init T) (hr.mono (by decide)) rfl T.g_Keep (T.bi .d_keep_init) .nil pass0)) (pss_cons (ps_set (i := 2) sc_answers.nd rfl (Or.inl rfl) (pe_lst pa_nil)) (pss_cons (ps_set (i := 3) sc_answers.nd rfl (Or.inl rfl) pe_int) (pss_cons (ps_while PassesOwn.never (pt_cmpR op_lt (pv 3) (pe_callB call_len_seq (by rfl) T.b_len PySem.boot_len (pa_cons (pv 0) pa_nil)) (nomark _)) (pss_cons (ps_set (i := 4) sc_answers.nd rfl (Or.inl rfl) (pe_op op_add (pe_op op_add (pv 3) pe_int) (pe_call (ok_how_many_numbers T) (hr.mono (by decide)) rfl T.g_how_many_numbers (T.fn .d_how_many_numbers).kp (T.bi .d_how_many_numbers) .nil pass0 (pa_cons (pe_ix ix_list (pv 0) (pv 3) (fun _ _ => rfl)) pa_nil)))) (pss_cons (ps_set (i := 5) sc_answers.nd rfl (Or.inl rfl) (pe_op op_add (pe_op op_add (pv 4) pe_int) (pe_ix ix_list (pv 0) (pv 4) (fun _ _ => rfl)))) (pss_cons (ps_set (i := 6) sc_answers.nd rfl (Or.inl rfl) (pe_make T.mk_asks (ok_asks_init T) (hr.mono (by decide)) rfl T.g_Asks (T.bi .d_asks_init) .nil pass0 (pa_cons (pe_slice sl_list (pv 0) (po_some (pe_op op_add (pv 4) pe_int)) (po_some (pv 5))) pa_nil))) (pss_cons (ps_set (i := 7) sc_answers.nd rfl (Or.inl rfl) (pe_call (ok_do_call T) (hr.mono (by decide)) rfl T.g_do_call (T.fn .d_do_call).kp (T.bi .d_do_call) .nil pass0 (pa_cons (pv 1) (pa_cons (pv 6) (pa_cons (pe_ix ix_list (pv 0) (pv 3) (fun _ _ => rfl)) (pa_cons (pe_slice sl_list (pv 0) (po_some (pe_op op_add (pv 3) pe_int)) (po_some (pv 4))) pa_nil)))))) (pss_cons (ps_expr (pe_bm PySem.F.plainAttrs_list PySem.F.slot_list_append PySem.F.type_list_append mt_append (pv 2) (pa_cons (pe_op op_add (pe_op op_add pe_int (pe_callB call_len_seq (by rfl) T.b_len PySem.boot_len (pa_cons (pe_fld (pv 6) rfl) pa_nil))) (pe_callB call_len_seq (by rfl) T.b_len PySem.boot_len (pa_cons (pv 7) pa_nil))) pa_nil))) (pss_cons (ps_expr (pe_bm PySem.F.plainAttrs_list PySem.F.slot_list_append PySem.F.type_list_append mt_append (pv 2) (pa_cons (pe_fld (pv 6) rfl) pa_nil))) (pss_cons (ps_expr (pe_bm PySem.F.plainAttrs_list PySem.F.slot_list_extend PySem.F.type_list_extend mt_extend (pv 2) (pa_cons (pe_fld (pv 6) rfl) pa_nil))) (pss_cons (ps_expr (pe_bm PySem.F.plainAttrs_list PySem.F.slot_list_extend PySem.F.type_list_extend mt_extend (pv 2) (pa_cons (pv 7) pa_nil))) (pss_one (ps_set (i := 3) sc_answers.nd rfl (Or.inl rfl) (pv 5)))))))))))) (pss_one (ps_ret (pv 2))))))), ?_⟩
    obtain ⟨cs, hput, hok, hcl, hfew, hans⟩ := line_read hask
    -- keep = Keep()
    intro kp dk nkp ndk nex
    refine ⟨kp, dk, [], rfl, upd_same, .inl rfl, fun H1 sl tl cm nsl ntl ncm nst h1 h2 h3 h4 h5 => ⟨rfl, ?_⟩⟩
    have s0 : Same H (upd (upd H dk (.own kp)) kp (.ins A.cl.keep dk [])) := fun b o e => by
      rw [upd_ne (ne_of_none e nkp), upd_ne (ne_of_none e ndk)]
      exact e
    have s1 : Same H H1 := Same.made nkp ndk h5
    have sl0 := s0.free nsl
    have tl0 := s0.free ntl
    have nks : kp ≠ sl := ne_of_none upd_same nsl
    have nkt : kp ≠ tl := ne_of_none upd_same ntl
    -- result = []
    refine ⟨(by show 0 ≤ sizeLine; decide), fun ra hra => ?_⟩
    have nrk : kp ≠ ra := ne_of_none h1 hra
    have nrs : sl ≠ ra := ne_of_none h2 hra
    have nrt : tl ≠ ra := ne_of_none h3 hra
    obtain ⟨G0, hG0⟩ : ∃ G0 : Gh, G0 = gad (gad (gad (gad (fun _ => none) kp .kp) sl .sl) tl .tl) ra .res := ⟨_, rfl⟩
    obtain ⟨L0, hL0⟩ : ∃ L0 : Lay, L0 = ⟨kp, sl, tl, cm, .non, fun _ => 0, fun _ => 0, fun _ => 0, fun _ _ => 0, fun _ _ => 0, fun _ _ => 0, fun _ _ => .non, fun _ _ => []⟩ := ⟨_, rfl⟩
    have gk : G0 kp = some .kp := by rw [hG0, gad_ne nrk, gad_ne nkt, gad_ne nks, gad_same]
    have gs : G0 sl = some .sl := by rw [hG0, gad_ne nrs, gad_ne nst, gad_same]
    have gt : G0 tl = some .tl := by rw [hG0, gad_ne nrt, gad_same]
    have gr : G0 ra = some .res := by rw [hG0, gad_same]
    have gn : ∀ {b o}, H b = some o → G0 b = none := fun {b o} e => by
      rw [hG0, gad_ne (fun z => by rw [z] at e; rw [s1 _ _ e] at hra; cases hra), gad_ne (ne_of_none e tl0), gad_ne (ne_of_none e sl0), gad_ne (ne_of_none e nkp)]
    have dm0 : Dom G0 (upd H1 ra (.lst [])) := fun b r e => by
      rw [hG0] at e
      by_cases b1 : b = ra
      · rw [b1, upd_same]
        simp
      · rw [upd_ne b1]
        rw [gad_ne b1] at e
        by_cases b2 : b = tl
        · rw [b2, h3]
          simp
        · rw [gad_ne b2] at e
          by_cases b3 : b = sl
          · rw [b3, h2]
            simp
          · rw [gad_ne b3] at e
            by_cases b4 : b = kp
            · rw [b4, h1]
              simp
            · rw [gad_ne b4] at e
              cases e
    have R0 : Rep A.cl K (upd H1 ra (.lst [])) G0 L0 (ms {}) := by
      rw [ms_empty, hL0]
      refine Rep.empty (dx := dk) dm0 gk gs gt rfl ?_ ?_ ?_
      · show upd H1 ra (.lst []) kp = _
        rw [upd_ne nrk]
        exact h1
      · show upd H1 ra (.lst []) sl = _
        rw [upd_ne nrs]
        exact h2
      · show upd H1 ra (.lst []) tl = _
        rw [upd_ne nrt]
        exact h3
    have ca0 : CallsAt K (upd H1 ra (.lst [])) G0 a (ns.map V.int) := by
      have sz := s1.trans (Same.new (o := .lst []) hra)
      rcases hsq with (h | ⟨o, h⟩) | h
      · exact .inl ⟨sz _ _ h, gn h⟩
      · exact .inr (.inl ⟨o, sz _ _ h, gn h⟩)
      · exact .inr (.inr fun _ => .inr h)
    have hkp0 : L0.kp = kp := by rw [hL0]
    obtain ⟨Wv, hW⟩ : ∃ W : Nat → L2.St → Hp → Prop, W = fun m σ H2 => ∃ (G1 : Gh) (L1 : Lay) (s : State) (done rest : List (List (List Int))) (rs : List Int) (n : Nat) (u4 u5 u6 u7 : Option V),
        σ = [some (.ref a), some (.ref kp), some (.ref ra), some (.int ((PyFlat.put done).length : Int)), u4, u5, u6, u7] ∧ m = rest.length ∧ cs = done ++ rest ∧ Rep A.cl K H2 G1 L1 (ms s) ∧ Good s ∧ Com K H2 G1 L1 (ms s) ∧ L1.kp = kp ∧
        H2 ra = some (.lst (rs.map V.int)) ∧ G1 ra = some .res ∧ few n s rest = true ∧ rs.length ≤ n + done.length ∧ rs ++ PyFlat.told (PyFlat.played step s rest) = PyMd35.answers ns ∧ CallsAt K H2 G1 a (ns.map V.int) := ⟨_, rfl⟩
    refine ⟨Wv, ⟨cs.length, ?_⟩, fun m σ H2 hw => ?_⟩
    · rw [hW]
      exact ⟨G0, L0, {}, [], cs, [], 0, none, none, none, none, rfl, rfl, rfl, R0, good_empty, com_nil rfl, hkp0, upd_same, gr, hfew, Nat.zero_le _, by rw [hans]; rfl, ca0⟩
    · rw [hW] at hw
      obtain ⟨G1, L1, st, done, rest, rs, n, u4, u5, u6, u7, rfl, rfl, hcs, R1, good, com, hkp, hra1, gra1, hfew1, hrs, heq, ca1⟩ := hw
      have hns : ns = PyFlat.put done ++ PyFlat.put rest := by rw [hput, hcs, put_append]
      refine ⟨_, rfl, _, rfl, a, _, rfl, .inl ca1.sq, _, _, rfl, rfl, _, rfl, ?_⟩
      rw [List.length_map]
      cases rest with
      | nil =>
        have e : ns.length = (PyFlat.put done).length := by
          rw [hns]
          show (PyFlat.put done ++ []).length = _
          rw [List.append_nil]
        rw [decide_eq_false (by rw [e]; omega)]
        refine iteF ⟨_, rfl, q H2 ra ?_⟩
        have e2 : rs = PyMd35.answers ns := by
          have : rs ++ [] = PyMd35.answers ns := heq
          rw [List.append_nil] at this
          exact this
        rw [hra1, e2]
      | cons c rest' =>
        obtain hokc := hok c (by rw [hcs]; simp)
        obtain ⟨p, xs, reps, qc, rfl, hmany, hq⟩ := call_parts hokc
        have hns2 : ns = PyFlat.put done ++ (p :: xs) ++ ((reps.length : Int) :: (reps ++ PyFlat.put rest')) := by
          rw [hns]
          show PyFlat.put done ++ (((p :: xs) ++ (((reps.length : Int) :: reps) ++ [])) ++ PyFlat.put rest') = _
          simp
        have hl : ns.length = (PyFlat.put done).length + 1 + xs.length + 1 + reps.length + (PyFlat.put rest').length := by
          rw [hns2]
          simp
          omega
        rw [decide_eq_true (by rw [hl]; omega)]
        refine iteT ⟨_, fun σ' H' h => h, ?_⟩
        obtain ⟨t, ht⟩ : ∃ t, t = (PyFlat.put done).length := ⟨_, rfl⟩
        rw [← ht] at hl ⊢
        have at0 : (ns.map V.int)[t]? = some (V.int p) := by
          rw [List.getElem?_map, hns2, List.append_assoc, ht, List.getElem?_append_right (Nat.le_refl _), Nat.sub_self]
          rfl
        have at1 : (ns.map V.int)[t + 1 + xs.length]? = some (V.int (reps.length : Int)) := by
          rw [List.getElem?_map, hns2]
          have e : t + 1 + xs.length = (PyFlat.put done ++ (p :: xs)).length := by
            rw [List.length_append, List.length_cons, ht]
            omega
          rw [e, List.getElem?_append_right (Nat.le_refl _), Nat.sub_self]
          rfl
        obtain ⟨hfew2, hsmall⟩ := few_cons hfew1
        -- count_at
        refine ⟨_, rfl, _, _, rfl, rfl, _, rfl, _, rfl, a, _, _, _, rfl, rfl, ca1.sq, atI_nat at0, p, xs.length, rfl, hmany, _, _, rfl, rfl, ?_⟩
        have e4 : (t : Int) + 1 + (xs.length : Int) = ((t + 1 + xs.length : Nat) : Int) := by omega
        dsimp only
        rw [e4]
        -- behind
        refine ⟨_, rfl, _, _, rfl, rfl, _, rfl, _, rfl, a, _, _, _, rfl, rfl, ca1.sq, atI_nat at1, _, _, rfl, rfl, ?_⟩
        have e5 : ((t + 1 + xs.length : Nat) : Int) + 1 + (reps.length : Int) = ((t + 1 + xs.length + 1 + reps.length : Nat) : Int) := by omega
        dsimp only
        rw [e5]
        -- asks = Asks(calls[count_at + 1:behind])
        refine ⟨_, rfl, _, rfl, _, _, rfl, rfl, _, rfl, _, rfl, _, rfl, a, _, rfl, ca1.sq, fun rp hrp => ?_⟩
        have ecut : cutV (ns.map V.int) (some (((t + 1 + xs.length : Nat) : Int) + 1)) (some ((t + 1 + xs.length + 1 + reps.length : Nat) : Int)) = reps.map V.int := by
          have e : ns.map V.int = ((PyFlat.put done ++ (p :: xs) ++ [(reps.length : Int)]).map V.int) ++ (reps.map V.int) ++ ((PyFlat.put rest').map V.int) := by
            rw [hns2]
            simp
          rw [e]
          exact cut_mid (by rw [List.length_map]; simp; omega) (by rw [List.length_map, List.length_map]; simp; omega)
        rw [ecut]
        intro ak adx nak nadx nexa
        refine ⟨ak, adx, rp, rfl, upd_same, fun H4 td ntd k1 k2 k3 => ⟨rfl, ?_⟩⟩
        have s23 : Same H2 (upd H2 rp (.lst (reps.map V.int))) := Same.new hrp
        have s3m : Same (upd H2 rp (.lst (reps.map V.int))) (upd (upd (upd H2 rp (.lst (reps.map V.int))) adx (.own ak)) ak (.ins A.cl.asks adx [])) := fun b o e => by
          rw [upd_ne (ne_of_none e nak), upd_ne (ne_of_none e nadx)]
          exact e
        have s34 : Same (upd H2 rp (.lst (reps.map V.int))) H4 := Same.made nak nadx k3
        have s24 := s23.trans s34
        have nra : rp ≠ ak := ne_of_none upd_same nak
        have td3 := s3m.free ntd
        have nrtd : rp ≠ td := ne_of_none upd_same td3
        have natd : ak ≠ td := ne_of_none upd_same ntd
        have ak0 := s23.free nak
        have td0 := s23.free td3
        obtain ⟨G2, hG2⟩ : ∃ G2 : Gh, G2 = gad (gad G1 ak .ak) td .td := ⟨_, rfl⟩
        have g2 : ∀ {b o}, H2 b = some o → G2 b = G1 b := fun {b o} e => by rw [hG2, gad_ne (ne_of_none e td0), gad_ne (ne_of_none e ak0)]
        have st24 : Stay G1 H2 G2 H4 := fun b o e _ => ⟨s24 b o e, g2 e⟩
        have dm4 : Dom G2 H4 := fun b r e => by
          rw [hG2] at e
          by_cases b1 : b = td
          · rw [b1, k2]
            simp
          · rw [gad_ne b1] at e
            by_cases b2 : b = ak
            · rw [b2, k1]
              simp
            · rw [gad_ne b2] at e
              cases qb : H2 b with
              | none => exact absurd qb (R1.dom b r e)
              | some o =>
                rw [s24 b o qb]
                simp
        have R4 : Rep A.cl K H4 G2 L1 (ms st) := R1.mono (fun b o e _ => ⟨s24 b o e, g2 e⟩) dm4
        have gnone : ∀ {b}, H2 b = none → b ≠ ak → b ≠ td → G2 b = none := fun {b} e h1 h2 => by
          rw [hG2, gad_ne h2, gad_ne h1]
          exact R1.free e
        have w4 : Wd A.cl K H4 G2 L1 st ak ⟨reps, 0, []⟩ := ⟨R4, ⟨adx, rp, td, k1, by rw [hG2, gad_ne natd, gad_same], ⟨s34 _ _ upd_same, gnone hrp nra nrtd⟩, k2, by rw [hG2, gad_same]⟩, rfl⟩
        have com4 : Com K H4 G2 L1 (ms st) := fun r x e hx => (com r x e hx).stay st24
        have ca4 := ca1.stay st24
        -- told = do_call(..)
        refine ⟨_, rfl, _, rfl, _, rfl, _, rfl, a, _, _, _, rfl, rfl, ca4.sq, atI_nat at0, _, rfl, _, rfl, _, _, rfl, rfl, _, rfl, _, rfl, _, rfl, a, _, rfl, ca4.sq, fun nl hnl => ?_⟩
        have ecut2 : cutV (ns.map V.int) (some ((t : Int) + 1)) (some ((t + 1 + xs.length : Nat) : Int)) = xs.map V.int := by
          have e : ns.map V.int = ((PyFlat.put done ++ [p]).map V.int) ++ (xs.map V.int) ++ (((reps.length : Int) :: (reps ++ PyFlat.put rest')).map V.int) := by
            rw [hns2]
            simp
          rw [e]
          exact cut_mid (by rw [List.length_map]; simp; omega) (by rw [List.length_map, List.length_map]; simp; omega)
        rw [ecut2]
        have s45 : Same H4 (upd H4 nl (.lst (xs.map V.int))) := Same.new hnl
        have hsm : (ansOf st [p :: xs, reps]).length ≤ 1000000 := by omega
        refine ⟨p, xs, qc, nl, G2, L1, st, ak, reps, (by rw [hkp]; rfl), hmany, hq, ⟨upd_same, R4.free hnl⟩, w4.same s45, good, com4.same s45, fits_of hq hsm, fun H6 G6 L6 s6 S6 an l went6 w6 g6 com6 st6 kp6 hl6 gl6 => ?_⟩
        obtain ⟨qs, rest6, hpl, rfl⟩ := went6.played
        have estep : step st [p :: xs, reps] = (s6, (qs.length : Int) :: (qs.flatMap Md35Neutral.ofAsk ++ (an.value :: an.out))) := by
          rw [step_of hq, hpl]
        have eans : ansOf st [p :: xs, reps] = (qs.length : Int) :: (qs.flatMap Md35Neutral.ofAsk ++ (an.value :: an.out)) := congrArg Prod.snd estep
        have est1 : (step st [p :: xs, reps]).1 = s6 := congrArg Prod.fst estep
        have elen : (ansOf st [p :: xs, reps]).length = 1 + ((qs.flatMap Md35Neutral.ofAsk).length + (1 + an.out.length)) := by
          rw [eans]
          simp
          omega
        have st26 : Stay G1 H2 G6 H6 := st24.trans ((Same.stay s45).trans st6)
        obtain ⟨hra6, gra6⟩ := st26 ra _ hra1 (.inr gra1)
        rw [gra1] at gra6
        obtain ⟨dx6, r6, t6, ha6, ga6, hr6, ht6, gt6⟩ := id w6.ask
        have nar : ak ≠ ra := fun e => by rw [e, gra6] at ga6; cases ga6
        have ntr : t6 ≠ ra := fun e => by rw [e, gra6] at gt6; cases gt6
        have nlr : l ≠ ra := fun e => by rw [e, gra6] at gl6; cases gl6
        have hdl : done.length ≤ 300 := by
          have : cs.length = done.length + (([p :: xs, reps] :: rest') : List (List (List Int))).length := by rw [hcs, List.length_append]
          omega
        have hsz := sizeLine_eq
        refine ⟨_, rfl, .inl ⟨rfl, _, SqL.of hra6⟩, _, rfl, ak, _, dx6, _, _, rfl, ha6, T.c_asks, T.n_asks_told, af_told _ _ _, t6, _, rfl, .inl (SqL.of ht6), _, _, rfl, rfl, _, rfl, l, _, rfl, .inl (SqL.of hl6), _, _, rfl, rfl, ra, _, _, rfl, rfl, hra6, (by rw [List.length_map]; omega), ?_⟩
        refine ⟨_, rfl, .inl ⟨rfl, _, SqL.of upd_same⟩, _, rfl, ak, _, dx6, _, _, rfl, (by rw [upd_ne nar]; exact ha6), T.c_asks, T.n_asks_asked, af_asked _ _ _, ra, _, _, rfl, rfl, upd_same, (by simp; omega), ?_⟩
        rw [upd_upd]
        refine ⟨_, rfl, .inl ⟨rfl, _, SqL.of upd_same⟩, _, rfl, ak, _, dx6, _, _, rfl, (by rw [upd_ne nar]; exact ha6), T.c_asks, T.n_asks_told, af_told _ _ _, ra, t6, _, _, rfl, rfl, upd_same, (by rw [upd_ne ntr]; exact ht6), (by simp only [List.length_append, List.length_map, List.length_cons, List.length_nil]; omega), ?_⟩
        rw [upd_upd]
        refine ⟨_, rfl, .inl ⟨rfl, _, SqL.of upd_same⟩, _, rfl, ra, l, _, _, rfl, rfl, upd_same, (by rw [upd_ne nlr]; exact hl6), (by simp only [List.length_append, List.length_map, List.length_cons, List.length_nil]; omega), ?_⟩
        rw [upd_upd]
        refine ⟨_, rfl, rest'.length, Nat.lt_succ_self _, ?_⟩
        rw [hW]
        have w7 := w6.own (o := .lst (rs.map V.int ++ [V.int (1 + (((qs.flatMap Md35Neutral.ofAsk).map V.int).length : Int) + (((an.value :: an.out).map V.int).length : Int))] ++ [V.int (qs.length : Int)] ++ (qs.flatMap Md35Neutral.ofAsk).map V.int ++ (an.value :: an.out).map V.int)) gra6
        refine ⟨G6, L6, s6, done ++ [[p :: xs, reps]], rest', rs ++ (((ansOf st [p :: xs, reps]).length : Int) :: ansOf st [p :: xs, reps]), n + (ansOf st [p :: xs, reps]).length, some (.int ((t + 1 + xs.length : Nat) : Int)), some (.int ((t + 1 + xs.length + 1 + reps.length : Nat) : Int)), some (.ref ak), some (.ref l), ?_, rfl, ?_, w7.rep, g6, com6.own gra6, kp6.trans hkp, ?_, gra6, ?_, ?_, ?_, (ca1.stay st26).own gra6⟩
        · have e9 : (PyFlat.put (done ++ [[p :: xs, reps]])).length = t + 1 + xs.length + 1 + reps.length := by
            rw [put_append, List.length_append, ← ht]
            show t + (((p :: xs) ++ (((reps.length : Int) :: reps) ++ [])) ++ []).length = _
            simp
            omega
          rw [e9]
          rfl
        · rw [hcs]
          simp
        · rw [upd_same, elen, eans]
          simp
          omega
        · rw [← est1]
          exact hfew2
        · rw [List.length_append, List.length_append, List.length_cons, List.length_singleton]
          omega
        · rw [← est1, List.append_assoc, List.cons_append, ← told_cons]
          exact heq
end
end Th
namespace Th
open PySem PySem.Spec PyProof.Rows L2
theorem bind_df : ∀ (d : Df) (kV doc pm : Value) (an : Option Addr) (cdv ct : Value) (us : List Value), us.length = d.pars.length → bindArgs (PySem.W.fnOf d.nm d.ql (defArgs d.stm) (defBody d.stm) (defScope d.stm) .none kV doc pm an cdv ct) ⟨us, []⟩ = pure (d.pars.zip us)
  | .d_frame_init, _, _, _, _, _, _, us, hl => by obtain ⟨a, b, rfl⟩ := len_2 hl; rfl
  | .d_frame_is_new, _, _, _, _, _, _, us, hl => by obtain ⟨a, rfl⟩ := len_1 hl; rfl
  | .d_stack_init, _, _, _, _, _, _, us, hl => by obtain ⟨a, b, rfl⟩ := len_2 hl; rfl
  | .d_stack_innermost, _, _, _, _, _, _, us, hl => by obtain ⟨a, rfl⟩ := len_1 hl; rfl
  | .d_throw_init, _, _, _, _, _, _, us, hl => by obtain ⟨a, b, c, d, rfl⟩ := len_4 hl; rfl
  | .d_throw_of_number, _, _, _, _, _, _, us, hl => by obtain ⟨a, rfl⟩ := len_1 hl; rfl
  | .d_in_place_of, _, _, _, _, _, _, us, hl => by obtain ⟨a, b, rfl⟩ := len_2 hl; rfl
  | .d_asks_init, _, _, _, _, _, _, us, hl => by obtain ⟨a, b, rfl⟩ := len_2 hl; rfl
  | .d_asks_ask, _, _, _, _, _, _, us, hl => by obtain ⟨a, b, rfl⟩ := len_2 hl; rfl
  | .d_asks_run, _, _, _, _, _, _, us, hl => by obtain ⟨a, b, c, rfl⟩ := len_3 hl; rfl
  | .d_asks_clean, _, _, _, _, _, _, us, hl => by obtain ⟨a, b, c, rfl⟩ := len_3 hl; rfl
  | .d_keep_init, _, _, _, _, _, _, us, hl => by obtain ⟨a, rfl⟩ := len_1 hl; rfl
  | .d_keep_make_empty, _, _, _, _, _, _, us, hl => by obtain ⟨a, rfl⟩ := len_1 hl; rfl
  | .d_keep_is_stopped, _, _, _, _, _, _, us, hl => by obtain ⟨a, rfl⟩ := len_1 hl; rfl
  | .d_keep_find_stack, _, _, _, _, _, _, us, hl => by obtain ⟨a, b, rfl⟩ := len_2 hl; rfl
  | .d_keep_cut_stack, _, _, _, _, _, _, us, hl => by obtain ⟨a, b, rfl⟩ := len_2 hl; rfl
  | .d_keep_add_stack, _, _, _, _, _, _, us, hl => by obtain ⟨a, b, rfl⟩ := len_2 hl; rfl
  | .d_keep_add_frame, _, _, _, _, _, _, us, hl => by obtain ⟨a, b, c, rfl⟩ := len_3 hl; rfl
  | .d_keep_drop_frame, _, _, _, _, _, _, us, hl => by obtain ⟨a, b, rfl⟩ := len_2 hl; rfl
  | .d_keep_drop_stack, _, _, _, _, _, _, us, hl => by obtain ⟨a, b, rfl⟩ := len_2 hl; rfl
  | .d_keep_put_on, _, _, _, _, _, _, us, hl => by obtain ⟨a, b, rfl⟩ := len_2 hl; rfl
  | .d_keep_put_on_sending, _, _, _, _, _, _, us, hl => by obtain ⟨a, b, c, rfl⟩ := len_3 hl; rfl
  | .d_keep_take_off, _, _, _, _, _, _, us, hl => by obtain ⟨a, rfl⟩ := len_1 hl; rfl
  | .d_tell_frames, _, _, _, _, _, _, us, hl => by obtain ⟨a, rfl⟩ := len_1 hl; rfl
  | .d_tell_acts, _, _, _, _, _, _, us, hl => by obtain ⟨a, rfl⟩ := len_1 hl; rfl
  | .d_tell_row, _, _, _, _, _, _, us, hl => by obtain ⟨a, rfl⟩ := len_1 hl; rfl
  | .d_tell_pieces, _, _, _, _, _, _, us, hl => by obtain ⟨a, rfl⟩ := len_1 hl; rfl
  | .d_tell_causes, _, _, _, _, _, _, us, hl => by obtain ⟨a, rfl⟩ := len_1 hl; rfl
  | .d_drop_act, _, _, _, _, _, _, us, hl => by obtain ⟨a, b, c, rfl⟩ := len_3 hl; rfl
  | .d_throw_on, _, _, _, _, _, _, us, hl => by obtain ⟨a, b, c, rfl⟩ := len_3 hl; rfl
  | .d_throw_through_frame, _, _, _, _, _, _, us, hl => by obtain ⟨a, b, c, rfl⟩ := len_3 hl; rfl
  | .d_catches, _, _, _, _, _, _, us, hl => by obtain ⟨a, b, rfl⟩ := len_2 hl; rfl
  | .d_end_stack, _, _, _, _, _, _, us, hl => by obtain ⟨a, b, c, rfl⟩ := len_3 hl; rfl
  | .d_joined, _, _, _, _, _, _, us, hl => by obtain ⟨a, rfl⟩ := len_1 hl; rfl
  | .d_refuse, _, _, _, _, _, _, us, hl => by obtain ⟨a, b, rfl⟩ := len_2 hl; rfl
  | .d_go_on, _, _, _, _, _, _, us, hl => by obtain ⟨a, rfl⟩ := len_1 hl; rfl
  | .d_want_return, _, _, _, _, _, _, us, hl => by obtain ⟨a, b, c, rfl⟩ := len_3 hl; rfl
  | .d_want_call, _, _, _, _, _, _, us, hl => by obtain ⟨a, b, c, rfl⟩ := len_3 hl; rfl
  | .d_want_throw, _, _, _, _, _, _, us, hl => by obtain ⟨a, b, c, rfl⟩ := len_3 hl; rfl
  | .d_want_handler, _, _, _, _, _, _, us, hl => by obtain ⟨a, b, c, rfl⟩ := len_3 hl; rfl
  | .d_want_last, _, _, _, _, _, _, us, hl => by obtain ⟨a, b, c, rfl⟩ := len_3 hl; rfl
  | .d_add_act, _, _, _, _, _, _, us, hl => by obtain ⟨a, b, c, rfl⟩ := len_3 hl; rfl
  | .d_want_drop_act, _, _, _, _, _, _, us, hl => by obtain ⟨a, b, c, rfl⟩ := len_3 hl; rfl
  | .d_want_hand_out, _, _, _, _, _, _, us, hl => by obtain ⟨a, b, c, rfl⟩ := len_3 hl; rfl
  | .d_want_new_stack, _, _, _, _, _, _, us, hl => by obtain ⟨a, b, c, rfl⟩ := len_3 hl; rfl
  | .d_want_go_on_with, _, _, _, _, _, _, us, hl => by obtain ⟨a, b, c, rfl⟩ := len_3 hl; rfl
  | .d_want_end, _, _, _, _, _, _, us, hl => by obtain ⟨a, b, c, rfl⟩ := len_3 hl; rfl
  | .d_want_throw_again, _, _, _, _, _, _, us, hl => by obtain ⟨a, b, c, rfl⟩ := len_3 hl; rfl
  | .d_want_set_word, _, _, _, _, _, _, us, hl => by obtain ⟨a, b, c, rfl⟩ := len_3 hl; rfl
  | .d_want_tell_word, _, _, _, _, _, _, us, hl => by obtain ⟨a, b, c, rfl⟩ := len_3 hl; rfl
  | .d_take_step, _, _, _, _, _, _, us, hl => by obtain ⟨a, b, rfl⟩ := len_2 hl; rfl
  | .d_call_new, _, _, _, _, _, _, us, hl => by obtain ⟨a, b, c, rfl⟩ := len_3 hl; rfl
  | .d_call_go, _, _, _, _, _, _, us, hl => by obtain ⟨a, b, c, rfl⟩ := len_3 hl; rfl
  | .d_call_send, _, _, _, _, _, _, us, hl => by obtain ⟨a, b, c, rfl⟩ := len_3 hl; rfl
  | .d_call_hurl, _, _, _, _, _, _, us, hl => by obtain ⟨a, b, c, rfl⟩ := len_3 hl; rfl
  | .d_call_end, _, _, _, _, _, _, us, hl => by obtain ⟨a, b, c, rfl⟩ := len_3 hl; rfl
  | .d_call_on, _, _, _, _, _, _, us, hl => by obtain ⟨a, b, c, rfl⟩ := len_3 hl; rfl
  | .d_call_frames, _, _, _, _, _, _, us, hl => by obtain ⟨a, b, c, rfl⟩ := len_3 hl; rfl
  | .d_call_acts, _, _, _, _, _, _, us, hl => by obtain ⟨a, b, c, rfl⟩ := len_3 hl; rfl
  | .d_call_row, _, _, _, _, _, _, us, hl => by obtain ⟨a, b, c, rfl⟩ := len_3 hl; rfl
  | .d_call_pieces, _, _, _, _, _, _, us, hl => by obtain ⟨a, b, c, rfl⟩ := len_3 hl; rfl
  | .d_call_causes, _, _, _, _, _, _, us, hl => by obtain ⟨a, b, c, rfl⟩ := len_3 hl; rfl
  | .d_in_range, _, _, _, _, _, _, us, hl => by obtain ⟨a, b, rfl⟩ := len_2 hl; rfl
  | .d_run_steps, _, _, _, _, _, _, us, hl => by obtain ⟨a, b, c, rfl⟩ := len_3 hl; rfl
  | .d_how_many_numbers, _, _, _, _, _, _, us, hl => by obtain ⟨a, rfl⟩ := len_1 hl; rfl
  | .d_do_call, _, _, _, _, _, _, us, hl => by obtain ⟨a, b, c, d, rfl⟩ := len_4 hl; rfl
  | .d_answers, _, _, _, _, _, _, us, hl => by obtain ⟨a, rfl⟩ := len_1 hl; rfl
structure DefAt (K : PySem.W.Frag) (d : Df) (f : Addr) (fd : FuncData) : Prop where
  fn : Fun K d.nm d.ql d.stm f fd
  ba : ∀ us : List Value, us.length = d.pars.length → bindArgs fd ⟨us, []⟩ = pure (d.pars.zip us)
theorem DefAt.bi {K : PySem.W.Frag} {d : Df} {f : Addr} {fd : FuncData} (h : DefAt K d f fd) : Binds K fd d.pars [] := .all h.ba
theorem def_mk {K : PySem.W.Frag} {d : Df} {nm ql : Str} {st : Stmt} {f : Addr} {oc : Value} {od an : Option Addr} {osl : Array (Option Value)} {kV doc pm cdv ct : Value} (hn : nm = d.nm) (hq : ql = d.ql) (hs : st = d.stm)
    (l : K.lookup f = some ⟨oc, od, .func (PySem.W.fnOf nm ql (defArgs st) (defBody st) (defScope st) .none kV doc pm an cdv ct), osl⟩) (c : PySem.W.codeIn K cdv ql = true) (k : PySem.W.keepIn K (.ref f) = true) :
    DefAt K d f (PySem.W.fnOf nm ql (defArgs st) (defBody st) (defScope st) .none kV doc pm an cdv ct) := by
  subst hn hq hs
  exact ⟨fun_mk l c k, bind_df d kV doc pm an cdv ct⟩
theorem kt_mk {K : PySem.W.Frag} {a : Addr} {vs : List Value} {xs : List V} {dd : Option Addr} {n : Nat} {sl : Array (Option Value)} (l : K.lookup a = some ⟨.type "tuple", dd, .seq vs.toArray n, sl⟩) (h : Vals xs vs) (hl : vs.length ≤ sizeLine) : KT K a xs :=
  ⟨_, _, _, l, rfl, rfl, by rw [List.size_toArray]; exact hl, by simpa using h⟩
theorem kd_mk {P : Program} {w : World} {K : PySem.W.Frag} {a : Addr} {t1 t2 t3 t4 t5 t6 t7 t8 t9 t10 t11 : Tok} {v1 v2 v3 v4 v5 v6 v7 v8 v9 v10 v11 : Value} {ep : Nat} (l : K.lookup a = some { cls := .type "dict", data := .dict #[⟨1, .int 1 t1, v1⟩, ⟨2, .int 2 t2, v2⟩, ⟨3, .int 3 t3, v3⟩, ⟨4, .int 4 t4, v4⟩, ⟨5, .int 5 t5, v5⟩, ⟨6, .int 6 t6, v6⟩, ⟨7, .int 7 t7, v7⟩, ⟨8, .int 8 t8, v8⟩, ⟨9, .int 9 t9, v9⟩, ⟨10, .int 10 t10, v10⟩, ⟨11, .int 11 t11, v11⟩] ep }) : KD P w K a [(1, v1), (2, v2), (3, v3), (4, v4), (5, v5), (6, v6), (7, v7), (8, v8), (9, v9), (10, v10), (11, v11)] := by
  refine ⟨_, _, _, l, ⟨rfl, rfl, rfl⟩, rfl, fun e he => ?_, (.cons rfl rfl (.cons rfl rfl (.cons rfl rfl (.cons rfl rfl (.cons rfl rfl (.cons rfl rfl (.cons rfl rfl (.cons rfl rfl (.cons rfl rfl (.cons rfl rfl (.cons rfl rfl .nil))))))))))), by show ([1, 2, 3, 4, 5, 6, 7, 8, 9, 10, 11] : List Int).Nodup; decide⟩
  have he' : e ∈ ([⟨1, .int 1 t1, v1⟩, ⟨2, .int 2 t2, v2⟩, ⟨3, .int 3 t3, v3⟩, ⟨4, .int 4 t4, v4⟩, ⟨5, .int 5 t5, v5⟩, ⟨6, .int 6 t6, v6⟩, ⟨7, .int 7 t7, v7⟩, ⟨8, .int 8 t8, v8⟩, ⟨9, .int 9 t9, v9⟩, ⟨10, .int 10 t10, v10⟩, ⟨11, .int 11 t11, v11⟩] : List DictEntry) := by simpa using he
  simp only [List.mem_cons, List.not_mem_nil, or_false] at he'
  rcases he' with rfl | rfl | rfl | rfl | rfl | rfl | rfl | rfl | rfl | rfl | rfl
  · exact ⟨1, rfl, by show (1 : Int) = hashInt 1; decide⟩
  · exact ⟨2, rfl, by show (2 : Int) = hashInt 2; decide⟩
  · exact ⟨3, rfl, by show (3 : Int) = hashInt 3; decide⟩
  · exact ⟨4, rfl, by show (4 : Int) = hashInt 4; decide⟩
  · exact ⟨5, rfl, by show (5 : Int) = hashInt 5; decide⟩
  · exact ⟨6, rfl, by show (6 : Int) = hashInt 6; decide⟩
  · exact ⟨7, rfl, by show (7 : Int) = hashInt 7; decide⟩
  · exact ⟨8, rfl, by show (8 : Int) = hashInt 8; decide⟩
  · exact ⟨9, rfl, by show (9 : Int) = hashInt 9; decide⟩
  · exact ⟨10, rfl, by show (10 : Int) = hashInt 10; decide⟩
  · exact ⟨11, rfl, by show (11 : Int) = hashInt 11; decide⟩
theorem txt_mk {P : Program} {w : World} {K : PySem.W.Frag} {h : Heap} {mg : Str → Option Value} (X : K.In h) (G : h.Ns mainGlobals mg)
    {C_frame : Addr} {C_stack : Addr} {C_throw : Addr} {C_asks : Addr} {C_keep : Addr} {f_frame_init : Addr} {fd_frame_init : FuncData} {f_frame_is_new : Addr} {fd_frame_is_new : FuncData} {f_stack_init : Addr} {fd_stack_init : FuncData} {f_stack_innermost : Addr} {fd_stack_innermost : FuncData} {f_throw_init : Addr} {fd_throw_init : FuncData} {f_throw_of_number : Addr} {fd_throw_of_number : FuncData} {f_in_place_of : Addr} {fd_in_place_of : FuncData} {f_asks_init : Addr} {fd_asks_init : FuncData} {f_asks_ask : Addr} {fd_asks_ask : FuncData} {f_asks_run : Addr} {fd_asks_run : FuncData} {f_asks_clean : Addr} {fd_asks_clean : FuncData} {f_keep_init : Addr} {fd_keep_init : FuncData} {f_keep_make_empty : Addr} {fd_keep_make_empty : FuncData} {f_keep_is_stopped : Addr} {fd_keep_is_stopped : FuncData} {f_keep_find_stack : Addr} {fd_keep_find_stack : FuncData} {f_keep_cut_stack : Addr} {fd_keep_cut_stack : FuncData} {f_keep_add_stack : Addr} {fd_keep_add_stack : FuncData} {f_keep_add_frame : Addr} {fd_keep_add_frame : FuncData} {f_keep_drop_frame : Addr} {fd_keep_drop_frame : FuncData} {f_keep_drop_stack : Addr} {fd_keep_drop_stack : FuncData} {f_keep_put_on : Addr} {fd_keep_put_on : FuncData} {f_keep_put_on_sending : Addr} {fd_keep_put_on_sending : FuncData} {f_keep_take_off : Addr} {fd_keep_take_off : FuncData} {f_tell_frames : Addr} {fd_tell_frames : FuncData} {f_tell_acts : Addr} {fd_tell_acts : FuncData} {f_tell_row : Addr} {fd_tell_row : FuncData} {f_tell_pieces : Addr} {fd_tell_pieces : FuncData} {f_tell_causes : Addr} {fd_tell_causes : FuncData} {f_drop_act : Addr} {fd_drop_act : FuncData} {f_throw_on : Addr} {fd_throw_on : FuncData} {f_throw_through_frame : Addr} {fd_throw_through_frame : FuncData} {f_catches : Addr} {fd_catches : FuncData} {f_end_stack : Addr} {fd_end_stack : FuncData} {f_joined : Addr} {fd_joined : FuncData} {f_refuse : Addr} {fd_refuse : FuncData} {f_go_on : Addr} {fd_go_on : FuncData} {f_want_return : Addr} {fd_want_return : FuncData} {f_want_call : Addr} {fd_want_call : FuncData} {f_want_throw : Addr} {fd_want_throw : FuncData} {f_want_handler : Addr} {fd_want_handler : FuncData} {f_want_last : Addr} {fd_want_last : FuncData} {f_add_act : Addr} {fd_add_act : FuncData} {f_want_drop_act : Addr} {fd_want_drop_act : FuncData} {f_want_hand_out : Addr} {fd_want_hand_out : FuncData} {f_want_new_stack : Addr} {fd_want_new_stack : FuncData} {f_want_go_on_with : Addr} {fd_want_go_on_with : FuncData} {f_want_end : Addr} {fd_want_end : FuncData} {f_want_throw_again : Addr} {fd_want_throw_again : FuncData} {f_want_set_word : Addr} {fd_want_set_word : FuncData} {f_want_tell_word : Addr} {fd_want_tell_word : FuncData} {f_take_step : Addr} {fd_take_step : FuncData} {f_call_new : Addr} {fd_call_new : FuncData} {f_call_go : Addr} {fd_call_go : FuncData} {f_call_send : Addr} {fd_call_send : FuncData} {f_call_hurl : Addr} {fd_call_hurl : FuncData} {f_call_end : Addr} {fd_call_end : FuncData} {f_call_on : Addr} {fd_call_on : FuncData} {f_call_frames : Addr} {fd_call_frames : FuncData} {f_call_acts : Addr} {fd_call_acts : FuncData} {f_call_row : Addr} {fd_call_row : FuncData} {f_call_pieces : Addr} {fd_call_pieces : FuncData} {f_call_causes : Addr} {fd_call_causes : FuncData} {f_in_range : Addr} {fd_in_range : FuncData} {f_run_steps : Addr} {fd_run_steps : FuncData} {f_how_many_numbers : Addr} {fd_how_many_numbers : FuncData} {f_do_call : Addr} {fd_do_call : FuncData} {f_answers : Addr} {fd_answers : FuncData} {t_HANDLER : Tok} {t_LAST : Tok} {t_KINDS : Tok} {t_EVERY_KIND : Tok} {t_WORDS : Tok} {t_CAUSES_MOST : Tok} {t_RUN : Tok} {t_CLEAN : Tok} {t_WHY_RETURN : Tok} {t_WHY_THROW : Tok} {t_WHY_END : Tok} {t_STACKS_MOST : Tok} {t_PIECES_MOST : Tok} {t_PIECE_FRAMES : Tok} {t_FIRST : Tok} {t_SENT : Tok} {t_ON : Tok} {t_CUT : Tok} {t_NOBODY : Tok} {t_UNCAUGHT : Tok} {t_CAUGHT : Tok} {t_PLACE_MOST : Tok} {t_ACTS_MOST : Tok} {t_FUNCTIONS : Tok} {nm3 : Addr} {tn1 tn2 tn3 : Tok} {dn : Option Addr} {nn : Nat} {sln : Array (Option Value)} {t_CALLED : Tok} {t_RETURNED : Tok} {t_WORD : Tok} {t_HANDED_OUT : Tok} {t_STACK_RETURNED : Tok} {t_STACK_MADE : Tok} {t_REFUSED : Tok} {t_ENDS_RETURNED : Tok} {t_ENDS_HANDED_OUT : Tok} {t_NO_WANT : Tok} {wants : Addr} {dw : Option Addr} {nw : Nat} {slw : Array (Option Value)} {t_FUNCTION_MOST : Tok} {t_KIND_MOST : Tok} {t_BUDGET_MOST : Tok} {t_STOPPED : Tok} {t_NO_SUCH_STACK : Tok} {t_NOTHING_STOPPED : Tok} {t_NO_SUCH_FRAME : Tok} {t_NOTHING_UNCAUGHT : Tok} {t_NO_ROOM : Tok} {t_IS_STOPPED : Tok} {t_OUT_OF_RANGE : Tok} {calls : Addr} {tc1 tc2 tc3 tc4 tc5 tc6 tc7 tc8 tc9 tc10 tc11 : Tok} {epc : Nat} {numb : Addr} {td1 td2 td3 td4 td5 td6 td7 td8 td9 td10 td11 : Tok} {te1 te2 te3 te4 te5 te6 te7 te8 te9 te10 te11 : Tok} {epn : Nat}
    (c_frame : PySem.W.nsIn K mainGlobals "Frame" = some (some (.ref C_frame)))
    (c_stack : PySem.W.nsIn K mainGlobals "Stack" = some (some (.ref C_stack)))
    (c_throw : PySem.W.nsIn K mainGlobals "Throw" = some (some (.ref C_throw)))
    (c_asks : PySem.W.nsIn K mainGlobals "Asks" = some (some (.ref C_asks)))
    (c_keep : PySem.W.nsIn K mainGlobals "Keep" = some (some (.ref C_keep)))
    (a_frame_init : PySem.W.findIn K (.ref C_frame) "__init__" = some (some (.ref f_frame_init)))
    (i_frame_init : PySem.W.isFn K (.ref f_frame_init) = true)
    (d_frame_init : DefAt K .d_frame_init f_frame_init fd_frame_init)
    (a_frame_is_new : PySem.W.findIn K (.ref C_frame) "is_new" = some (some (.ref f_frame_is_new)))
    (i_frame_is_new : PySem.W.isFn K (.ref f_frame_is_new) = true)
    (d_frame_is_new : DefAt K .d_frame_is_new f_frame_is_new fd_frame_is_new)
    (a_stack_init : PySem.W.findIn K (.ref C_stack) "__init__" = some (some (.ref f_stack_init)))
    (i_stack_init : PySem.W.isFn K (.ref f_stack_init) = true)
    (d_stack_init : DefAt K .d_stack_init f_stack_init fd_stack_init)
    (a_stack_innermost : PySem.W.findIn K (.ref C_stack) "innermost" = some (some (.ref f_stack_innermost)))
    (i_stack_innermost : PySem.W.isFn K (.ref f_stack_innermost) = true)
    (d_stack_innermost : DefAt K .d_stack_innermost f_stack_innermost fd_stack_innermost)
    (a_throw_init : PySem.W.findIn K (.ref C_throw) "__init__" = some (some (.ref f_throw_init)))
    (i_throw_init : PySem.W.isFn K (.ref f_throw_init) = true)
    (d_throw_init : DefAt K .d_throw_init f_throw_init fd_throw_init)
    (a_throw_of_number : PySem.W.nsIn K mainGlobals "throw_of_number" = some (some (.ref f_throw_of_number)))
    (d_throw_of_number : DefAt K .d_throw_of_number f_throw_of_number fd_throw_of_number)
    (a_in_place_of : PySem.W.nsIn K mainGlobals "in_place_of" = some (some (.ref f_in_place_of)))
    (d_in_place_of : DefAt K .d_in_place_of f_in_place_of fd_in_place_of)
    (a_asks_init : PySem.W.findIn K (.ref C_asks) "__init__" = some (some (.ref f_asks_init)))
    (i_asks_init : PySem.W.isFn K (.ref f_asks_init) = true)
    (d_asks_init : DefAt K .d_asks_init f_asks_init fd_asks_init)
    (a_asks_ask : PySem.W.findIn K (.ref C_asks) "ask" = some (some (.ref f_asks_ask)))
    (i_asks_ask : PySem.W.isFn K (.ref f_asks_ask) = true)
    (d_asks_ask : DefAt K .d_asks_ask f_asks_ask fd_asks_ask)
    (a_asks_run : PySem.W.findIn K (.ref C_asks) "run" = some (some (.ref f_asks_run)))
    (i_asks_run : PySem.W.isFn K (.ref f_asks_run) = true)
    (d_asks_run : DefAt K .d_asks_run f_asks_run fd_asks_run)
    (a_asks_clean : PySem.W.findIn K (.ref C_asks) "clean" = some (some (.ref f_asks_clean)))
    (i_asks_clean : PySem.W.isFn K (.ref f_asks_clean) = true)
    (d_asks_clean : DefAt K .d_asks_clean f_asks_clean fd_asks_clean)
    (a_keep_init : PySem.W.findIn K (.ref C_keep) "__init__" = some (some (.ref f_keep_init)))
    (i_keep_init : PySem.W.isFn K (.ref f_keep_init) = true)
    (d_keep_init : DefAt K .d_keep_init f_keep_init fd_keep_init)
    (a_keep_make_empty : PySem.W.findIn K (.ref C_keep) "make_empty" = some (some (.ref f_keep_make_empty)))
    (i_keep_make_empty : PySem.W.isFn K (.ref f_keep_make_empty) = true)
    (d_keep_make_empty : DefAt K .d_keep_make_empty f_keep_make_empty fd_keep_make_empty)
    (a_keep_is_stopped : PySem.W.findIn K (.ref C_keep) "is_stopped" = some (some (.ref f_keep_is_stopped)))
    (i_keep_is_stopped : PySem.W.isFn K (.ref f_keep_is_stopped) = true)
    (d_keep_is_stopped : DefAt K .d_keep_is_stopped f_keep_is_stopped fd_keep_is_stopped)
    (a_keep_find_stack : PySem.W.findIn K (.ref C_keep) "find_stack" = some (some (.ref f_keep_find_stack)))
    (i_keep_find_stack : PySem.W.isFn K (.ref f_keep_find_stack) = true)
    (d_keep_find_stack : DefAt K .d_keep_find_stack f_keep_find_stack fd_keep_find_stack)
    (a_keep_cut_stack : PySem.W.findIn K (.ref C_keep) "cut_stack" = some (some (.ref f_keep_cut_stack)))
    (i_keep_cut_stack : PySem.W.isFn K (.ref f_keep_cut_stack) = true)
    (d_keep_cut_stack : DefAt K .d_keep_cut_stack f_keep_cut_stack fd_keep_cut_stack)
    (a_keep_add_stack : PySem.W.findIn K (.ref C_keep) "add_stack" = some (some (.ref f_keep_add_stack)))
    (i_keep_add_stack : PySem.W.isFn K (.ref f_keep_add_stack) = true)
    (d_keep_add_stack : DefAt K .d_keep_add_stack f_keep_add_stack fd_keep_add_stack)
    (a_keep_add_frame : PySem.W.findIn K (.ref C_keep) "add_frame" = some (some (.ref f_keep_add_frame)))
    (i_keep_add_frame : PySem.W.isFn K (.ref f_keep_add_frame) = true)
    (d_keep_add_frame : DefAt K .d_keep_add_frame f_keep_add_frame fd_keep_add_frame)
    (a_keep_drop_frame : PySem.W.findIn K (.ref C_keep) "drop_frame" = some (some (.ref f_keep_drop_frame)))
    (i_keep_drop_frame : PySem.W.isFn K (.ref f_keep_drop_frame) = true)
    (d_keep_drop_frame : DefAt K .d_keep_drop_frame f_keep_drop_frame fd_keep_drop_frame)
    (a_keep_drop_stack : PySem.W.findIn K (.ref C_keep) "drop_stack" = some (some (.ref f_keep_drop_stack)))
    (i_keep_drop_stack : PySem.W.isFn K (.ref f_keep_drop_stack) = true)
    (d_keep_drop_stack : DefAt K .d_keep_drop_stack f_keep_drop_stack fd_keep_drop_stack)
    (a_keep_put_on : PySem.W.findIn K (.ref C_keep) "put_on" = some (some (.ref f_keep_put_on)))
    (i_keep_put_on : PySem.W.isFn K (.ref f_keep_put_on) = true)
    (d_keep_put_on : DefAt K .d_keep_put_on f_keep_put_on fd_keep_put_on)
    (a_keep_put_on_sending : PySem.W.findIn K (.ref C_keep) "put_on_sending" = some (some (.ref f_keep_put_on_sending)))
    (i_keep_put_on_sending : PySem.W.isFn K (.ref f_keep_put_on_sending) = true)
    (d_keep_put_on_sending : DefAt K .d_keep_put_on_sending f_keep_put_on_sending fd_keep_put_on_sending)
    (a_keep_take_off : PySem.W.findIn K (.ref C_keep) "take_off" = some (some (.ref f_keep_take_off)))
    (i_keep_take_off : PySem.W.isFn K (.ref f_keep_take_off) = true)
    (d_keep_take_off : DefAt K .d_keep_take_off f_keep_take_off fd_keep_take_off)
    (a_tell_frames : PySem.W.nsIn K mainGlobals "tell_frames" = some (some (.ref f_tell_frames)))
    (d_tell_frames : DefAt K .d_tell_frames f_tell_frames fd_tell_frames)
    (a_tell_acts : PySem.W.nsIn K mainGlobals "tell_acts" = some (some (.ref f_tell_acts)))
    (d_tell_acts : DefAt K .d_tell_acts f_tell_acts fd_tell_acts)
    (a_tell_row : PySem.W.nsIn K mainGlobals "tell_row" = some (some (.ref f_tell_row)))
    (d_tell_row : DefAt K .d_tell_row f_tell_row fd_tell_row)
    (a_tell_pieces : PySem.W.nsIn K mainGlobals "tell_pieces" = some (some (.ref f_tell_pieces)))
    (d_tell_pieces : DefAt K .d_tell_pieces f_tell_pieces fd_tell_pieces)
    (a_tell_causes : PySem.W.nsIn K mainGlobals "tell_causes" = some (some (.ref f_tell_causes)))
    (d_tell_causes : DefAt K .d_tell_causes f_tell_causes fd_tell_causes)
    (a_drop_act : PySem.W.nsIn K mainGlobals "drop_act" = some (some (.ref f_drop_act)))
    (d_drop_act : DefAt K .d_drop_act f_drop_act fd_drop_act)
    (a_throw_on : PySem.W.nsIn K mainGlobals "throw_on" = some (some (.ref f_throw_on)))
    (d_throw_on : DefAt K .d_throw_on f_throw_on fd_throw_on)
    (a_throw_through_frame : PySem.W.nsIn K mainGlobals "throw_through_frame" = some (some (.ref f_throw_through_frame)))
    (d_throw_through_frame : DefAt K .d_throw_through_frame f_throw_through_frame fd_throw_through_frame)
    (a_catches : PySem.W.nsIn K mainGlobals "catches" = some (some (.ref f_catches)))
    (d_catches : DefAt K .d_catches f_catches fd_catches)
    (a_end_stack : PySem.W.nsIn K mainGlobals "end_stack" = some (some (.ref f_end_stack)))
    (d_end_stack : DefAt K .d_end_stack f_end_stack fd_end_stack)
    (a_joined : PySem.W.nsIn K mainGlobals "joined" = some (some (.ref f_joined)))
    (d_joined : DefAt K .d_joined f_joined fd_joined)
    (a_refuse : PySem.W.nsIn K mainGlobals "refuse" = some (some (.ref f_refuse)))
    (d_refuse : DefAt K .d_refuse f_refuse fd_refuse)
    (a_go_on : PySem.W.nsIn K mainGlobals "go_on" = some (some (.ref f_go_on)))
    (d_go_on : DefAt K .d_go_on f_go_on fd_go_on)
    (a_want_return : PySem.W.nsIn K mainGlobals "want_return" = some (some (.ref f_want_return)))
    (d_want_return : DefAt K .d_want_return f_want_return fd_want_return)
    (a_want_call : PySem.W.nsIn K mainGlobals "want_call" = some (some (.ref f_want_call)))
    (d_want_call : DefAt K .d_want_call f_want_call fd_want_call)
    (a_want_throw : PySem.W.nsIn K mainGlobals "want_throw" = some (some (.ref f_want_throw)))
    (d_want_throw : DefAt K .d_want_throw f_want_throw fd_want_throw)
    (a_want_handler : PySem.W.nsIn K mainGlobals "want_handler" = some (some (.ref f_want_handler)))
    (d_want_handler : DefAt K .d_want_handler f_want_handler fd_want_handler)
    (a_want_last : PySem.W.nsIn K mainGlobals "want_last" = some (some (.ref f_want_last)))
    (d_want_last : DefAt K .d_want_last f_want_last fd_want_last)
    (a_add_act : PySem.W.nsIn K mainGlobals "add_act" = some (some (.ref f_add_act)))
    (d_add_act : DefAt K .d_add_act f_add_act fd_add_act)
    (a_want_drop_act : PySem.W.nsIn K mainGlobals "want_drop_act" = some (some (.ref f_want_drop_act)))
    (d_want_drop_act : DefAt K .d_want_drop_act f_want_drop_act fd_want_drop_act)
    (a_want_hand_out : PySem.W.nsIn K mainGlobals "want_hand_out" = some (some (.ref f_want_hand_out)))
    (d_want_hand_out : DefAt K .d_want_hand_out f_want_hand_out fd_want_hand_out)
    (a_want_new_stack : PySem.W.nsIn K mainGlobals "want_new_stack" = some (some (.ref f_want_new_stack)))
    (d_want_new_stack : DefAt K .d_want_new_stack f_want_new_stack fd_want_new_stack)
    (a_want_go_on_with : PySem.W.nsIn K mainGlobals "want_go_on_with" = some (some (.ref f_want_go_on_with)))
    (d_want_go_on_with : DefAt K .d_want_go_on_with f_want_go_on_with fd_want_go_on_with)
    (a_want_end : PySem.W.nsIn K mainGlobals "want_end" = some (some (.ref f_want_end)))
    (d_want_end : DefAt K .d_want_end f_want_end fd_want_end)
    (a_want_throw_again : PySem.W.nsIn K mainGlobals "want_throw_again" = some (some (.ref f_want_throw_again)))
    (d_want_throw_again : DefAt K .d_want_throw_again f_want_throw_again fd_want_throw_again)
    (a_want_set_word : PySem.W.nsIn K mainGlobals "want_set_word" = some (some (.ref f_want_set_word)))
    (d_want_set_word : DefAt K .d_want_set_word f_want_set_word fd_want_set_word)
    (a_want_tell_word : PySem.W.nsIn K mainGlobals "want_tell_word" = some (some (.ref f_want_tell_word)))
    (d_want_tell_word : DefAt K .d_want_tell_word f_want_tell_word fd_want_tell_word)
    (a_take_step : PySem.W.nsIn K mainGlobals "take_step" = some (some (.ref f_take_step)))
    (d_take_step : DefAt K .d_take_step f_take_step fd_take_step)
    (a_call_new : PySem.W.nsIn K mainGlobals "call_new" = some (some (.ref f_call_new)))
    (d_call_new : DefAt K .d_call_new f_call_new fd_call_new)
    (a_call_go : PySem.W.nsIn K mainGlobals "call_go" = some (some (.ref f_call_go)))
    (d_call_go : DefAt K .d_call_go f_call_go fd_call_go)
    (a_call_send : PySem.W.nsIn K mainGlobals "call_send" = some (some (.ref f_call_send)))
    (d_call_send : DefAt K .d_call_send f_call_send fd_call_send)
    (a_call_hurl : PySem.W.nsIn K mainGlobals "call_hurl" = some (some (.ref f_call_hurl)))
    (d_call_hurl : DefAt K .d_call_hurl f_call_hurl fd_call_hurl)
    (a_call_end : PySem.W.nsIn K mainGlobals "call_end" = some (some (.ref f_call_end)))
    (d_call_end : DefAt K .d_call_end f_call_end fd_call_end)
    (a_call_on : PySem.W.nsIn K mainGlobals "call_on" = some (some (.ref f_call_on)))
    (d_call_on : DefAt K .d_call_on f_call_on fd_call_on)
    (a_call_frames : PySem.W.nsIn K mainGlobals "call_frames" = some (some (.ref f_call_frames)))
    (d_call_frames : DefAt K .d_call_frames f_call_frames fd_call_frames)
    (a_call_acts : PySem.W.nsIn K mainGlobals "call_acts" = some (some (.ref f_call_acts)))
    (d_call_acts : DefAt K .d_call_acts f_call_acts fd_call_acts)
    (a_call_row : PySem.W.nsIn K mainGlobals "call_row" = some (some (.ref f_call_row)))
    (d_call_row : DefAt K .d_call_row f_call_row fd_call_row)
    (a_call_pieces : PySem.W.nsIn K mainGlobals "call_pieces" = some (some (.ref f_call_pieces)))
    (d_call_pieces : DefAt K .d_call_pieces f_call_pieces fd_call_pieces)
    (a_call_causes : PySem.W.nsIn K mainGlobals "call_causes" = some (some (.ref f_call_causes)))
    (d_call_causes : DefAt K .d_call_causes f_call_causes fd_call_causes)
    (a_in_range : PySem.W.nsIn K mainGlobals "in_range" = some (some (.ref f_in_range)))
    (d_in_range : DefAt K .d_in_range f_in_range fd_in_range)
    (a_run_steps : PySem.W.nsIn K mainGlobals "run_steps" = some (some (.ref f_run_steps)))
    (d_run_steps : DefAt K .d_run_steps f_run_steps fd_run_steps)
    (a_how_many_numbers : PySem.W.nsIn K mainGlobals "how_many_numbers" = some (some (.ref f_how_many_numbers)))
    (d_how_many_numbers : DefAt K .d_how_many_numbers f_how_many_numbers fd_how_many_numbers)
    (a_do_call : PySem.W.nsIn K mainGlobals "do_call" = some (some (.ref f_do_call)))
    (d_do_call : DefAt K .d_do_call f_do_call fd_do_call)
    (a_answers : PySem.W.nsIn K mainGlobals "answers" = some (some (.ref f_answers)))
    (d_answers : DefAt K .d_answers f_answers fd_answers)
    (pg_frame : PySem.W.plainGet K C_frame Str.empty = true)
    (hd_frame : PySem.W.hasDictIn K C_frame = true)
    (po_frame : PySem.W.plainOver K C_frame = true)
    (sa_frame : PySem.W.findIn K (.ref C_frame) "__setattr__" = some (some (.builtin "object.__setattr__")))
    (mk_frame : PySem.W.makesIn K C_frame = true)
    (kc_frame : PySem.W.keepIn K (.ref C_frame) = true)
    (n_frame_function : PySem.W.findIn K (.ref C_frame) "function" = some none)
    (n_frame_place : PySem.W.findIn K (.ref C_frame) "place" = some none)
    (n_frame_words : PySem.W.findIn K (.ref C_frame) "words" = some none)
    (n_frame_caught : PySem.W.findIn K (.ref C_frame) "caught" = some none)
    (n_frame_acts : PySem.W.findIn K (.ref C_frame) "acts" = some none)
    (pg_stack : PySem.W.plainGet K C_stack Str.empty = true)
    (hd_stack : PySem.W.hasDictIn K C_stack = true)
    (po_stack : PySem.W.plainOver K C_stack = true)
    (sa_stack : PySem.W.findIn K (.ref C_stack) "__setattr__" = some (some (.builtin "object.__setattr__")))
    (mk_stack : PySem.W.makesIn K C_stack = true)
    (kc_stack : PySem.W.keepIn K (.ref C_stack) = true)
    (n_stack_number : PySem.W.findIn K (.ref C_stack) "number" = some none)
    (n_stack_frames : PySem.W.findIn K (.ref C_stack) "frames" = some none)
    (n_stack_pieces : PySem.W.findIn K (.ref C_stack) "pieces" = some none)
    (n_stack_on : PySem.W.findIn K (.ref C_stack) "on" = some none)
    (n_stack_waiter : PySem.W.findIn K (.ref C_stack) "waiter" = some none)
    (pg_throw : PySem.W.plainGet K C_throw Str.empty = true)
    (hd_throw : PySem.W.hasDictIn K C_throw = true)
    (po_throw : PySem.W.plainOver K C_throw = true)
    (sa_throw : PySem.W.findIn K (.ref C_throw) "__setattr__" = some (some (.builtin "object.__setattr__")))
    (mk_throw : PySem.W.makesIn K C_throw = true)
    (kc_throw : PySem.W.keepIn K (.ref C_throw) = true)
    (n_throw_kind : PySem.W.findIn K (.ref C_throw) "kind" = some none)
    (n_throw_value : PySem.W.findIn K (.ref C_throw) "value" = some none)
    (n_throw_causes : PySem.W.findIn K (.ref C_throw) "causes" = some none)
    (pg_asks : PySem.W.plainGet K C_asks Str.empty = true)
    (hd_asks : PySem.W.hasDictIn K C_asks = true)
    (po_asks : PySem.W.plainOver K C_asks = true)
    (sa_asks : PySem.W.findIn K (.ref C_asks) "__setattr__" = some (some (.builtin "object.__setattr__")))
    (mk_asks : PySem.W.makesIn K C_asks = true)
    (kc_asks : PySem.W.keepIn K (.ref C_asks) = true)
    (n_asks_replies : PySem.W.findIn K (.ref C_asks) "replies" = some none)
    (n_asks_asked : PySem.W.findIn K (.ref C_asks) "asked" = some none)
    (n_asks_told : PySem.W.findIn K (.ref C_asks) "told" = some none)
    (pg_keep : PySem.W.plainGet K C_keep Str.empty = true)
    (hd_keep : PySem.W.hasDictIn K C_keep = true)
    (po_keep : PySem.W.plainOver K C_keep = true)
    (sa_keep : PySem.W.findIn K (.ref C_keep) "__setattr__" = some (some (.builtin "object.__setattr__")))
    (mk_keep : PySem.W.makesIn K C_keep = true)
    (kc_keep : PySem.W.keepIn K (.ref C_keep) = true)
    (n_keep_stacks : PySem.W.findIn K (.ref C_keep) "stacks" = some none)
    (n_keep_taken : PySem.W.findIn K (.ref C_keep) "taken" = some none)
    (n_keep_running : PySem.W.findIn K (.ref C_keep) "running" = some none)
    (n_keep_come : PySem.W.findIn K (.ref C_keep) "come" = some none)
    (n_keep_uncaught : PySem.W.findIn K (.ref C_keep) "uncaught" = some none)
    (eq_stack : PySem.W.findIn K (.ref C_stack) "__eq__" = some (some (.builtin "object.__eq__")))
    (sub_stack : PySem.W.subIn K (.type "NoneType") (.ref C_stack) = some false)
    (k_HANDLER : PySem.W.nsIn K mainGlobals "HANDLER" = some (some (.int (0) t_HANDLER)))
    (k_LAST : PySem.W.nsIn K mainGlobals "LAST" = some (some (.int (1) t_LAST)))
    (k_KINDS : PySem.W.nsIn K mainGlobals "KINDS" = some (some (.int (256) t_KINDS)))
    (k_EVERY_KIND : PySem.W.nsIn K mainGlobals "EVERY_KIND" = some (some (.int (0) t_EVERY_KIND)))
    (k_WORDS : PySem.W.nsIn K mainGlobals "WORDS" = some (some (.int (4) t_WORDS)))
    (k_CAUSES_MOST : PySem.W.nsIn K mainGlobals "CAUSES_MOST" = some (some (.int (16) t_CAUSES_MOST)))
    (k_RUN : PySem.W.nsIn K mainGlobals "RUN" = some (some (.int (0) t_RUN)))
    (k_CLEAN : PySem.W.nsIn K mainGlobals "CLEAN" = some (some (.int (1) t_CLEAN)))
    (k_WHY_RETURN : PySem.W.nsIn K mainGlobals "WHY_RETURN" = some (some (.int (0) t_WHY_RETURN)))
    (k_WHY_THROW : PySem.W.nsIn K mainGlobals "WHY_THROW" = some (some (.int (1) t_WHY_THROW)))
    (k_WHY_END : PySem.W.nsIn K mainGlobals "WHY_END" = some (some (.int (2) t_WHY_END)))
    (k_STACKS_MOST : PySem.W.nsIn K mainGlobals "STACKS_MOST" = some (some (.int (64) t_STACKS_MOST)))
    (k_PIECES_MOST : PySem.W.nsIn K mainGlobals "PIECES_MOST" = some (some (.int (256) t_PIECES_MOST)))
    (k_PIECE_FRAMES : PySem.W.nsIn K mainGlobals "PIECE_FRAMES" = some (some (.int (8) t_PIECE_FRAMES)))
    (k_FIRST : PySem.W.nsIn K mainGlobals "FIRST" = some (some (.int (0) t_FIRST)))
    (k_SENT : PySem.W.nsIn K mainGlobals "SENT" = some (some (.int (6) t_SENT)))
    (k_ON : PySem.W.nsIn K mainGlobals "ON" = some (some (.int (1) t_ON)))
    (k_CUT : PySem.W.nsIn K mainGlobals "CUT" = some (some (.int (0) t_CUT)))
    (k_NOBODY : PySem.W.nsIn K mainGlobals "NOBODY" = some (some (.int (-1) t_NOBODY)))
    (k_UNCAUGHT : PySem.W.nsIn K mainGlobals "UNCAUGHT" = some (some (.int (1) t_UNCAUGHT)))
    (k_CAUGHT : PySem.W.nsIn K mainGlobals "CAUGHT" = some (some (.int (2) t_CAUGHT)))
    (k_PLACE_MOST : PySem.W.nsIn K mainGlobals "PLACE_MOST" = some (some (.int (4294967295) t_PLACE_MOST)))
    (k_ACTS_MOST : PySem.W.nsIn K mainGlobals "ACTS_MOST" = some (some (.int (32) t_ACTS_MOST)))
    (k_FUNCTIONS : PySem.W.nsIn K mainGlobals "FUNCTIONS" = some (some (.int (65536) t_FUNCTIONS)))
    (g_NM : PySem.W.nsIn K mainGlobals "NOTHING_MORE" = some (some (.ref nm3)))
    (l_NM : K.lookup nm3 = some ⟨.type "tuple", dn, .seq #[.int 0 tn1, .int 0 tn2, .int 0 tn3] nn, sln⟩)
    (k_CALLED : PySem.W.nsIn K mainGlobals "CALLED" = some (some (.int (0) t_CALLED)))
    (k_RETURNED : PySem.W.nsIn K mainGlobals "RETURNED" = some (some (.int (1) t_RETURNED)))
    (k_WORD : PySem.W.nsIn K mainGlobals "WORD" = some (some (.int (3) t_WORD)))
    (k_HANDED_OUT : PySem.W.nsIn K mainGlobals "HANDED_OUT" = some (some (.int (4) t_HANDED_OUT)))
    (k_STACK_RETURNED : PySem.W.nsIn K mainGlobals "STACK_RETURNED" = some (some (.int (5) t_STACK_RETURNED)))
    (k_STACK_MADE : PySem.W.nsIn K mainGlobals "STACK_MADE" = some (some (.int (7) t_STACK_MADE)))
    (k_REFUSED : PySem.W.nsIn K mainGlobals "REFUSED" = some (some (.int (8) t_REFUSED)))
    (k_ENDS_RETURNED : PySem.W.nsIn K mainGlobals "ENDS_RETURNED" = some (some (.int (0) t_ENDS_RETURNED)))
    (k_ENDS_HANDED_OUT : PySem.W.nsIn K mainGlobals "ENDS_HANDED_OUT" = some (some (.int (2) t_ENDS_HANDED_OUT)))
    (k_NO_WANT : PySem.W.nsIn K mainGlobals "NO_WANT" = some (some (.int (15) t_NO_WANT)))
    (g_W : PySem.W.nsIn K mainGlobals "WANTS" = some (some (.ref wants)))
    (l_W : K.lookup wants = some ⟨.type "tuple", dw, .seq #[.ref f_want_return, .ref f_want_call, .ref f_want_throw, .ref f_want_handler, .ref f_want_last, .ref f_want_drop_act, .ref f_want_hand_out, .ref f_want_new_stack, .ref f_want_go_on_with, .ref f_want_end, .ref f_want_throw_again, .ref f_want_set_word, .ref f_want_tell_word] nw, slw⟩)
    (k_FUNCTION_MOST : PySem.W.nsIn K mainGlobals "FUNCTION_MOST" = some (some (.int (65535) t_FUNCTION_MOST)))
    (k_KIND_MOST : PySem.W.nsIn K mainGlobals "KIND_MOST" = some (some (.int (255) t_KIND_MOST)))
    (k_BUDGET_MOST : PySem.W.nsIn K mainGlobals "BUDGET_MOST" = some (some (.int (100000) t_BUDGET_MOST)))
    (k_STOPPED : PySem.W.nsIn K mainGlobals "STOPPED" = some (some (.int (3) t_STOPPED)))
    (k_NO_SUCH_STACK : PySem.W.nsIn K mainGlobals "NO_SUCH_STACK" = some (some (.int (-2) t_NO_SUCH_STACK)))
    (k_NOTHING_STOPPED : PySem.W.nsIn K mainGlobals "NOTHING_STOPPED" = some (some (.int (-3) t_NOTHING_STOPPED)))
    (k_NO_SUCH_FRAME : PySem.W.nsIn K mainGlobals "NO_SUCH_FRAME" = some (some (.int (-3) t_NO_SUCH_FRAME)))
    (k_NOTHING_UNCAUGHT : PySem.W.nsIn K mainGlobals "NOTHING_UNCAUGHT" = some (some (.int (-3) t_NOTHING_UNCAUGHT)))
    (k_NO_ROOM : PySem.W.nsIn K mainGlobals "NO_ROOM" = some (some (.int (-4) t_NO_ROOM)))
    (k_IS_STOPPED : PySem.W.nsIn K mainGlobals "IS_STOPPED" = some (some (.int (-5) t_IS_STOPPED)))
    (k_OUT_OF_RANGE : PySem.W.nsIn K mainGlobals "OUT_OF_RANGE" = some (some (.int (-8) t_OUT_OF_RANGE)))
    (g_C : PySem.W.nsIn K mainGlobals "CALLS" = some (some (.ref calls)))
    (l_C : K.lookup calls = some { cls := .type "dict", data := .dict #[⟨1, .int 1 tc1, .ref f_call_new⟩, ⟨2, .int 2 tc2, .ref f_call_go⟩, ⟨3, .int 3 tc3, .ref f_call_send⟩, ⟨4, .int 4 tc4, .ref f_call_hurl⟩, ⟨5, .int 5 tc5, .ref f_call_end⟩, ⟨6, .int 6 tc6, .ref f_call_on⟩, ⟨7, .int 7 tc7, .ref f_call_frames⟩, ⟨8, .int 8 tc8, .ref f_call_acts⟩, ⟨9, .int 9 tc9, .ref f_call_row⟩, ⟨10, .int 10 tc10, .ref f_call_pieces⟩, ⟨11, .int 11 tc11, .ref f_call_causes⟩] epc })
    (g_N : PySem.W.nsIn K mainGlobals "NUMBERS_AHEAD_OF_REPLIES" = some (some (.ref numb)))
    (l_N : K.lookup numb = some { cls := .type "dict", data := .dict #[⟨1, .int 1 td1, .int 0 te1⟩, ⟨2, .int 2 td2, .int 3 te2⟩, ⟨3, .int 3 td3, .int 3 te3⟩, ⟨4, .int 4 td4, .int 4 te4⟩, ⟨5, .int 5 td5, .int 1 te5⟩, ⟨6, .int 6 td6, .int 1 te6⟩, ⟨7, .int 7 td7, .int 1 te7⟩, ⟨8, .int 8 td8, .int 2 te8⟩, ⟨9, .int 9 td9, .int 0 te9⟩, ⟨10, .int 10 td10, .int 1 te10⟩, ⟨11, .int 11 td11, .int 0 te11⟩] epn })
    (b_len : PySem.W.nsIn K mainGlobals "len" = some none)
    (b_range : PySem.W.nsIn K mainGlobals "range" = some none)
    (b_min : PySem.W.nsIn K mainGlobals "min" = some none)
    (b_reversed : PySem.W.nsIn K mainGlobals "reversed" = some none)
    : ∃ A : Ad, Txt P w K mg A ∧ ∀ us : List Value, us.length = 1 → bindArgs (A.fd .d_answers) ⟨us, []⟩ = pure (([("calls" : Str)]).zip us) := by
  have mgo : ∀ {n : Str} {v : Value}, PySem.W.nsIn K mainGlobals n = some (some v) → mg n = some v := fun e => PySem.W.mg_of X G e
  have mgn : ∀ {n : Str}, PySem.W.nsIn K mainGlobals n = some none → mg n = none := fun e => PySem.W.mg_none_of X G e
  obtain ⟨fA, hfA⟩ : ∃ fA : Df → Addr, fA = fun d => match d with
    | .d_frame_init => f_frame_init
    | .d_frame_is_new => f_frame_is_new
    | .d_stack_init => f_stack_init
    | .d_stack_innermost => f_stack_innermost
    | .d_throw_init => f_throw_init
    | .d_throw_of_number => f_throw_of_number
    | .d_in_place_of => f_in_place_of
    | .d_asks_init => f_asks_init
    | .d_asks_ask => f_asks_ask
    | .d_asks_run => f_asks_run
    | .d_asks_clean => f_asks_clean
    | .d_keep_init => f_keep_init
    | .d_keep_make_empty => f_keep_make_empty
    | .d_keep_is_stopped => f_keep_is_stopped
    | .d_keep_find_stack => f_keep_find_stack
    | .d_keep_cut_stack => f_keep_cut_stack
    | .d_keep_add_stack => f_keep_add_stack
    | .d_keep_add_frame => f_keep_add_frame
    | .d_keep_drop_frame => f_keep_drop_frame
    | .d_keep_drop_stack => f_keep_drop_stack
    | .d_keep_put_on => f_keep_put_on
    | .d_keep_put_on_sending => f_keep_put_on_sending
    | .d_keep_take_off => f_keep_take_off
    | .d_tell_frames => f_tell_frames
    | .d_tell_acts => f_tell_acts
    | .d_tell_row => f_tell_row
    | .d_tell_pieces => f_tell_pieces
    | .d_tell_causes => f_tell_causes
    | .d_drop_act => f_drop_act
    | .d_throw_on => f_throw_on
    | .d_throw_through_frame => f_throw_through_frame
    | .d_catches => f_catches
    | .d_end_stack => f_end_stack
    | .d_joined => f_joined
    | .d_refuse => f_refuse
    | .d_go_on => f_go_on
    | .d_want_return => f_want_return
    | .d_want_call => f_want_call
    | .d_want_throw => f_want_throw
    | .d_want_handler => f_want_handler
    | .d_want_last => f_want_last
    | .d_add_act => f_add_act
    | .d_want_drop_act => f_want_drop_act
    | .d_want_hand_out => f_want_hand_out
    | .d_want_new_stack => f_want_new_stack
    | .d_want_go_on_with => f_want_go_on_with
    | .d_want_end => f_want_end
    | .d_want_throw_again => f_want_throw_again
    | .d_want_set_word => f_want_set_word
    | .d_want_tell_word => f_want_tell_word
    | .d_take_step => f_take_step
    | .d_call_new => f_call_new
    | .d_call_go => f_call_go
    | .d_call_send => f_call_send
    | .d_call_hurl => f_call_hurl
    | .d_call_end => f_call_end
    | .d_call_on => f_call_on
    | .d_call_frames => f_call_frames
    | .d_call_acts => f_call_acts
    | .d_call_row => f_call_row
    | .d_call_pieces => f_call_pieces
    | .d_call_causes => f_call_causes
    | .d_in_range => f_in_range
    | .d_run_steps => f_run_steps
    | .d_how_many_numbers => f_how_many_numbers
    | .d_do_call => f_do_call
    | .d_answers => f_answers := ⟨_, rfl⟩
  obtain ⟨fdA, hfdA⟩ : ∃ fdA : Df → FuncData, fdA = fun d => match d with
    | .d_frame_init => fd_frame_init
    | .d_frame_is_new => fd_frame_is_new
    | .d_stack_init => fd_stack_init
    | .d_stack_innermost => fd_stack_innermost
    | .d_throw_init => fd_throw_init
    | .d_throw_of_number => fd_throw_of_number
    | .d_in_place_of => fd_in_place_of
    | .d_asks_init => fd_asks_init
    | .d_asks_ask => fd_asks_ask
    | .d_asks_run => fd_asks_run
    | .d_asks_clean => fd_asks_clean
    | .d_keep_init => fd_keep_init
    | .d_keep_make_empty => fd_keep_make_empty
    | .d_keep_is_stopped => fd_keep_is_stopped
    | .d_keep_find_stack => fd_keep_find_stack
    | .d_keep_cut_stack => fd_keep_cut_stack
    | .d_keep_add_stack => fd_keep_add_stack
    | .d_keep_add_frame => fd_keep_add_frame
    | .d_keep_drop_frame => fd_keep_drop_frame
    | .d_keep_drop_stack => fd_keep_drop_stack
    | .d_keep_put_on => fd_keep_put_on
    | .d_keep_put_on_sending => fd_keep_put_on_sending
    | .d_keep_take_off => fd_keep_take_off
    | .d_tell_frames => fd_tell_frames
    | .d_tell_acts => fd_tell_acts
    | .d_tell_row => fd_tell_row
    | .d_tell_pieces => fd_tell_pieces
    | .d_tell_causes => fd_tell_causes
    | .d_drop_act => fd_drop_act
    | .d_throw_on => fd_throw_on
    | .d_throw_through_frame => fd_throw_through_frame
    | .d_catches => fd_catches
    | .d_end_stack => fd_end_stack
    | .d_joined => fd_joined
    | .d_refuse => fd_refuse
    | .d_go_on => fd_go_on
    | .d_want_return => fd_want_return
    | .d_want_call => fd_want_call
    | .d_want_throw => fd_want_throw
    | .d_want_handler => fd_want_handler
    | .d_want_last => fd_want_last
    | .d_add_act => fd_add_act
    | .d_want_drop_act => fd_want_drop_act
    | .d_want_hand_out => fd_want_hand_out
    | .d_want_new_stack => fd_want_new_stack
    | .d_want_go_on_with => fd_want_go_on_with
    | .d_want_end => fd_want_end
    | .d_want_throw_again => fd_want_throw_again
    | .d_want_set_word => fd_want_set_word
    | .d_want_tell_word => fd_want_tell_word
    | .d_take_step => fd_take_step
    | .d_call_new => fd_call_new
    | .d_call_go => fd_call_go
    | .d_call_send => fd_call_send
    | .d_call_hurl => fd_call_hurl
    | .d_call_end => fd_call_end
    | .d_call_on => fd_call_on
    | .d_call_frames => fd_call_frames
    | .d_call_acts => fd_call_acts
    | .d_call_row => fd_call_row
    | .d_call_pieces => fd_call_pieces
    | .d_call_causes => fd_call_causes
    | .d_in_range => fd_in_range
    | .d_run_steps => fd_run_steps
    | .d_how_many_numbers => fd_how_many_numbers
    | .d_do_call => fd_do_call
    | .d_answers => fd_answers := ⟨_, rfl⟩
  have all : ∀ d, DefAt K d (fA d) (fdA d) := by
    rw [hfA, hfdA]
    exact fun d => match d with
      | .d_frame_init => d_frame_init
      | .d_frame_is_new => d_frame_is_new
      | .d_stack_init => d_stack_init
      | .d_stack_innermost => d_stack_innermost
      | .d_throw_init => d_throw_init
      | .d_throw_of_number => d_throw_of_number
      | .d_in_place_of => d_in_place_of
      | .d_asks_init => d_asks_init
      | .d_asks_ask => d_asks_ask
      | .d_asks_run => d_asks_run
      | .d_asks_clean => d_asks_clean
      | .d_keep_init => d_keep_init
      | .d_keep_make_empty => d_keep_make_empty
      | .d_keep_is_stopped => d_keep_is_stopped
      | .d_keep_find_stack => d_keep_find_stack
      | .d_keep_cut_stack => d_keep_cut_stack
      | .d_keep_add_stack => d_keep_add_stack
      | .d_keep_add_frame => d_keep_add_frame
      | .d_keep_drop_frame => d_keep_drop_frame
      | .d_keep_drop_stack => d_keep_drop_stack
      | .d_keep_put_on => d_keep_put_on
      | .d_keep_put_on_sending => d_keep_put_on_sending
      | .d_keep_take_off => d_keep_take_off
      | .d_tell_frames => d_tell_frames
      | .d_tell_acts => d_tell_acts
      | .d_tell_row => d_tell_row
      | .d_tell_pieces => d_tell_pieces
      | .d_tell_causes => d_tell_causes
      | .d_drop_act => d_drop_act
      | .d_throw_on => d_throw_on
      | .d_throw_through_frame => d_throw_through_frame
      | .d_catches => d_catches
      | .d_end_stack => d_end_stack
      | .d_joined => d_joined
      | .d_refuse => d_refuse
      | .d_go_on => d_go_on
      | .d_want_return => d_want_return
      | .d_want_call => d_want_call
      | .d_want_throw => d_want_throw
      | .d_want_handler => d_want_handler
      | .d_want_last => d_want_last
      | .d_add_act => d_add_act
      | .d_want_drop_act => d_want_drop_act
      | .d_want_hand_out => d_want_hand_out
      | .d_want_new_stack => d_want_new_stack
      | .d_want_go_on_with => d_want_go_on_with
      | .d_want_end => d_want_end
      | .d_want_throw_again => d_want_throw_again
      | .d_want_set_word => d_want_set_word
      | .d_want_tell_word => d_want_tell_word
      | .d_take_step => d_take_step
      | .d_call_new => d_call_new
      | .d_call_go => d_call_go
      | .d_call_send => d_call_send
      | .d_call_hurl => d_call_hurl
      | .d_call_end => d_call_end
      | .d_call_on => d_call_on
      | .d_call_frames => d_call_frames
      | .d_call_acts => d_call_acts
      | .d_call_row => d_call_row
      | .d_call_pieces => d_call_pieces
      | .d_call_causes => d_call_causes
      | .d_in_range => d_in_range
      | .d_run_steps => d_run_steps
      | .d_how_many_numbers => d_how_many_numbers
      | .d_do_call => d_do_call
      | .d_answers => d_answers
  have e_frame_init : fA .d_frame_init = f_frame_init := congrFun hfA .d_frame_init
  have e_frame_is_new : fA .d_frame_is_new = f_frame_is_new := congrFun hfA .d_frame_is_new
  have e_stack_init : fA .d_stack_init = f_stack_init := congrFun hfA .d_stack_init
  have e_stack_innermost : fA .d_stack_innermost = f_stack_innermost := congrFun hfA .d_stack_innermost
  have e_throw_init : fA .d_throw_init = f_throw_init := congrFun hfA .d_throw_init
  have e_throw_of_number : fA .d_throw_of_number = f_throw_of_number := congrFun hfA .d_throw_of_number
  have e_in_place_of : fA .d_in_place_of = f_in_place_of := congrFun hfA .d_in_place_of
  have e_asks_init : fA .d_asks_init = f_asks_init := congrFun hfA .d_asks_init
  have e_asks_ask : fA .d_asks_ask = f_asks_ask := congrFun hfA .d_asks_ask
  have e_asks_run : fA .d_asks_run = f_asks_run := congrFun hfA .d_asks_run
  have e_asks_clean : fA .d_asks_clean = f_asks_clean := congrFun hfA .d_asks_clean
  have e_keep_init : fA .d_keep_init = f_keep_init := congrFun hfA .d_keep_init
  have e_keep_make_empty : fA .d_keep_make_empty = f_keep_make_empty := congrFun hfA .d_keep_make_empty
  have e_keep_is_stopped : fA .d_keep_is_stopped = f_keep_is_stopped := congrFun hfA .d_keep_is_stopped
  have e_keep_find_stack : fA .d_keep_find_stack = f_keep_find_stack := congrFun hfA .d_keep_find_stack
  have e_keep_cut_stack : fA .d_keep_cut_stack = f_keep_cut_stack := congrFun hfA .d_keep_cut_stack
  have e_keep_add_stack : fA .d_keep_add_stack = f_keep_add_stack := congrFun hfA .d_keep_add_stack
  have e_keep_add_frame : fA .d_keep_add_frame = f_keep_add_frame := congrFun hfA .d_keep_add_frame
  have e_keep_drop_frame : fA .d_keep_drop_frame = f_keep_drop_frame := congrFun hfA .d_keep_drop_frame
  have e_keep_drop_stack : fA .d_keep_drop_stack = f_keep_drop_stack := congrFun hfA .d_keep_drop_stack
  have e_keep_put_on : fA .d_keep_put_on = f_keep_put_on := congrFun hfA .d_keep_put_on
  have e_keep_put_on_sending : fA .d_keep_put_on_sending = f_keep_put_on_sending := congrFun hfA .d_keep_put_on_sending
  have e_keep_take_off : fA .d_keep_take_off = f_keep_take_off := congrFun hfA .d_keep_take_off
  have e_tell_frames : fA .d_tell_frames = f_tell_frames := congrFun hfA .d_tell_frames
  have e_tell_acts : fA .d_tell_acts = f_tell_acts := congrFun hfA .d_tell_acts
  have e_tell_row : fA .d_tell_row = f_tell_row := congrFun hfA .d_tell_row
  have e_tell_pieces : fA .d_tell_pieces = f_tell_pieces := congrFun hfA .d_tell_pieces
  have e_tell_causes : fA .d_tell_causes = f_tell_causes := congrFun hfA .d_tell_causes
  have e_drop_act : fA .d_drop_act = f_drop_act := congrFun hfA .d_drop_act
  have e_throw_on : fA .d_throw_on = f_throw_on := congrFun hfA .d_throw_on
  have e_throw_through_frame : fA .d_throw_through_frame = f_throw_through_frame := congrFun hfA .d_throw_through_frame
  have e_catches : fA .d_catches = f_catches := congrFun hfA .d_catches
  have e_end_stack : fA .d_end_stack = f_end_stack := congrFun hfA .d_end_stack
  have e_joined : fA .d_joined = f_joined := congrFun hfA .d_joined
  have e_refuse : fA .d_refuse = f_refuse := congrFun hfA .d_refuse
  have e_go_on : fA .d_go_on = f_go_on := congrFun hfA .d_go_on
  have e_want_return : fA .d_want_return = f_want_return := congrFun hfA .d_want_return
  have e_want_call : fA .d_want_call = f_want_call := congrFun hfA .d_want_call
  have e_want_throw : fA .d_want_throw = f_want_throw := congrFun hfA .d_want_throw
  have e_want_handler : fA .d_want_handler = f_want_handler := congrFun hfA .d_want_handler
  have e_want_last : fA .d_want_last = f_want_last := congrFun hfA .d_want_last
  have e_add_act : fA .d_add_act = f_add_act := congrFun hfA .d_add_act
  have e_want_drop_act : fA .d_want_drop_act = f_want_drop_act := congrFun hfA .d_want_drop_act
  have e_want_hand_out : fA .d_want_hand_out = f_want_hand_out := congrFun hfA .d_want_hand_out
  have e_want_new_stack : fA .d_want_new_stack = f_want_new_stack := congrFun hfA .d_want_new_stack
  have e_want_go_on_with : fA .d_want_go_on_with = f_want_go_on_with := congrFun hfA .d_want_go_on_with
  have e_want_end : fA .d_want_end = f_want_end := congrFun hfA .d_want_end
  have e_want_throw_again : fA .d_want_throw_again = f_want_throw_again := congrFun hfA .d_want_throw_again
  have e_want_set_word : fA .d_want_set_word = f_want_set_word := congrFun hfA .d_want_set_word
  have e_want_tell_word : fA .d_want_tell_word = f_want_tell_word := congrFun hfA .d_want_tell_word
  have e_take_step : fA .d_take_step = f_take_step := congrFun hfA .d_take_step
  have e_call_new : fA .d_call_new = f_call_new := congrFun hfA .d_call_new
  have e_call_go : fA .d_call_go = f_call_go := congrFun hfA .d_call_go
  have e_call_send : fA .d_call_send = f_call_send := congrFun hfA .d_call_send
  have e_call_hurl : fA .d_call_hurl = f_call_hurl := congrFun hfA .d_call_hurl
  have e_call_end : fA .d_call_end = f_call_end := congrFun hfA .d_call_end
  have e_call_on : fA .d_call_on = f_call_on := congrFun hfA .d_call_on
  have e_call_frames : fA .d_call_frames = f_call_frames := congrFun hfA .d_call_frames
  have e_call_acts : fA .d_call_acts = f_call_acts := congrFun hfA .d_call_acts
  have e_call_row : fA .d_call_row = f_call_row := congrFun hfA .d_call_row
  have e_call_pieces : fA .d_call_pieces = f_call_pieces := congrFun hfA .d_call_pieces
  have e_call_causes : fA .d_call_causes = f_call_causes := congrFun hfA .d_call_causes
  have e_in_range : fA .d_in_range = f_in_range := congrFun hfA .d_in_range
  have e_run_steps : fA .d_run_steps = f_run_steps := congrFun hfA .d_run_steps
  have e_how_many_numbers : fA .d_how_many_numbers = f_how_many_numbers := congrFun hfA .d_how_many_numbers
  have e_do_call : fA .d_do_call = f_do_call := congrFun hfA .d_do_call
  have e_answers : fA .d_answers = f_answers := congrFun hfA .d_answers
  have cl_frame : Cls K C_frame := ⟨pg_frame, hd_frame, po_frame, sa_frame⟩
  have cl_stack : Cls K C_stack := ⟨pg_stack, hd_stack, po_stack, sa_stack⟩
  have cl_throw : Cls K C_throw := ⟨pg_throw, hd_throw, po_throw, sa_throw⟩
  have cl_asks : Cls K C_asks := ⟨pg_asks, hd_asks, po_asks, sa_asks⟩
  have cl_keep : Cls K C_keep := ⟨pg_keep, hd_keep, po_keep, sa_keep⟩
  have g1_throw_of_number : PySem.W.nsIn K mainGlobals "throw_of_number" = some (some (.ref (fA .d_throw_of_number))) := by rw [e_throw_of_number]; exact a_throw_of_number
  have g1_in_place_of : PySem.W.nsIn K mainGlobals "in_place_of" = some (some (.ref (fA .d_in_place_of))) := by rw [e_in_place_of]; exact a_in_place_of
  have g1_tell_frames : PySem.W.nsIn K mainGlobals "tell_frames" = some (some (.ref (fA .d_tell_frames))) := by rw [e_tell_frames]; exact a_tell_frames
  have g1_tell_acts : PySem.W.nsIn K mainGlobals "tell_acts" = some (some (.ref (fA .d_tell_acts))) := by rw [e_tell_acts]; exact a_tell_acts
  have g1_tell_row : PySem.W.nsIn K mainGlobals "tell_row" = some (some (.ref (fA .d_tell_row))) := by rw [e_tell_row]; exact a_tell_row
  have g1_tell_pieces : PySem.W.nsIn K mainGlobals "tell_pieces" = some (some (.ref (fA .d_tell_pieces))) := by rw [e_tell_pieces]; exact a_tell_pieces
  have g1_tell_causes : PySem.W.nsIn K mainGlobals "tell_causes" = some (some (.ref (fA .d_tell_causes))) := by rw [e_tell_causes]; exact a_tell_causes
  have g1_drop_act : PySem.W.nsIn K mainGlobals "drop_act" = some (some (.ref (fA .d_drop_act))) := by rw [e_drop_act]; exact a_drop_act
  have g1_throw_on : PySem.W.nsIn K mainGlobals "throw_on" = some (some (.ref (fA .d_throw_on))) := by rw [e_throw_on]; exact a_throw_on
  have g1_throw_through_frame : PySem.W.nsIn K mainGlobals "throw_through_frame" = some (some (.ref (fA .d_throw_through_frame))) := by rw [e_throw_through_frame]; exact a_throw_through_frame
  have g1_catches : PySem.W.nsIn K mainGlobals "catches" = some (some (.ref (fA .d_catches))) := by rw [e_catches]; exact a_catches
  have g1_end_stack : PySem.W.nsIn K mainGlobals "end_stack" = some (some (.ref (fA .d_end_stack))) := by rw [e_end_stack]; exact a_end_stack
  have g1_joined : PySem.W.nsIn K mainGlobals "joined" = some (some (.ref (fA .d_joined))) := by rw [e_joined]; exact a_joined
  have g1_refuse : PySem.W.nsIn K mainGlobals "refuse" = some (some (.ref (fA .d_refuse))) := by rw [e_refuse]; exact a_refuse
  have g1_go_on : PySem.W.nsIn K mainGlobals "go_on" = some (some (.ref (fA .d_go_on))) := by rw [e_go_on]; exact a_go_on
  have g1_want_return : PySem.W.nsIn K mainGlobals "want_return" = some (some (.ref (fA .d_want_return))) := by rw [e_want_return]; exact a_want_return
  have g1_want_call : PySem.W.nsIn K mainGlobals "want_call" = some (some (.ref (fA .d_want_call))) := by rw [e_want_call]; exact a_want_call
  have g1_want_throw : PySem.W.nsIn K mainGlobals "want_throw" = some (some (.ref (fA .d_want_throw))) := by rw [e_want_throw]; exact a_want_throw
  have g1_want_handler : PySem.W.nsIn K mainGlobals "want_handler" = some (some (.ref (fA .d_want_handler))) := by rw [e_want_handler]; exact a_want_handler
  have g1_want_last : PySem.W.nsIn K mainGlobals "want_last" = some (some (.ref (fA .d_want_last))) := by rw [e_want_last]; exact a_want_last
  have g1_add_act : PySem.W.nsIn K mainGlobals "add_act" = some (some (.ref (fA .d_add_act))) := by rw [e_add_act]; exact a_add_act
  have g1_want_drop_act : PySem.W.nsIn K mainGlobals "want_drop_act" = some (some (.ref (fA .d_want_drop_act))) := by rw [e_want_drop_act]; exact a_want_drop_act
  have g1_want_hand_out : PySem.W.nsIn K mainGlobals "want_hand_out" = some (some (.ref (fA .d_want_hand_out))) := by rw [e_want_hand_out]; exact a_want_hand_out
  have g1_want_new_stack : PySem.W.nsIn K mainGlobals "want_new_stack" = some (some (.ref (fA .d_want_new_stack))) := by rw [e_want_new_stack]; exact a_want_new_stack
  have g1_want_go_on_with : PySem.W.nsIn K mainGlobals "want_go_on_with" = some (some (.ref (fA .d_want_go_on_with))) := by rw [e_want_go_on_with]; exact a_want_go_on_with
  have g1_want_end : PySem.W.nsIn K mainGlobals "want_end" = some (some (.ref (fA .d_want_end))) := by rw [e_want_end]; exact a_want_end
  have g1_want_throw_again : PySem.W.nsIn K mainGlobals "want_throw_again" = some (some (.ref (fA .d_want_throw_again))) := by rw [e_want_throw_again]; exact a_want_throw_again
  have g1_want_set_word : PySem.W.nsIn K mainGlobals "want_set_word" = some (some (.ref (fA .d_want_set_word))) := by rw [e_want_set_word]; exact a_want_set_word
  have g1_want_tell_word : PySem.W.nsIn K mainGlobals "want_tell_word" = some (some (.ref (fA .d_want_tell_word))) := by rw [e_want_tell_word]; exact a_want_tell_word
  have g1_take_step : PySem.W.nsIn K mainGlobals "take_step" = some (some (.ref (fA .d_take_step))) := by rw [e_take_step]; exact a_take_step
  have g1_call_new : PySem.W.nsIn K mainGlobals "call_new" = some (some (.ref (fA .d_call_new))) := by rw [e_call_new]; exact a_call_new
  have g1_call_go : PySem.W.nsIn K mainGlobals "call_go" = some (some (.ref (fA .d_call_go))) := by rw [e_call_go]; exact a_call_go
  have g1_call_send : PySem.W.nsIn K mainGlobals "call_send" = some (some (.ref (fA .d_call_send))) := by rw [e_call_send]; exact a_call_send
  have g1_call_hurl : PySem.W.nsIn K mainGlobals "call_hurl" = some (some (.ref (fA .d_call_hurl))) := by rw [e_call_hurl]; exact a_call_hurl
  have g1_call_end : PySem.W.nsIn K mainGlobals "call_end" = some (some (.ref (fA .d_call_end))) := by rw [e_call_end]; exact a_call_end
  have g1_call_on : PySem.W.nsIn K mainGlobals "call_on" = some (some (.ref (fA .d_call_on))) := by rw [e_call_on]; exact a_call_on
  have g1_call_frames : PySem.W.nsIn K mainGlobals "call_frames" = some (some (.ref (fA .d_call_frames))) := by rw [e_call_frames]; exact a_call_frames
  have g1_call_acts : PySem.W.nsIn K mainGlobals "call_acts" = some (some (.ref (fA .d_call_acts))) := by rw [e_call_acts]; exact a_call_acts
  have g1_call_row : PySem.W.nsIn K mainGlobals "call_row" = some (some (.ref (fA .d_call_row))) := by rw [e_call_row]; exact a_call_row
  have g1_call_pieces : PySem.W.nsIn K mainGlobals "call_pieces" = some (some (.ref (fA .d_call_pieces))) := by rw [e_call_pieces]; exact a_call_pieces
  have g1_call_causes : PySem.W.nsIn K mainGlobals "call_causes" = some (some (.ref (fA .d_call_causes))) := by rw [e_call_causes]; exact a_call_causes
  have g1_in_range : PySem.W.nsIn K mainGlobals "in_range" = some (some (.ref (fA .d_in_range))) := by rw [e_in_range]; exact a_in_range
  have g1_run_steps : PySem.W.nsIn K mainGlobals "run_steps" = some (some (.ref (fA .d_run_steps))) := by rw [e_run_steps]; exact a_run_steps
  have g1_how_many_numbers : PySem.W.nsIn K mainGlobals "how_many_numbers" = some (some (.ref (fA .d_how_many_numbers))) := by rw [e_how_many_numbers]; exact a_how_many_numbers
  have g1_do_call : PySem.W.nsIn K mainGlobals "do_call" = some (some (.ref (fA .d_do_call))) := by rw [e_do_call]; exact a_do_call
  have g1_answers : PySem.W.nsIn K mainGlobals "answers" = some (some (.ref (fA .d_answers))) := by rw [e_answers]; exact a_answers
  have mk1_frame : Mk K C_frame (fA .d_frame_init) := by rw [e_frame_init]; exact ⟨mk_frame, a_frame_init, i_frame_init, kc_frame⟩
  have m1_frame_is_new : Meth K C_frame "is_new" (fA .d_frame_is_new) := by rw [e_frame_is_new]; exact ⟨a_frame_is_new, i_frame_is_new, d_frame_is_new.fn.kp⟩
  have mk1_stack : Mk K C_stack (fA .d_stack_init) := by rw [e_stack_init]; exact ⟨mk_stack, a_stack_init, i_stack_init, kc_stack⟩
  have m1_stack_innermost : Meth K C_stack "innermost" (fA .d_stack_innermost) := by rw [e_stack_innermost]; exact ⟨a_stack_innermost, i_stack_innermost, d_stack_innermost.fn.kp⟩
  have mk1_throw : Mk K C_throw (fA .d_throw_init) := by rw [e_throw_init]; exact ⟨mk_throw, a_throw_init, i_throw_init, kc_throw⟩
  have mk1_asks : Mk K C_asks (fA .d_asks_init) := by rw [e_asks_init]; exact ⟨mk_asks, a_asks_init, i_asks_init, kc_asks⟩
  have m1_asks_ask : Meth K C_asks "ask" (fA .d_asks_ask) := by rw [e_asks_ask]; exact ⟨a_asks_ask, i_asks_ask, d_asks_ask.fn.kp⟩
  have m1_asks_run : Meth K C_asks "run" (fA .d_asks_run) := by rw [e_asks_run]; exact ⟨a_asks_run, i_asks_run, d_asks_run.fn.kp⟩
  have m1_asks_clean : Meth K C_asks "clean" (fA .d_asks_clean) := by rw [e_asks_clean]; exact ⟨a_asks_clean, i_asks_clean, d_asks_clean.fn.kp⟩
  have mk1_keep : Mk K C_keep (fA .d_keep_init) := by rw [e_keep_init]; exact ⟨mk_keep, a_keep_init, i_keep_init, kc_keep⟩
  have m1_keep_make_empty : Meth K C_keep "make_empty" (fA .d_keep_make_empty) := by rw [e_keep_make_empty]; exact ⟨a_keep_make_empty, i_keep_make_empty, d_keep_make_empty.fn.kp⟩
  have m1_keep_is_stopped : Meth K C_keep "is_stopped" (fA .d_keep_is_stopped) := by rw [e_keep_is_stopped]; exact ⟨a_keep_is_stopped, i_keep_is_stopped, d_keep_is_stopped.fn.kp⟩
  have m1_keep_find_stack : Meth K C_keep "find_stack" (fA .d_keep_find_stack) := by rw [e_keep_find_stack]; exact ⟨a_keep_find_stack, i_keep_find_stack, d_keep_find_stack.fn.kp⟩
  have m1_keep_cut_stack : Meth K C_keep "cut_stack" (fA .d_keep_cut_stack) := by rw [e_keep_cut_stack]; exact ⟨a_keep_cut_stack, i_keep_cut_stack, d_keep_cut_stack.fn.kp⟩
  have m1_keep_add_stack : Meth K C_keep "add_stack" (fA .d_keep_add_stack) := by rw [e_keep_add_stack]; exact ⟨a_keep_add_stack, i_keep_add_stack, d_keep_add_stack.fn.kp⟩
  have m1_keep_add_frame : Meth K C_keep "add_frame" (fA .d_keep_add_frame) := by rw [e_keep_add_frame]; exact ⟨a_keep_add_frame, i_keep_add_frame, d_keep_add_frame.fn.kp⟩
  have m1_keep_drop_frame : Meth K C_keep "drop_frame" (fA .d_keep_drop_frame) := by rw [e_keep_drop_frame]; exact ⟨a_keep_drop_frame, i_keep_drop_frame, d_keep_drop_frame.fn.kp⟩
  have m1_keep_drop_stack : Meth K C_keep "drop_stack" (fA .d_keep_drop_stack) := by rw [e_keep_drop_stack]; exact ⟨a_keep_drop_stack, i_keep_drop_stack, d_keep_drop_stack.fn.kp⟩
  have m1_keep_put_on : Meth K C_keep "put_on" (fA .d_keep_put_on) := by rw [e_keep_put_on]; exact ⟨a_keep_put_on, i_keep_put_on, d_keep_put_on.fn.kp⟩
  have m1_keep_put_on_sending : Meth K C_keep "put_on_sending" (fA .d_keep_put_on_sending) := by rw [e_keep_put_on_sending]; exact ⟨a_keep_put_on_sending, i_keep_put_on_sending, d_keep_put_on_sending.fn.kp⟩
  have m1_keep_take_off : Meth K C_keep "take_off" (fA .d_keep_take_off) := by rw [e_keep_take_off]; exact ⟨a_keep_take_off, i_keep_take_off, d_keep_take_off.fn.kp⟩
  have w1 : KT K wants [.ref (fA .d_want_return), .ref (fA .d_want_call), .ref (fA .d_want_throw), .ref (fA .d_want_handler), .ref (fA .d_want_last), .ref (fA .d_want_drop_act), .ref (fA .d_want_hand_out), .ref (fA .d_want_new_stack), .ref (fA .d_want_go_on_with), .ref (fA .d_want_end), .ref (fA .d_want_throw_again), .ref (fA .d_want_set_word), .ref (fA .d_want_tell_word)] := by rw [e_want_return, e_want_call, e_want_throw, e_want_handler, e_want_last, e_want_drop_act, e_want_hand_out, e_want_new_stack, e_want_go_on_with, e_want_end, e_want_throw_again, e_want_set_word, e_want_tell_word]; exact kt_mk l_W ((.cons rfl (.cons rfl (.cons rfl (.cons rfl (.cons rfl (.cons rfl (.cons rfl (.cons rfl (.cons rfl (.cons rfl (.cons rfl (.cons rfl (.cons rfl .nil)))))))))))))) (by show 13 ≤ sizeLine; decide)
  have c1 : KD P w K calls [(1, .ref (fA .d_call_new)), (2, .ref (fA .d_call_go)), (3, .ref (fA .d_call_send)), (4, .ref (fA .d_call_hurl)), (5, .ref (fA .d_call_end)), (6, .ref (fA .d_call_on)), (7, .ref (fA .d_call_frames)), (8, .ref (fA .d_call_acts)), (9, .ref (fA .d_call_row)), (10, .ref (fA .d_call_pieces)), (11, .ref (fA .d_call_causes))] := by rw [e_call_new, e_call_go, e_call_send, e_call_hurl, e_call_end, e_call_on, e_call_frames, e_call_acts, e_call_row, e_call_pieces, e_call_causes]; exact kd_mk l_C
  have TT : Txt P w K mg ⟨⟨C_keep, C_stack, C_frame, C_throw, C_asks⟩, fA, fdA, nm3, wants, calls, numb⟩ :=
    { fn := fun d => (all d).fn
      bi := fun d => (all d).bi
      g_throw_of_number := mgo g1_throw_of_number
      g_in_place_of := mgo g1_in_place_of
      g_tell_frames := mgo g1_tell_frames
      g_tell_acts := mgo g1_tell_acts
      g_tell_row := mgo g1_tell_row
      g_tell_pieces := mgo g1_tell_pieces
      g_tell_causes := mgo g1_tell_causes
      g_drop_act := mgo g1_drop_act
      g_throw_on := mgo g1_throw_on
      g_throw_through_frame := mgo g1_throw_through_frame
      g_catches := mgo g1_catches
      g_end_stack := mgo g1_end_stack
      g_joined := mgo g1_joined
      g_refuse := mgo g1_refuse
      g_go_on := mgo g1_go_on
      g_want_return := mgo g1_want_return
      g_want_call := mgo g1_want_call
      g_want_throw := mgo g1_want_throw
      g_want_handler := mgo g1_want_handler
      g_want_last := mgo g1_want_last
      g_add_act := mgo g1_add_act
      g_want_drop_act := mgo g1_want_drop_act
      g_want_hand_out := mgo g1_want_hand_out
      g_want_new_stack := mgo g1_want_new_stack
      g_want_go_on_with := mgo g1_want_go_on_with
      g_want_end := mgo g1_want_end
      g_want_throw_again := mgo g1_want_throw_again
      g_want_set_word := mgo g1_want_set_word
      g_want_tell_word := mgo g1_want_tell_word
      g_take_step := mgo g1_take_step
      g_call_new := mgo g1_call_new
      g_call_go := mgo g1_call_go
      g_call_send := mgo g1_call_send
      g_call_hurl := mgo g1_call_hurl
      g_call_end := mgo g1_call_end
      g_call_on := mgo g1_call_on
      g_call_frames := mgo g1_call_frames
      g_call_acts := mgo g1_call_acts
      g_call_row := mgo g1_call_row
      g_call_pieces := mgo g1_call_pieces
      g_call_causes := mgo g1_call_causes
      g_in_range := mgo g1_in_range
      g_run_steps := mgo g1_run_steps
      g_how_many_numbers := mgo g1_how_many_numbers
      g_do_call := mgo g1_do_call
      g_answers := mgo g1_answers
      c_frame := cl_frame
      g_Frame := mgo c_frame
      mk_frame := mk1_frame
      m_frame_is_new := m1_frame_is_new
      n_frame_function := n_frame_function
      n_frame_place := n_frame_place
      n_frame_words := n_frame_words
      n_frame_caught := n_frame_caught
      n_frame_acts := n_frame_acts
      c_stack := cl_stack
      g_Stack := mgo c_stack
      mk_stack := mk1_stack
      m_stack_innermost := m1_stack_innermost
      n_stack_number := n_stack_number
      n_stack_frames := n_stack_frames
      n_stack_pieces := n_stack_pieces
      n_stack_on := n_stack_on
      n_stack_waiter := n_stack_waiter
      c_throw := cl_throw
      g_Throw := mgo c_throw
      mk_throw := mk1_throw
      n_throw_kind := n_throw_kind
      n_throw_value := n_throw_value
      n_throw_causes := n_throw_causes
      c_asks := cl_asks
      g_Asks := mgo c_asks
      mk_asks := mk1_asks
      m_asks_ask := m1_asks_ask
      m_asks_run := m1_asks_run
      m_asks_clean := m1_asks_clean
      n_asks_replies := n_asks_replies
      n_asks_asked := n_asks_asked
      n_asks_told := n_asks_told
      c_keep := cl_keep
      g_Keep := mgo c_keep
      mk_keep := mk1_keep
      m_keep_make_empty := m1_keep_make_empty
      m_keep_is_stopped := m1_keep_is_stopped
      m_keep_find_stack := m1_keep_find_stack
      m_keep_cut_stack := m1_keep_cut_stack
      m_keep_add_stack := m1_keep_add_stack
      m_keep_add_frame := m1_keep_add_frame
      m_keep_drop_frame := m1_keep_drop_frame
      m_keep_drop_stack := m1_keep_drop_stack
      m_keep_put_on := m1_keep_put_on
      m_keep_put_on_sending := m1_keep_put_on_sending
      m_keep_take_off := m1_keep_take_off
      n_keep_stacks := n_keep_stacks
      n_keep_taken := n_keep_taken
      n_keep_running := n_keep_running
      n_keep_come := n_keep_come
      n_keep_uncaught := n_keep_uncaught
      e_stack := ⟨eq_stack, mk_stack, sub_stack⟩
      k_HANDLER := ⟨_, mgo k_HANDLER⟩
      k_LAST := ⟨_, mgo k_LAST⟩
      k_KINDS := ⟨_, mgo k_KINDS⟩
      k_EVERY_KIND := ⟨_, mgo k_EVERY_KIND⟩
      k_WORDS := ⟨_, mgo k_WORDS⟩
      k_CAUSES_MOST := ⟨_, mgo k_CAUSES_MOST⟩
      k_RUN := ⟨_, mgo k_RUN⟩
      k_CLEAN := ⟨_, mgo k_CLEAN⟩
      k_WHY_RETURN := ⟨_, mgo k_WHY_RETURN⟩
      k_WHY_THROW := ⟨_, mgo k_WHY_THROW⟩
      k_WHY_END := ⟨_, mgo k_WHY_END⟩
      k_STACKS_MOST := ⟨_, mgo k_STACKS_MOST⟩
      k_PIECES_MOST := ⟨_, mgo k_PIECES_MOST⟩
      k_PIECE_FRAMES := ⟨_, mgo k_PIECE_FRAMES⟩
      k_FIRST := ⟨_, mgo k_FIRST⟩
      k_SENT := ⟨_, mgo k_SENT⟩
      k_ON := ⟨_, mgo k_ON⟩
      k_CUT := ⟨_, mgo k_CUT⟩
      k_NOBODY := ⟨_, mgo k_NOBODY⟩
      k_UNCAUGHT := ⟨_, mgo k_UNCAUGHT⟩
      k_CAUGHT := ⟨_, mgo k_CAUGHT⟩
      k_PLACE_MOST := ⟨_, mgo k_PLACE_MOST⟩
      k_ACTS_MOST := ⟨_, mgo k_ACTS_MOST⟩
      k_FUNCTIONS := ⟨_, mgo k_FUNCTIONS⟩
      g_NOTHING_MORE := mgo g_NM
      t_NOTHING_MORE := kt_mk l_NM (.cons ⟨_, rfl⟩ (.cons ⟨_, rfl⟩ (.cons ⟨_, rfl⟩ .nil))) (by show 3 ≤ sizeLine; decide)
      k_CALLED := ⟨_, mgo k_CALLED⟩
      k_RETURNED := ⟨_, mgo k_RETURNED⟩
      k_WORD := ⟨_, mgo k_WORD⟩
      k_HANDED_OUT := ⟨_, mgo k_HANDED_OUT⟩
      k_STACK_RETURNED := ⟨_, mgo k_STACK_RETURNED⟩
      k_STACK_MADE := ⟨_, mgo k_STACK_MADE⟩
      k_REFUSED := ⟨_, mgo k_REFUSED⟩
      k_ENDS_RETURNED := ⟨_, mgo k_ENDS_RETURNED⟩
      k_ENDS_HANDED_OUT := ⟨_, mgo k_ENDS_HANDED_OUT⟩
      k_NO_WANT := ⟨_, mgo k_NO_WANT⟩
      g_WANTS := mgo g_W
      t_WANTS := w1
      k_FUNCTION_MOST := ⟨_, mgo k_FUNCTION_MOST⟩
      k_KIND_MOST := ⟨_, mgo k_KIND_MOST⟩
      k_BUDGET_MOST := ⟨_, mgo k_BUDGET_MOST⟩
      k_STOPPED := ⟨_, mgo k_STOPPED⟩
      k_NO_SUCH_STACK := ⟨_, mgo k_NO_SUCH_STACK⟩
      k_NOTHING_STOPPED := ⟨_, mgo k_NOTHING_STOPPED⟩
      k_NO_SUCH_FRAME := ⟨_, mgo k_NO_SUCH_FRAME⟩
      k_NOTHING_UNCAUGHT := ⟨_, mgo k_NOTHING_UNCAUGHT⟩
      k_NO_ROOM := ⟨_, mgo k_NO_ROOM⟩
      k_IS_STOPPED := ⟨_, mgo k_IS_STOPPED⟩
      k_OUT_OF_RANGE := ⟨_, mgo k_OUT_OF_RANGE⟩
      g_CALLS := mgo g_C
      t_CALLS := c1
      g_NUMBERS := mgo g_N
      t_NUMBERS := ⟨[te1, te2, te3, te4, te5, te6, te7, te8, te9, te10, te11], rfl, kd_mk l_N⟩
      b_len := mgn b_len
      b_range := mgn b_range
      b_min := mgn b_min
      b_reversed := mgn b_reversed }
  exact ⟨_, TT, fun us hl => (all .d_answers).ba us hl⟩
end Th
def PySem.W.Fast.tw2478156372860345658 : Nat := 0
def PySem.W.Fast.tw1719538715252720085 : Nat := 0
def PySem.W.Fast.tw367405796465228547 : Nat := 0
def PySem.W.Fast.tw12001759090086326934 : Nat := 0
def PySem.W.Fast.tw5419336305275331834 : Nat := 0
def PySem.W.Fast.tw13295488867423160862 : Nat := 0
def PySem.W.Fast.tw10871041138097426693 : Nat := 0
def PySem.W.Fast.tw15638340537010186770 : Nat := 0
def PySem.W.Fast.tw3648036555765673998 : Nat := 0
def PySem.W.Fast.tw11680491262806498650 : Nat := 0
def PySem.W.Fast.tw12832117688905800109 : Nat := 0
def PySem.W.Fast.tw7838207865873005483 : Nat := 0
def PySem.W.Fast.tw15619989533020475547 : Nat := 0
def PySem.W.Fast.tw6339031752031458574 : Nat := 0
def PySem.W.Fast.tw6109850339349064330 : Nat := 0
def PySem.W.Fast.tw16497016129913891397 : Nat := 0
def PySem.W.Fast.tw6794912542439708340 : Nat := 0
def PySem.W.Fast.tw6005195323385469999 : Nat := 0
def PySem.W.Fast.tw11687551298526162091 : Nat := 0
def PySem.W.Fast.tw4492235203941193216 : Nat := 0
def PySem.W.Fast.tw8273250213753619429 : Nat := 0
def PySem.W.Fast.tw1933703851309476282 : Nat := 0
def PySem.W.Fast.tw7213468468713448285 : Nat := 0
def PySem.W.Fast.tw5626300765707534524 : Nat := 0
def PySem.W.Fast.tw14920478363579730931 : Nat := 0
def PySem.W.Fast.tw10540354709469894217 : Nat := 0
def PySem.W.Fast.tw15688028018745373353 : Nat := 0
def PySem.W.Fast.tw5363664979065295471 : Nat := 0
def PySem.W.Fast.tw6128212349784916950 : Nat := 0
def PySem.W.Fast.tw6561920097771582214 : Nat := 0
def PySem.W.Fast.tw4008212886929754428 : Nat := 0
def PySem.W.Fast.tw14035548243836435542 : Nat := 0
def PySem.W.Fast.tw85648356576954518 : Nat := 0
def PySem.W.Fast.tw13404903159329376463 : Nat := 0
def PySem.W.Fast.tw12931070389083891760 : Nat := 0
def PySem.W.Fast.tw12254167224504527102 : Nat := 0
def PySem.W.Fast.tw11455878378773223371 : Nat := 0
def PySem.W.Fast.tw6780704057773698545 : Nat := 0
def PySem.W.Fast.tw7609251897465594578 : Nat := 0
def PySem.W.Fast.tw8046655128945700618 : Nat := 0
def PySem.W.Fast.tw4214241117721068778 : Nat := 0
def PySem.W.Fast.tw10274749543195741352 : Nat := 0
def PySem.W.Fast.tw4013198854252611007 : Nat := 0
def PySem.W.Fast.tw6063670689395823799 : Nat := 0
def PySem.W.Fast.tw1526218444868245346 : Nat := 0
def PySem.W.Fast.tw6555224707749709914 : Nat := 0
def PySem.W.Fast.tw5991180816959370089 : Nat := 0
def PySem.W.Fast.tw14582227837916991799 : Nat := 0
def PySem.W.Fast.tw8934123922359530279 : Nat := 0
def PySem.W.Fast.tw9192339529203774737 : Nat := 0
def PySem.W.Fast.tw13308078380118114967 : Nat := 0
def PySem.W.Fast.tw13564165727667194237 : Nat := 0
def PySem.W.Fast.tw1293713367552974576 : Nat := 0
def PySem.W.Fast.tw6483912626482442012 : Nat := 0
def PySem.W.Fast.tw7120871617340735146 : Nat := 0
def PySem.W.Fast.tw6619991298935291139 : Nat := 0
def PySem.W.Fast.tw9102415349147301035 : Nat := 0
def PySem.W.Fast.tw2604990237112105262 : Nat := 0
def PySem.W.Fast.tw4818751189096479461 : Nat := 0
def PySem.W.Fast.tw3777136592985794740 : Nat := 0
def PySem.W.Fast.tw481483557354577775 : Nat := 0
def PySem.W.Fast.tw16193727803394997230 : Nat := 0
def PySem.W.Fast.tw66544562484944936 : Nat := 0
def PySem.W.Fast.tw5383432614002603854 : Nat := 0
def PySem.W.Fast.tw931440620726368 : Nat := 0
def PySem.W.Fast.tw17126810342304408651 : Nat := 0
def PySem.W.Fast.tw5546295138537926880 : Nat := 0
def PySem.W.Fast.tw11669918658430564899 : Nat := 0
def PySem.W.Fast.tw5487754514659899901 : Nat := 0
def PySem.W.Fast.tw12440707707430697398 : Nat := 0
def PySem.W.Fast.tw10469671006344106749 : Nat := 0
def PySem.W.Fast.tw2720593870099653999 : Nat := 0
def PySem.W.Fast.tw1046462334460399255 : Nat := 0
def PySem.W.Fast.tw4642705712077199093 : Nat := 0
def PySem.W.Fast.tw2711695276629637050 : Nat := 0
def PySem.W.Fast.tw13144854508518893239 : Nat := 0
def PySem.W.Fast.tw418754320192095744 : Nat := 0
def PySem.W.Fast.tw17169421845355085594 : Nat := 0
def PySem.W.Fast.tw17213129057814907197 : Nat := 0
def PySem.W.Fast.tw15485011562470944280 : Nat := 0
def PySem.W.Fast.tw4772753214788181218 : Nat := 0
def PySem.W.Fast.tw12995402546598532585 : Nat := 0
def PySem.W.Fast.tw18200648900919144818 : Nat := 0
def PySem.W.Fast.tw16458364907791422204 : Nat := 0
def PySem.W.Fast.tw16231786206059423019 : Nat := 0
def PySem.W.Fast.tw2321288594355334091 : Nat := 0
def PySem.W.Fast.tw11901849417973582414 : Nat := 0
def PySem.W.Fast.tw10252645276974279357 : Nat := 0
def PySem.W.Fast.tw8389444445149096407 : Nat := 0
def PySem.W.Fast.tw954440298142593238 : Nat := 0
def PySem.W.Fast.tw9517494686552155381 : Nat := 0
def PySem.W.Fast.tw5057391626127394429 : Nat := 0
def PySem.W.Fast.tw15978139990756590987 : Nat := 0
def PySem.W.Fast.tw7457339325955452749 : Nat := 0
def PySem.W.Fast.tw10274938901718697745 : Nat := 0
def PySem.W.Fast.tw16802195134895277371 : Nat := 0
def PySem.W.Fast.tw8210129431451671670 : Nat := 0
def PySem.W.Fast.tw6685056987460821620 : Nat := 0
def PySem.W.Fast.tw9282772490884004425 : Nat := 0
def PySem.W.Fast.tw740481512870390990 : Nat := 0
def PySem.W.Fast.tw9640013279437563191 : Nat := 0
def PySem.W.Fast.tw8350808053827016500 : Nat := 0
def PySem.W.Fast.tw855901309600763392 : Nat := 0
def PySem.W.Fast.tw7501236609303655777 : Nat := 0
def PySem.W.Fast.tw13583444138561562399 : Nat := 0
def PySem.W.Fast.tw4385970368509205046 : Nat := 0
def PySem.W.Fast.tw6951184522170885940 : Nat := 0
def PySem.W.Fast.tw14639874629365587043 : Nat := 0
def PySem.W.Fast.tw2738980617220768760 : Nat := 0
def PySem.W.Fast.tw7875303311966171198 : Nat := 0
def PySem.W.Fast.tw17409721114644030325 : Nat := 0
def PySem.W.Fast.tw11745793405774882332 : Nat := 0
def PySem.W.Fast.tw6627992766732200893 : Nat := 0
def PySem.W.Fast.tw5805080954774384314 : Nat := 0
def PySem.W.Fast.tw13280950076569703369 : Nat := 0
def PySem.W.Fast.tw8030621080644887117 : Nat := 0
def PySem.W.Fast.tw11716700084093913722 : Nat := 0
def PySem.W.Fast.tw15435545265366798235 : Nat := 0
def PySem.W.Fast.tw2471158758751346773 : Nat := 0
def PySem.W.Fast.tw10719852679609157781 : Nat := 0
def PySem.W.Fast.tw634385310007627091 : Nat := 0
def PySem.W.Fast.tw12842065342738155776 : Nat := 0
def PySem.W.Fast.tw7521159157399859279 : Nat := 0
def PySem.W.Fast.tw10504049278092029738 : Nat := 0
def PySem.W.Fast.tw1664150220189255510 : Nat := 0
def PySem.W.Fast.tw6431318736368118049 : Nat := 0
def PySem.W.Fast.tw11081655450968670968 : Nat := 0
def PySem.W.Fast.tw18101391419554289545 : Nat := 0
def PySem.W.Fast.tw1018321433173086206 : Nat := 0
def PySem.W.Fast.tw10515312771409480359 : Nat := 0
def PySem.W.Fast.tw6194911958747993321 : Nat := 0
def PySem.W.Fast.tw14642038844678102822 : Nat := 0
def PySem.W.Fast.tw2490844808101719858 : Nat := 0
def PySem.W.Fast.tw8750149239829265752 : Nat := 0
def PySem.W.Fast.tw13318378557719533366 : Nat := 0
def PySem.W.Fast.tw18154956609856750416 : Nat := 0
def PySem.W.Fast.tw2234038068274461044 : Nat := 0
def PySem.W.Fast.tw12083345593513923270 : Nat := 0
def PySem.W.Fast.tw4267001951461743542 : Nat := 0
def PySem.W.Fast.tw13126154603494230658 : Nat := 0
def PySem.W.Fast.tw8070105053353885235 : Nat := 0
def PySem.W.Fast.tw1806560940366123851 : Nat := 0
def PySem.W.Fast.tw4813441894298852346 : Nat := 0
def PySem.W.Fast.tw12619736591381175464 : Nat := 0
def PySem.W.Fast.tw5695071483213863160 : Nat := 0
def PySem.W.Fast.tw17939524131437542865 : Nat := 0
def PySem.W.Fast.tw12483496465257423019 : Nat := 0
def PySem.W.Fast.tw14192161005968994773 : Nat := 0
def PySem.W.Fast.tw13204300242784377006 : Nat := 0
def PySem.W.Fast.tw9974104351369246725 : Nat := 0
def PySem.W.Fast.tw4061606618172414888 : Nat := 0
def PySem.W.Fast.tw5095186558411220330 : Nat := 0
def PySem.W.Fast.tw5496091230846240302 : Nat := 0
def PySem.W.Fast.tw10152138007180923303 : Nat := 0
def PySem.W.Fast.tw11237807449177126666 : Nat := 0
def PySem.W.Fast.tw1815022834560213994 : Nat := 0
def PySem.W.Fast.tw6010971012265009933 : Nat := 0
def PySem.W.Fast.tw12987851563566489314 : Nat := 0
def PySem.W.Fast.tw10739930613393115268 : Nat := 0
def PySem.W.Fast.tw10979684429253201872 : Nat := 0
def PySem.W.Fast.tw18160764542863900178 : Nat := 0
def PySem.W.Fast.tw3251731845215921813 : Nat := 0
def PySem.W.Fast.tw6020682628366606711 : Nat := 0
def PySem.W.Fast.tw1211469905245312316 : Nat := 0
def PySem.W.Fast.tw6916752444064127042 : Nat := 0
def PySem.W.Fast.tw9103365547906050585 : Nat := 0
def PySem.W.Fast.tw5639549927372853304 : Nat := 0
def PySem.W.Fast.tw16654275120067392776 : Nat := 0
def PySem.W.Fast.tw14531037881976206300 : Nat := 0
def PySem.W.Fast.tw13999087049651750197 : Nat := 0
def PySem.W.Fast.tw12591690012708952728 : Nat := 0
def PySem.W.Fast.tw9064024299434935071 : Nat := 0
def PySem.W.Fast.tw13182776964636056858 : Nat := 0
def PySem.W.Fast.tw8034289387978403772 : Nat := 0
def PySem.W.Fast.tw15227129887783289330 : Nat := 0
def PySem.W.Fast.tw14664768890325523959 : Nat := 0
def PySem.W.Fast.tw3781958878191103120 : Nat := 0
def PySem.W.Fast.tw10086366987138051563 : Nat := 0
def PySem.W.Fast.tw10315983059718734397 : Nat := 0
def PySem.W.Fast.tw14461061568900311640 : Nat := 0
def PySem.W.Fast.tw11288087538328468980 : Nat := 0
def PySem.W.Fast.tw13728960173666410245 : Nat := 0
def PySem.W.Fast.tw9718045233778641877 : Nat := 0
def PySem.W.Fast.tw11841475907612455957 : Nat := 0
def PySem.W.Fast.tw286696107311179639 : Nat := 0
def PySem.W.Fast.tw13937065971338611858 : Nat := 0
def PySem.W.Fast.tw1232775373374488914 : Nat := 0
def PySem.W.Fast.tw12560306542230420387 : Nat := 0
def PySem.W.Fast.tw3457480909316638548 : Nat := 0
def PySem.W.Fast.tw6199108872508171395 : Nat := 0
def PySem.W.Fast.tw12057560035622168487 : Nat := 0
def PySem.W.Fast.tw5708845117544026408 : Nat := 0
def PySem.W.Fast.tw11338877396491383560 : Nat := 0
def PySem.W.Fast.tw7269878874583911540 : Nat := 0
def PySem.W.Fast.tw17097686146223912088 : Nat := 0
def PySem.W.Fast.tw3942613357388339811 : Nat := 0
def PySem.W.Fast.tw14987876195458265783 : Nat := 0
def PySem.W.Fast.tw13603353187065066505 : Nat := 0
def PySem.W.Fast.tw5457166198416285734 : Nat := 0
def PySem.W.Fast.tw10398245328816779187 : Nat := 0
def PySem.W.Fast.tw881801655265425019 : Nat := 0
def PySem.W.Fast.tw12989149002308482188 : Nat := 0
def PySem.W.Fast.tw14680110055455889180 : Nat := 0
def PySem.W.Fast.tw13181396821928729555 : Nat := 0
def PySem.W.Fast.tw14172055696654748708 : Nat := 0
def PySem.W.Fast.tw864579956704462969 : Nat := 0
def PySem.W.Fast.tw11605086985872394118 : Nat := 0
def PySem.W.Fast.tw16184417270658767073 : Nat := 0
def PySem.W.Fast.tw1597512319082018619 : Nat := 0
def PySem.W.Fast.tw13613826909329317461 : Nat := 0
def PySem.W.Fast.tw4799602607409374427 : Nat := 0
def PySem.W.Fast.tw5178306260123154428 : Nat := 0
def PySem.W.Fast.tw3985707376325937650 : Nat := 0
def PySem.W.Fast.tw13773241573140772116 : Nat := 0
def PySem.W.Fast.tw9322635537182861123 : Nat := 0
def PySem.W.Fast.tw12237368985698959601 : Nat := 0
def PySem.W.Fast.tw4983518877605369439 : Nat := 0
def PySem.W.Fast.tw11233781920643619435 : Nat := 0
def PySem.W.Fast.tw3069190533043589487 : Nat := 0
def PySem.W.Fast.tw8127873635934870666 : Nat := 0
def PySem.W.Fast.tw5554914303305017242 : Nat := 0
def PySem.W.Fast.tw1167788816335479677 : Nat := 0
def PySem.W.Fast.tw8255302144089515816 : Nat := 0
def PySem.W.Fast.tw3282698934039398318 : Nat := 0
def PySem.W.Fast.tw1978450569278162818 : Nat := 0
def PySem.W.Fast.tw13165595906955561326 : Nat := 0
def PySem.W.Fast.tw13391289682089143247 : Nat := 0
def PySem.W.Fast.tw2195143844660789697 : Nat := 0
def PySem.W.Fast.tw1788356172245126914 : Nat := 0
def PySem.W.Fast.tw12756997847590894446 : Nat := 0
def PySem.W.Fast.tw12899278467082165231 : Nat := 0
def PySem.W.Fast.tw6631254137824774978 : Nat := 0
def PySem.W.Fast.tw10608066755111208616 : Nat := 0
def PySem.W.Fast.tw10623397818839194457 : Nat := 0
def PySem.W.Fast.tw9576000328372426936 : Nat := 0
def PySem.W.Fast.tw5758584616954930588 : Nat := 0
def PySem.W.Fast.tw12187215464489251331 : Nat := 0
def PySem.W.Fast.tw14254270766891757955 : Nat := 0
def PySem.W.Fast.tw18094601219448505028 : Nat := 0
def PySem.W.Fast.tw16337355527296326027 : Nat := 0
def PySem.W.Fast.tw13200452959722867675 : Nat := 0
def PySem.W.Fast.tw15371705336367098554 : Nat := 0
def PySem.W.Fast.tw12127100364270369843 : Nat := 0
def PySem.W.Fast.tw14758555604930649104 : Nat := 0
def PySem.W.Fast.tw3847570516750096851 : Nat := 0
def PySem.W.Fast.tw9919296734207462475 : Nat := 0
def PySem.W.Fast.tw2957784767619656509 : Nat := 0
def PySem.W.Fast.tw2605712582589927295 : Nat := 0
def PySem.W.Fast.tw4219798693172330019 : Nat := 0
def PySem.W.Fast.tw11580595206007298469 : Nat := 0
def PySem.W.Fast.tw9371870143375133885 : Nat := 0
def PySem.W.Fast.tw8497530313615576499 : Nat := 0
def PySem.W.Fast.tw6506062703270553108 : Nat := 0
def PySem.W.Fast.tw9452049559510156078 : Nat := 0
def PySem.W.Fast.tw6578579913845750758 : Nat := 0
def PySem.W.Fast.tw17034251400625970893 : Nat := 0
def PySem.W.Fast.tw3000966950089565855 : Nat := 0
def PySem.W.Fast.tw15284572208286597274 : Nat := 0
def PySem.W.Fast.tw16520511725692348532 : Nat := 0
def PySem.W.Fast.tw10926389991712447038 : Nat := 0
def PySem.W.Fast.tw7832264632432734858 : Nat := 0
def PySem.W.Fast.tw13602063843975940384 : Nat := 0
def PySem.W.Fast.tw4821436692088270146 : Nat := 0
def PySem.W.Fast.tw4374822855812435916 : Nat := 0
def PySem.W.Fast.tw17822257969745727682 : Nat := 0
def PySem.W.Fast.tw7719278751259479883 : Nat := 0
def PySem.W.Fast.tw140506204173017903 : Nat := 0
def PySem.W.Fast.tw546350528034464250 : Nat := 0
def PySem.W.Fast.tw13986937372152557517 : Nat := 0
def PySem.W.Fast.tw17199913807310768166 : Nat := 0
def PySem.W.Fast.tw6954130608808611524 : Nat := 0
def PySem.W.Fast.tw16028002951540379260 : Nat := 0
def PySem.W.Fast.tw11505337448628380008 : Nat := 0
def PySem.W.Fast.tw5463514197516146174 : Nat := 0
def PySem.W.Fast.tw740942936243847613 : Nat := 0
def PySem.W.Fast.tw8759215479531222067 : Nat := 0
def PySem.W.Fast.tw15340268547347445982 : Nat := 0
def PySem.W.Fast.tw8556750228660923822 : Nat := 0
def PySem.W.Fast.tw2996205755875008790 : Nat := 0
def PySem.W.Fast.tw9925165636366158627 : Nat := 0
def PySem.W.Fast.tw2402072020494938085 : Nat := 0
def PySem.W.Fast.tw18225056865689097815 : Nat := 0
def PySem.W.Fast.tw2996166047341916247 : Nat := 0
def PySem.W.Fast.tw6788692827016791364 : Nat := 0
def PySem.W.Fast.tw16895739080461601162 : Nat := 0
def PySem.W.Fast.tw9614163459936547899 : Nat := 0
def PySem.W.Fast.tw7746859915438193625 : Nat := 0
def PySem.W.Fast.tw16418611142400477923 : Nat := 0
def PySem.W.Fast.tw4612980549239547215 : Nat := 0
def PySem.W.Fast.tw971883022583659515 : Nat := 0
def PySem.W.Fast.tw13333920380861918355 : Nat := 0
def PySem.W.Fast.tw12538930225542235625 : Nat := 0
def PySem.W.Fast.tw11492503592485410380 : Nat := 0
def PySem.W.Fast.tw10540584664376972649 : Nat := 0
def PySem.W.Fast.tw16469211848742717414 : Nat := 0
def PySem.W.Fast.tw9180326932242972548 : Nat := 0
def PySem.W.Fast.tw14949666878131953910 : Nat := 0
def PySem.W.Fast.tw17481862904679558906 : Nat := 0
def PySem.W.Fast.tw11690256612224886784 : Nat := 0
def PySem.W.Fast.tw8114752099481690023 : Nat := 0
def PySem.W.Fast.tw6824856543189058331 : Nat := 0
def PySem.W.Fast.tw9111526588340577757 : Nat := 0
def PySem.W.Fast.tw14060459308586128941 : Nat := 0
def PySem.W.Fast.tw13350397538235975979 : Nat := 0
def PySem.W.Fast.tw11515154036671803999 : Nat := 0
def PySem.W.Fast.tw3861610705124744253 : Nat := 0
def PySem.W.Fast.tw11072562038226983332 : Nat := 0
def PySem.W.Fast.tw1098048788055244724 : Nat := 0
def PySem.W.Fast.tw1787467964481420531 : Nat := 0
def PySem.W.Fast.tw8778863157751837396 : Nat := 0
def PySem.W.Fast.tw5464092217490202552 : Nat := 0
def PySem.W.Fast.tw13452545700894875062 : Nat := 0
def PySem.W.Fast.tw17539985240553220420 : Nat := 0
def PySem.W.Fast.tw5446028446734828451 : Nat := 0
def PySem.W.Fast.tw11962574719762958513 : Nat := 0
def PySem.W.Fast.tw1837333753713590427 : Nat := 0
def PySem.W.Fast.tw15437741020628184950 : Nat := 0
def PySem.W.Fast.tw168646283065744343 : Nat := 0
def PySem.W.Fast.tw3408281219859769410 : Nat := 0
def PySem.W.Fast.tw14507763602234583124 : Nat := 0
def PySem.W.Fast.tw3308338975294436174 : Nat := 0
def PySem.W.Fast.tw9445305335112895354 : Nat := 0
def PySem.W.Fast.tw7449971636923553002 : Nat := 0
def PySem.W.Fast.tw12825331825723764609 : Nat := 0
def PySem.W.Fast.tw11078500594774271200 : Nat := 0
def PySem.W.Fast.tw9383875021108247747 : Nat := 0
def PySem.W.Fast.tw14621053318382471306 : Nat := 0
def PySem.W.Fast.tw13468873281228976237 : Nat := 0
def PySem.W.Fast.tw11105320284027200942 : Nat := 0
def PySem.W.Fast.tw10880391755536425648 : Nat := 0
def PySem.W.Fast.tw12249181144203332297 : Nat := 0
def PySem.W.Fast.tw5821783311458686375 : Nat := 0
def PySem.W.Fast.tw13769035555116443820 : Nat := 0
def PySem.W.Fast.tw15186755747271841943 : Nat := 0
def PySem.W.Fast.tw693879483365577476 : Nat := 0
def PySem.W.Fast.tw16508140377895773421 : Nat := 0
def PySem.W.Fast.tw10253127084294982196 : Nat := 0
def PySem.W.Fast.tw8592644599112863221 : Nat := 0
def PySem.W.Fast.tw620464548451518787 : Nat := 0
def PySem.W.Fast.tw14916140461595534660 : Nat := 0
def PySem.W.Fast.tw16744226074988556636 : Nat := 0
def PySem.W.Fast.tw3992761330588206243 : Nat := 0
def PySem.W.Fast.tw17221735336830934406 : Nat := 0
def PySem.W.Fast.tw268001801118618410 : Nat := 0
def PySem.W.Fast.tw7203924606969582921 : Nat := 0
def PySem.W.Fast.tw5600295746062265261 : Nat := 0
def PySem.W.Fast.tw11954017653544046807 : Nat := 0
def PySem.W.Fast.tw754797769505612365 : Nat := 0
def PySem.W.Fast.tw10104930791275486013 : Nat := 0
def PySem.W.Fast.tw12227926578379738166 : Nat := 0
def PySem.W.Fast.tw17446133091217201865 : Nat := 0
def PySem.W.Fast.tw16055704930309871160 : Nat := 0
def PySem.W.Fast.tw3634294691477964653 : Nat := 0
def PySem.W.Fast.tw16497550259444007814 : Nat := 0
def PySem.W.Fast.tw191790685876134691 : Nat := 0
def PySem.W.Fast.tw16605644024646646552 : Nat := 0
def PySem.W.Fast.tw7078502019061462793 : Nat := 0
def PySem.W.Fast.tw12088904592861138310 : Nat := 0
def PySem.W.Fast.tw8357882040185475337 : Nat := 0
def PySem.W.Fast.tw5469982440519577145 : Nat := 0
def PySem.W.Fast.tw15797224827588882506 : Nat := 0
def PySem.W.Fast.tw10936357906833477067 : Nat := 0
def PySem.W.Fast.tw12154174000262623377 : Nat := 0
def PySem.W.Fast.tw6253814747454570035 : Nat := 0
def PySem.W.Fast.tw11360305110939503027 : Nat := 0
def PySem.W.Fast.tw11729727573953763721 : Nat := 0
def PySem.W.Fast.tw8992888003738482088 : Nat := 0
def PySem.W.Fast.tw14458708645326257314 : Nat := 0
def PySem.W.Fast.tw10865183643521682406 : Nat := 0
def PySem.W.Fast.tw11144190001082393873 : Nat := 0
def PySem.W.Fast.tw10712322272362200384 : Nat := 0
def PySem.W.Fast.tw16768289873146501139 : Nat := 0
def PySem.W.Fast.tw4057644671026109325 : Nat := 0
def PySem.W.Fast.tw4734227916295250710 : Nat := 0
def PySem.W.Fast.tw8255234495663674960 : Nat := 0
def PySem.W.Fast.tw18408550635053815915 : Nat := 0
def PySem.W.Fast.tw5105593496637743086 : Nat := 0
def PySem.W.Fast.tw17183279015837243721 : Nat := 0
def PySem.W.Fast.tw15707907167375824127 : Nat := 0
def PySem.W.Fast.tw13326091000958389620 : Nat := 0
def PySem.W.Fast.tw9266076117858052595 : Nat := 0
def PySem.W.Fast.tw15948089010711199890 : Nat := 0
def PySem.W.Fast.tw6144817147412452459 : Nat := 0
def PySem.W.Fast.tw17238015375722375220 : Nat := 0
def PySem.W.Fast.tw9178752584116485453 : Nat := 0
def PySem.W.Fast.tw14591891910218143101 : Nat := 0
def PySem.W.Fast.tw16736602420656644226 : Nat := 0
def PySem.W.Fast.tw16976363901386415570 : Nat := 0
def PySem.W.Fast.tw2751043608661626622 : Nat := 0
def PySem.W.Fast.tw5300638358293353423 : Nat := 0
def PySem.W.Fast.tw1753524640094621047 : Nat := 0
def PySem.W.Fast.tw14369679002438315129 : Nat := 0
def PySem.W.Fast.tw11403470835000254389 : Nat := 0
def PySem.W.Fast.tw15180874431003546939 : Nat := 0
def PySem.W.Fast.tw14173040375676633375 : Nat := 0
def PySem.W.Fast.tw10055432811653707154 : Nat := 0
def PySem.W.Fast.tw9520953688159032601 : Nat := 0
def PySem.W.Fast.tw8000964945241293752 : Nat := 0
def PySem.W.Fast.tw16065471470932159581 : Nat := 0
def PySem.W.Fast.tw15861082256874316124 : Nat := 0
def PySem.W.Fast.tw16137454265286633738 : Nat := 0
def PySem.W.Fast.tw1876932358560424195 : Nat := 0
def PySem.W.Fast.tw5920586034904016889 : Nat := 0
def PySem.W.Fast.tw1419949283633041795 : Nat := 0
def PySem.W.Fast.tw10980718637379768881 : Nat := 0
def PySem.W.Fast.tw5495964851547737309 : Nat := 0
def PySem.W.Fast.tw10679270705173828397 : Nat := 0
def PySem.W.Fast.tw15762965540544619364 : Nat := 0
def PySem.W.Fast.tw2979134708646932318 : Nat := 0
def PySem.W.Fast.tw17361523674606251549 : Nat := 0
def PySem.W.Fast.tw5956976618907812617 : Nat := 0
def PySem.W.Fast.tw13724463528493466688 : Nat := 0
def PySem.W.Fast.tw7720780912738528096 : Nat := 0
def PySem.W.Fast.tw18026809879800201746 : Nat := 0
def PySem.W.Fast.tw2642626681069765442 : Nat := 0
def PySem.W.Fast.tw11206692071415184948 : Nat := 0
def PySem.W.Fast.tw6553101277365211035 : Nat := 0
def PySem.W.Fast.tw8468648928650166291 : Nat := 0
def PySem.W.Fast.tw10324725917851957232 : Nat := 0
def PySem.W.Fast.tw5404203555525276104 : Nat := 0
def PySem.W.Fast.tw2056912508465296136 : Nat := 0
def PySem.W.Fast.tw11340259457327144229 : Nat := 0
def PySem.W.Fast.tw2787327695104894035 : Nat := 0
def PySem.W.Fast.tw9663234824320736083 : Nat := 0
def PySem.W.Fast.tw9153454924701571647 : Nat := 0
def PySem.W.Fast.tw17554288305592431382 : Nat := 0
def PySem.W.Fast.tw9215688809880005957 : Nat := 0
def PySem.W.Fast.tw13172845206640447494 : Nat := 0
def PySem.W.Fast.tw9145438424125500033 : Nat := 0
def PySem.W.Fast.tw12412291365737326921 : Nat := 0
def PySem.W.Fast.tw6920197745269295552 : Nat := 0
def PySem.W.Fast.tw12387980594316807490 : Nat := 0
def PySem.W.Fast.tw6256867256311222547 : Nat := 0
def PySem.W.Fast.tw13640049236708622429 : Nat := 0
def PySem.W.Fast.tw10088295714650119811 : Nat := 0
def PySem.W.Fast.tw8492273776852051906 : Nat := 0
def PySem.W.Fast.tw2145733010625620807 : Nat := 0
def PySem.W.Fast.tw15531969286760862419 : Nat := 0
def PySem.W.Fast.tw15824562033410303617 : Nat := 0
def PySem.W.Fast.tw16544199796622743002 : Nat := 0
def PySem.W.Fast.tw7333522967485842402 : Nat := 0
def PySem.W.Fast.tw290509126032858020 : Nat := 0
def PySem.W.Fast.tw6892857952733849803 : Nat := 0
def PySem.W.Fast.tw7709403182442385151 : Nat := 0
def PySem.W.Fast.tw15246223790934436308 : Nat := 0
def PySem.W.Fast.tw1838473541366846011 : Nat := 0
def PySem.W.Fast.tw733103292304005324 : Nat := 0
def PySem.W.Fast.tw8758933389782263562 : Nat := 0
def PySem.W.Fast.tw6664040768296200796 : Nat := 0
def PySem.W.Fast.tw10704018195678521402 : Nat := 0
def PySem.W.Fast.tw6882124669857132415 : Nat := 0
def PySem.W.Fast.tw14499874067837700434 : Nat := 0
def PySem.W.Fast.tw10488023662780998911 : Nat := 0
def PySem.W.Fast.tw2768166903302940043 : Nat := 0
def PySem.W.Fast.tw16076179359239949839 : Nat := 0
def PySem.W.Fast.tw6409980022724833547 : Nat := 0
def PySem.W.Fast.tw12153859691696637232 : Nat := 0
def PySem.W.Fast.tw2473961552615587504 : Nat := 0
def PySem.W.Fast.tw16098804103195001958 : Nat := 0
def PySem.W.Fast.tw13586626539220599175 : Nat := 0
def PySem.W.Fast.tw15301235565698524378 : Nat := 0
def PySem.W.Fast.tw9637912894493321186 : Nat := 0
def PySem.W.Fast.tw16604500325795406077 : Nat := 0
def PySem.W.Fast.tw4561996446682599243 : Nat := 0
def PySem.W.Fast.tw13140191807215669904 : Nat := 0
def PySem.W.Fast.tw17047045518546555190 : Nat := 0
def PySem.W.Fast.tw9200708658432095553 : Nat := 0
def PySem.W.Fast.tw13702618107934743289 : Nat := 0
def PySem.W.Fast.tw2703030378211549927 : Nat := 0
def PySem.W.Fast.tw4004262894670525261 : Nat := 0
def PySem.W.Fast.tw938183469029327427 : Nat := 0
def PySem.W.Fast.tw9024168682201199804 : Nat := 0
def PySem.W.Fast.tw15482279087328159346 : Nat := 0
def PySem.W.Fast.tw16019441868026759236 : Nat := 0
def PySem.W.Fast.tw5332091395831535871 : Nat := 0
def PySem.W.Fast.tw11804823960144101650 : Nat := 0
def PySem.W.Fast.tw7889957249340911480 : Nat := 0
def PySem.W.Fast.tw14675340477220443973 : Nat := 0
def PySem.W.Fast.tw13058898175029058003 : Nat := 0
def PySem.W.Fast.tw11957416987146722999 : Nat := 0
def PySem.W.Fast.tw16490465987188601067 : Nat := 0
def PySem.W.Fast.tw16712734918898969764 : Nat := 0
def PySem.W.Fast.tw14842816110610026486 : Nat := 0
def PySem.W.Fast.tw18282359097127449009 : Nat := 0
def PySem.W.Fast.tw7367377056674806159 : Nat := 0
def PySem.W.Fast.tw17334435534143588171 : Nat := 0
def PySem.W.Fast.tw9836044375462467960 : Nat := 0
def PySem.W.Fast.tw17884654982994545134 : Nat := 0
def PySem.W.Fast.tw8234266851802550745 : Nat := 0
def PySem.W.Fast.tw8024400907016725316 : Nat := 0
def PySem.W.Fast.tw11315699742581943752 : Nat := 0
def PySem.W.Fast.tw3248617245384752485 : Nat := 0
def PySem.W.Fast.tw12158815983421126466 : Nat := 0
def PySem.W.Fast.tw4443294204155987355 : Nat := 0
def PySem.W.Fast.tw18209331750900289648 : Nat := 0
def PySem.W.Fast.tw14693928039650785334 : Nat := 0
def PySem.W.Fast.tw6115765704686271424 : Nat := 0
def PySem.W.Fast.tw5493528124364223484 : Nat := 0
def PySem.W.Fast.tw3486870946095515096 : Nat := 0
def PySem.W.Fast.tw9636331132218186835 : Nat := 0
def PySem.W.Fast.tw4830699113256841735 : Nat := 0
def PySem.W.Fast.tw1862975536712480115 : Nat := 0
def PySem.W.Fast.tw7622319054425789264 : Nat := 0
def PySem.W.Fast.tw2743638657315148678 : Nat := 0
def PySem.W.Fast.tw7906090816536808726 : Nat := 0
def PySem.W.Fast.tw2398070448303017719 : Nat := 0
def PySem.W.Fast.tw13797215772665275530 : Nat := 0
def PySem.W.Fast.tw12172437663825965536 : Nat := 0
def PySem.W.Fast.tw11844263833057138635 : Nat := 0
def PySem.W.Fast.tw14129663518779430220 : Nat := 0
def PySem.W.Fast.tw10807616894852135351 : Nat := 0
def PySem.W.Fast.tw17442071085046317631 : Nat := 0
def PySem.W.Fast.tw289577328149901322 : Nat := 0
def PySem.W.Fast.tw12849100688813191062 : Nat := 0
open PySem PySem.W PyProof.Rows
set_option maxRecDepth 100000 in
set_option maxHeartbeats 0 in
theorem PySem.Challenge.cw_throwstack_s01_answers_holds : PySem.Challenge.rw_throwstack_s01_answers.Holds := by
  w_on; k_headS; (case hw => exact ⟨[.list [.int 1, .int 0]], by decide +kernel, by decide +kernel⟩)
  k_fillS
  refine Th.walk_spec (k := 14) (x := "calls") (sp := Th.spAnswers) rfl ⟨rfl, by decide, by decide⟩ (fun w h Y => PySem.W.kIn_of Y) ?F ?S
  case F =>
    intro w mg fa h KX G hmg
    have T : ∃ A : Th.Ad, Th.Txt PySem.Challenge.rw_throwstack_s01_answers.prog w (L2.KOf KX) mg A ∧ ∀ us : List Value, us.length = 1 → bindArgs (A.fd .d_answers) ⟨us, []⟩ = pure (([("calls" : Str)]).zip us) := by
      clear hmg
      dsimp only [L2.KOf]
      refine' Th.txt_mk KX G ?c_frame ?c_stack ?c_throw ?c_asks ?c_keep ?a_frame_init ?i_frame_init ?d_frame_init ?a_frame_is_new ?i_frame_is_new ?d_frame_is_new ?a_stack_init ?i_stack_init ?d_stack_init ?a_stack_innermost ?i_stack_innermost ?d_stack_innermost ?a_throw_init ?i_throw_init ?d_throw_init ?a_throw_of_number ?d_throw_of_number ?a_in_place_of ?d_in_place_of ?a_asks_init ?i_asks_init ?d_asks_init ?a_asks_ask ?i_asks_ask ?d_asks_ask ?a_asks_run ?i_asks_run ?d_asks_run ?a_asks_clean ?i_asks_clean ?d_asks_clean ?a_keep_init ?i_keep_init ?d_keep_init ?a_keep_make_empty ?i_keep_make_empty ?d_keep_make_empty ?a_keep_is_stopped ?i_keep_is_stopped ?d_keep_is_stopped ?a_keep_find_stack ?i_keep_find_stack ?d_keep_find_stack ?a_keep_cut_stack ?i_keep_cut_stack ?d_keep_cut_stack ?a_keep_add_stack ?i_keep_add_stack ?d_keep_add_stack ?a_keep_add_frame ?i_keep_add_frame ?d_keep_add_frame ?a_keep_drop_frame ?i_keep_drop_frame ?d_keep_drop_frame ?a_keep_drop_stack ?i_keep_drop_stack ?d_keep_drop_stack ?a_keep_put_on ?i_keep_put_on ?d_keep_put_on ?a_keep_put_on_sending ?i_keep_put_on_sending ?d_keep_put_on_sending ?a_keep_take_off ?i_keep_take_off ?d_keep_take_off ?a_tell_frames ?d_tell_frames ?a_tell_acts ?d_tell_acts ?a_tell_row ?d_tell_row ?a_tell_pieces ?d_tell_pieces ?a_tell_causes ?d_tell_causes ?a_drop_act ?d_drop_act ?a_throw_on ?d_throw_on ?a_throw_through_frame ?d_throw_through_frame ?a_catches ?d_catches ?a_end_stack ?d_end_stack ?a_joined ?d_joined ?a_refuse ?d_refuse ?a_go_on ?d_go_on ?a_want_return ?d_want_return ?a_want_call ?d_want_call ?a_want_throw ?d_want_throw ?a_want_handler ?d_want_handler ?a_want_last ?d_want_last ?a_add_act ?d_add_act ?a_want_drop_act ?d_want_drop_act ?a_want_hand_out ?d_want_hand_out ?a_want_new_stack ?d_want_new_stack ?a_want_go_on_with ?d_want_go_on_with ?a_want_end ?d_want_end ?a_want_throw_again ?d_want_throw_again ?a_want_set_word ?d_want_set_word ?a_want_tell_word ?d_want_tell_word ?a_take_step ?d_take_step ?a_call_new ?d_call_new ?a_call_go ?d_call_go ?a_call_send ?d_call_send ?a_call_hurl ?d_call_hurl ?a_call_end ?d_call_end ?a_call_on ?d_call_on ?a_call_frames ?d_call_frames ?a_call_acts ?d_call_acts ?a_call_row ?d_call_row ?a_call_pieces ?d_call_pieces ?a_call_causes ?d_call_causes ?a_in_range ?d_in_range ?a_run_steps ?d_run_steps ?a_how_many_numbers ?d_how_many_numbers ?a_do_call ?d_do_call ?a_answers ?d_answers ?pg_frame ?hd_frame ?po_frame ?sa_frame ?mk_frame ?kc_frame ?n_frame_function ?n_frame_place ?n_frame_words ?n_frame_caught ?n_frame_acts ?pg_stack ?hd_stack ?po_stack ?sa_stack ?mk_stack ?kc_stack ?n_stack_number ?n_stack_frames ?n_stack_pieces ?n_stack_on ?n_stack_waiter ?pg_throw ?hd_throw ?po_throw ?sa_throw ?mk_throw ?kc_throw ?n_throw_kind ?n_throw_value ?n_throw_causes ?pg_asks ?hd_asks ?po_asks ?sa_asks ?mk_asks ?kc_asks ?n_asks_replies ?n_asks_asked ?n_asks_told ?pg_keep ?hd_keep ?po_keep ?sa_keep ?mk_keep ?kc_keep ?n_keep_stacks ?n_keep_taken ?n_keep_running ?n_keep_come ?n_keep_uncaught ?eq_stack ?sub_stack ?k_HANDLER ?k_LAST ?k_KINDS ?k_EVERY_KIND ?k_WORDS ?k_CAUSES_MOST ?k_RUN ?k_CLEAN ?k_WHY_RETURN ?k_WHY_THROW ?k_WHY_END ?k_STACKS_MOST ?k_PIECES_MOST ?k_PIECE_FRAMES ?k_FIRST ?k_SENT ?k_ON ?k_CUT ?k_NOBODY ?k_UNCAUGHT ?k_CAUGHT ?k_PLACE_MOST ?k_ACTS_MOST ?k_FUNCTIONS ?g_NM ?l_NM ?k_CALLED ?k_RETURNED ?k_WORD ?k_HANDED_OUT ?k_STACK_RETURNED ?k_STACK_MADE ?k_REFUSED ?k_ENDS_RETURNED ?k_ENDS_HANDED_OUT ?k_NO_WANT ?g_W ?l_W ?k_FUNCTION_MOST ?k_KIND_MOST ?k_BUDGET_MOST ?k_STOPPED ?k_NO_SUCH_STACK ?k_NOTHING_STOPPED ?k_NO_SUCH_FRAME ?k_NOTHING_UNCAUGHT ?k_NO_ROOM ?k_IS_STOPPED ?k_OUT_OF_RANGE ?g_C ?l_C ?g_N ?l_N ?b_len ?b_range ?b_min ?b_reversed
      (case c_frame => k_is)
      (case c_stack => k_is)
      (case c_throw => k_is)
      (case c_asks => k_is)
      (case c_keep => k_is)
      (case a_frame_init => k_is)
      (case i_frame_init => k_is)
      (case d_frame_init => refine' Th.def_mk (nm := "__init__") (ql := "Frame.__init__") (st := Th.s_frame_init) rfl rfl rfl ?l ?c ?k; (case l => k_is); (case c => k_is); (case k => k_is))
      (case a_frame_is_new => k_is)
      (case i_frame_is_new => k_is)
      (case d_frame_is_new => refine' Th.def_mk (nm := "is_new") (ql := "Frame.is_new") (st := Th.s_frame_is_new) rfl rfl rfl ?l ?c ?k; (case l => k_is); (case c => k_is); (case k => k_is))
      (case a_stack_init => k_is)
      (case i_stack_init => k_is)
      (case d_stack_init => refine' Th.def_mk (nm := "__init__") (ql := "Stack.__init__") (st := Th.s_stack_init) rfl rfl rfl ?l ?c ?k; (case l => k_is); (case c => k_is); (case k => k_is))
      (case a_stack_innermost => k_is)
      (case i_stack_innermost => k_is)
      (case d_stack_innermost => refine' Th.def_mk (nm := "innermost") (ql := "Stack.innermost") (st := Th.s_stack_innermost) rfl rfl rfl ?l ?c ?k; (case l => k_is); (case c => k_is); (case k => k_is))
      (case a_throw_init => k_is)
      (case i_throw_init => k_is)
      (case d_throw_init => refine' Th.def_mk (nm := "__init__") (ql := "Throw.__init__") (st := Th.s_throw_init) rfl rfl rfl ?l ?c ?k; (case l => k_is); (case c => k_is); (case k => k_is))
      (case a_throw_of_number => k_is)
      (case d_throw_of_number => refine' Th.def_mk (nm := "throw_of_number") (ql := "throw_of_number") (st := Th.s_throw_of_number) rfl rfl rfl ?l ?c ?k; (case l => k_is); (case c => k_is); (case k => k_is))
      (case a_in_place_of => k_is)
      (case d_in_place_of => refine' Th.def_mk (nm := "in_place_of") (ql := "in_place_of") (st := Th.s_in_place_of) rfl rfl rfl ?l ?c ?k; (case l => k_is); (case c => k_is); (case k => k_is))
      (case a_asks_init => k_is)
      (case i_asks_init => k_is)
      (case d_asks_init => refine' Th.def_mk (nm := "__init__") (ql := "Asks.__init__") (st := Th.s_asks_init) rfl rfl rfl ?l ?c ?k; (case l => k_is); (case c => k_is); (case k => k_is))
      (case a_asks_ask => k_is)
      (case i_asks_ask => k_is)
      (case d_asks_ask => refine' Th.def_mk (nm := "ask") (ql := "Asks.ask") (st := Th.s_asks_ask) rfl rfl rfl ?l ?c ?k; (case l => k_is); (case c => k_is); (case k => k_is))
      (case a_asks_run => k_is)
      (case i_asks_run => k_is)
      (case d_asks_run => refine' Th.def_mk (nm := "run") (ql := "Asks.run") (st := Th.s_asks_run) rfl rfl rfl ?l ?c ?k; (case l => k_is); (case c => k_is); (case k => k_is))
      (case a_asks_clean => k_is)
      (case i_asks_clean => k_is)
      (case d_asks_clean => refine' Th.def_mk (nm := "clean") (ql := "Asks.clean") (st := Th.s_asks_clean) rfl rfl rfl ?l ?c ?k; (case l => k_is); (case c => k_is); (case k => k_is))
      (case a_keep_init => k_is)
      (case i_keep_init => k_is)
      (case d_keep_init => refine' Th.def_mk (nm := "__init__") (ql := "Keep.__init__") (st := Th.s_keep_init) rfl rfl rfl ?l ?c ?k; (case l => k_is); (case c => k_is); (case k => k_is))
      (case a_keep_make_empty => k_is)
      (case i_keep_make_empty => k_is)
      (case d_keep_make_empty => refine' Th.def_mk (nm := "make_empty") (ql := "Keep.make_empty") (st := Th.s_keep_make_empty) rfl rfl rfl ?l ?c ?k; (case l => k_is); (case c => k_is); (case k => k_is))
      (case a_keep_is_stopped => k_is)
      (case i_keep_is_stopped => k_is)
      (case d_keep_is_stopped => refine' Th.def_mk (nm := "is_stopped") (ql := "Keep.is_stopped") (st := Th.s_keep_is_stopped) rfl rfl rfl ?l ?c ?k; (case l => k_is); (case c => k_is); (case k => k_is))
      (case a_keep_find_stack => k_is)
      (case i_keep_find_stack => k_is)
      (case d_keep_find_stack => refine' Th.def_mk (nm := "find_stack") (ql := "Keep.find_stack") (st := Th.s_keep_find_stack) rfl rfl rfl ?l ?c ?k; (case l => k_is); (case c => k_is); (case k => k_is))
      (case a_keep_cut_stack => k_is)
      (case i_keep_cut_stack => k_is)
      (case d_keep_cut_stack => refine' Th.def_mk (nm := "cut_stack") (ql := "Keep.cut_stack") (st := Th.s_keep_cut_stack) rfl rfl rfl ?l ?c ?k; (case l => k_is); (case c => k_is); (case k => k_is))
      (case a_keep_add_stack => k_is)
      (case i_keep_add_stack => k_is)
      (case d_keep_add_stack => refine' Th.def_mk (nm := "add_stack") (ql := "Keep.add_stack") (st := Th.s_keep_add_stack) rfl rfl rfl ?l ?c ?k; (case l => k_is); (case c => k_is); (case k => k_is))
      (case a_keep_add_frame => k_is)
      (case i_keep_add_frame => k_is)
      (case d_keep_add_frame => refine' Th.def_mk (nm := "add_frame") (ql := "Keep.add_frame") (st := Th.s_keep_add_frame) rfl rfl rfl ?l ?c ?k; (case l => k_is); (case c => k_is); (case k => k_is))
      (case a_keep_drop_frame => k_is)
      (case i_keep_drop_frame => k_is)
      (case d_keep_drop_frame => refine' Th.def_mk (nm := "drop_frame") (ql := "Keep.drop_frame") (st := Th.s_keep_drop_frame) rfl rfl rfl ?l ?c ?k; (case l => k_is); (case c => k_is); (case k => k_is))
      (case a_keep_drop_stack => k_is)
      (case i_keep_drop_stack => k_is)
      (case d_keep_drop_stack => refine' Th.def_mk (nm := "drop_stack") (ql := "Keep.drop_stack") (st := Th.s_keep_drop_stack) rfl rfl rfl ?l ?c ?k; (case l => k_is); (case c => k_is); (case k => k_is))
      (case a_keep_put_on => k_is)
      (case i_keep_put_on => k_is)
      (case d_keep_put_on => refine' Th.def_mk (nm := "put_on") (ql := "Keep.put_on") (st := Th.s_keep_put_on) rfl rfl rfl ?l ?c ?k; (case l => k_is); (case c => k_is); (case k => k_is))
      (case a_keep_put_on_sending => k_is)
      (case i_keep_put_on_sending => k_is)
      (case d_keep_put_on_sending => refine' Th.def_mk (nm := "put_on_sending") (ql := "Keep.put_on_sending") (st := Th.s_keep_put_on_sending) rfl rfl rfl ?l ?c ?k; (case l => k_is); (case c => k_is); (case k => k_is))
      (case a_keep_take_off => k_is)
      (case i_keep_take_off => k_is)
      (case d_keep_take_off => refine' Th.def_mk (nm := "take_off") (ql := "Keep.take_off") (st := Th.s_keep_take_off) rfl rfl rfl ?l ?c ?k; (case l => k_is); (case c => k_is); (case k => k_is))
      (case a_tell_frames => k_is)
      (case d_tell_frames => refine' Th.def_mk (nm := "tell_frames") (ql := "tell_frames") (st := Th.s_tell_frames) rfl rfl rfl ?l ?c ?k; (case l => k_is); (case c => k_is); (case k => k_is))
      (case a_tell_acts => k_is)
      (case d_tell_acts => refine' Th.def_mk (nm := "tell_acts") (ql := "tell_acts") (st := Th.s_tell_acts) rfl rfl rfl ?l ?c ?k; (case l => k_is); (case c => k_is); (case k => k_is))
      (case a_tell_row => k_is)
      (case d_tell_row => refine' Th.def_mk (nm := "tell_row") (ql := "tell_row") (st := Th.s_tell_row) rfl rfl rfl ?l ?c ?k; (case l => k_is); (case c => k_is); (case k => k_is))
      (case a_tell_pieces => k_is)
      (case d_tell_pieces => refine' Th.def_mk (nm := "tell_pieces") (ql := "tell_pieces") (st := Th.s_tell_pieces) rfl rfl rfl ?l ?c ?k; (case l => k_is); (case c => k_is); (case k => k_is))
      (case a_tell_causes => k_is)
      (case d_tell_causes => refine' Th.def_mk (nm := "tell_causes") (ql := "tell_causes") (st := Th.s_tell_causes) rfl rfl rfl ?l ?c ?k; (case l => k_is); (case c => k_is); (case k => k_is))
      (case a_drop_act => k_is)
      (case d_drop_act => refine' Th.def_mk (nm := "drop_act") (ql := "drop_act") (st := Th.s_drop_act) rfl rfl rfl ?l ?c ?k; (case l => k_is); (case c => k_is); (case k => k_is))
      (case a_throw_on => k_is)
      (case d_throw_on => refine' Th.def_mk (nm := "throw_on") (ql := "throw_on") (st := Th.s_throw_on) rfl rfl rfl ?l ?c ?k; (case l => k_is); (case c => k_is); (case k => k_is))
      (case a_throw_through_frame => k_is)
      (case d_throw_through_frame => refine' Th.def_mk (nm := "throw_through_frame") (ql := "throw_through_frame") (st := Th.s_throw_through_frame) rfl rfl rfl ?l ?c ?k; (case l => k_is); (case c => k_is); (case k => k_is))
      (case a_catches => k_is)
      (case d_catches => refine' Th.def_mk (nm := "catches") (ql := "catches") (st := Th.s_catches) rfl rfl rfl ?l ?c ?k; (case l => k_is); (case c => k_is); (case k => k_is))
      (case a_end_stack => k_is)
      (case d_end_stack => refine' Th.def_mk (nm := "end_stack") (ql := "end_stack") (st := Th.s_end_stack) rfl rfl rfl ?l ?c ?k; (case l => k_is); (case c => k_is); (case k => k_is))
      (case a_joined => k_is)
      (case d_joined => refine' Th.def_mk (nm := "joined") (ql := "joined") (st := Th.s_joined) rfl rfl rfl ?l ?c ?k; (case l => k_is); (case c => k_is); (case k => k_is))
      (case a_refuse => k_is)
      (case d_refuse => refine' Th.def_mk (nm := "refuse") (ql := "refuse") (st := Th.s_refuse) rfl rfl rfl ?l ?c ?k; (case l => k_is); (case c => k_is); (case k => k_is))
      (case a_go_on => k_is)
      (case d_go_on => refine' Th.def_mk (nm := "go_on") (ql := "go_on") (st := Th.s_go_on) rfl rfl rfl ?l ?c ?k; (case l => k_is); (case c => k_is); (case k => k_is))
      (case a_want_return => k_is)
      (case d_want_return => refine' Th.def_mk (nm := "want_return") (ql := "want_return") (st := Th.s_want_return) rfl rfl rfl ?l ?c ?k; (case l => k_is); (case c => k_is); (case k => k_is))
      (case a_want_call => k_is)
      (case d_want_call => refine' Th.def_mk (nm := "want_call") (ql := "want_call") (st := Th.s_want_call) rfl rfl rfl ?l ?c ?k; (case l => k_is); (case c => k_is); (case k => k_is))
      (case a_want_throw => k_is)
      (case d_want_throw => refine' Th.def_mk (nm := "want_throw") (ql := "want_throw") (st := Th.s_want_throw) rfl rfl rfl ?l ?c ?k; (case l => k_is); (case c => k_is); (case k => k_is))
      (case a_want_handler => k_is)
      (case d_want_handler => refine' Th.def_mk (nm := "want_handler") (ql := "want_handler") (st := Th.s_want_handler) rfl rfl rfl ?l ?c ?k; (case l => k_is); (case c => k_is); (case k => k_is))
      (case a_want_last => k_is)
      (case d_want_last => refine' Th.def_mk (nm := "want_last") (ql := "want_last") (st := Th.s_want_last) rfl rfl rfl ?l ?c ?k; (case l => k_is); (case c => k_is); (case k => k_is))
      (case a_add_act => k_is)
      (case d_add_act => refine' Th.def_mk (nm := "add_act") (ql := "add_act") (st := Th.s_add_act) rfl rfl rfl ?l ?c ?k; (case l => k_is); (case c => k_is); (case k => k_is))
      (case a_want_drop_act => k_is)
      (case d_want_drop_act => refine' Th.def_mk (nm := "want_drop_act") (ql := "want_drop_act") (st := Th.s_want_drop_act) rfl rfl rfl ?l ?c ?k; (case l => k_is); (case c => k_is); (case k => k_is))
      (case a_want_hand_out => k_is)
      (case d_want_hand_out => refine' Th.def_mk (nm := "want_hand_out") (ql := "want_hand_out") (st := Th.s_want_hand_out) rfl rfl rfl ?l ?c ?k; (case l => k_is); (case c => k_is); (case k => k_is))
      (case a_want_new_stack => k_is)
      (case d_want_new_stack => refine' Th.def_mk (nm := "want_new_stack") (ql := "want_new_stack") (st := Th.s_want_new_stack) rfl rfl rfl ?l ?c ?k; (case l => k_is); (case c => k_is); (case k => k_is))
      (case a_want_go_on_with => k_is)
      (case d_want_go_on_with => refine' Th.def_mk (nm := "want_go_on_with") (ql := "want_go_on_with") (st := Th.s_want_go_on_with) rfl rfl rfl ?l ?c ?k; (case l => k_is); (case c => k_is); (case k => k_is))
      (case a_want_end => k_is)
      (case d_want_end => refine' Th.def_mk (nm := "want_end") (ql := "want_end") (st := Th.s_want_end) rfl rfl rfl ?l ?c ?k; (case l => k_is); (case c => k_is); (case k => k_is))
      (case a_want_throw_again => k_is)
      (case d_want_throw_again => refine' Th.def_mk (nm := "want_throw_again") (ql := "want_throw_again") (st := Th.s_want_throw_again) rfl rfl rfl ?l ?c ?k; (case l => k_is); (case c => k_is); (case k => k_is))
      (case a_want_set_word => k_is)
      (case d_want_set_word => refine' Th.def_mk (nm := "want_set_word") (ql := "want_set_word") (st := Th.s_want_set_word) rfl rfl rfl ?l ?c ?k; (case l => k_is); (case c => k_is); (case k => k_is))
      (case a_want_tell_word => k_is)
      (case d_want_tell_word => refine' Th.def_mk (nm := "want_tell_word") (ql := "want_tell_word") (st := Th.s_want_tell_word) rfl rfl rfl ?l ?c ?k; (case l => k_is); (case c => k_is); (case k => k_is))
      (case a_take_step => k_is)
      (case d_take_step => refine' Th.def_mk (nm := "take_step") (ql := "take_step") (st := Th.s_take_step) rfl rfl rfl ?l ?c ?k; (case l => k_is); (case c => k_is); (case k => k_is))
      (case a_call_new => k_is)
      (case d_call_new => refine' Th.def_mk (nm := "call_new") (ql := "call_new") (st := Th.s_call_new) rfl rfl rfl ?l ?c ?k; (case l => k_is); (case c => k_is); (case k => k_is))
      (case a_call_go => k_is)
      (case d_call_go => refine' Th.def_mk (nm := "call_go") (ql := "call_go") (st := Th.s_call_go) rfl rfl rfl ?l ?c ?k; (case l => k_is); (case c => k_is); (case k => k_is))
      (case a_call_send => k_is)
      (case d_call_send => refine' Th.def_mk (nm := "call_send") (ql := "call_send") (st := Th.s_call_send) rfl rfl rfl ?l ?c ?k; (case l => k_is); (case c => k_is); (case k => k_is))
      (case a_call_hurl => k_is)
      (case d_call_hurl => refine' Th.def_mk (nm := "call_hurl") (ql := "call_hurl") (st := Th.s_call_hurl) rfl rfl rfl ?l ?c ?k; (case l => k_is); (case c => k_is); (case k => k_is))
      (case a_call_end => k_is)
      (case d_call_end => refine' Th.def_mk (nm := "call_end") (ql := "call_end") (st := Th.s_call_end) rfl rfl rfl ?l ?c ?k; (case l => k_is); (case c => k_is); (case k => k_is))
      (case a_call_on => k_is)
      (case d_call_on => refine' Th.def_mk (nm := "call_on") (ql := "call_on") (st := Th.s_call_on) rfl rfl rfl ?l ?c ?k; (case l => k_is); (case c => k_is); (case k => k_is))
      (case a_call_frames => k_is)
      (case d_call_frames => refine' Th.def_mk (nm := "call_frames") (ql := "call_frames") (st := Th.s_call_frames) rfl rfl rfl ?l ?c ?k; (case l => k_is); (case c => k_is); (case k => k_is))
      (case a_call_acts => k_is)
      (case d_call_acts => refine' Th.def_mk (nm := "call_acts") (ql := "call_acts") (st := Th.s_call_acts) rfl rfl rfl ?l ?c ?k; (case l => k_is); (case c => k_is); (case k => k_is))
      (case a_call_row => k_is)
      (case d_call_row => refine' Th.def_mk (nm := "call_row") (ql := "call_row") (st := Th.s_call_row) rfl rfl rfl ?l ?c ?k; (case l => k_is); (case c => k_is); (case k => k_is))
      (case a_call_pieces => k_is)
      (case d_call_pieces => refine' Th.def_mk (nm := "call_pieces") (ql := "call_pieces") (st := Th.s_call_pieces) rfl rfl rfl ?l ?c ?k; (case l => k_is); (case c => k_is); (case k => k_is))
      (case a_call_causes => k_is)
      (case d_call_causes => refine' Th.def_mk (nm := "call_causes") (ql := "call_causes") (st := Th.s_call_causes) rfl rfl rfl ?l ?c ?k; (case l => k_is); (case c => k_is); (case k => k_is))
      (case a_in_range => k_is)
      (case d_in_range => refine' Th.def_mk (nm := "in_range") (ql := "in_range") (st := Th.s_in_range) rfl rfl rfl ?l ?c ?k; (case l => k_is); (case c => k_is); (case k => k_is))
      (case a_run_steps => k_is)
      (case d_run_steps => refine' Th.def_mk (nm := "run_steps") (ql := "run_steps") (st := Th.s_run_steps) rfl rfl rfl ?l ?c ?k; (case l => k_is); (case c => k_is); (case k => k_is))
      (case a_how_many_numbers => k_is)
      (case d_how_many_numbers => refine' Th.def_mk (nm := "how_many_numbers") (ql := "how_many_numbers") (st := Th.s_how_many_numbers) rfl rfl rfl ?l ?c ?k; (case l => k_is); (case c => k_is); (case k => k_is))
      (case a_do_call => k_is)
      (case d_do_call => refine' Th.def_mk (nm := "do_call") (ql := "do_call") (st := Th.s_do_call) rfl rfl rfl ?l ?c ?k; (case l => k_is); (case c => k_is); (case k => k_is))
      (case a_answers => k_is)
      (case d_answers => refine' Th.def_mk (nm := "answers") (ql := "answers") (st := Th.s_answers) rfl rfl rfl ?l ?c ?k; (case l => k_is); (case c => k_is); (case k => k_is))
      (case pg_frame => k_is)
      (case hd_frame => k_is)
      (case po_frame => k_is)
      (case sa_frame => k_is)
      (case mk_frame => k_is)
      (case kc_frame => k_is)
      (case n_frame_function => k_is)
      (case n_frame_place => k_is)
      (case n_frame_words => k_is)
      (case n_frame_caught => k_is)
      (case n_frame_acts => k_is)
      (case pg_stack => k_is)
      (case hd_stack => k_is)
      (case po_stack => k_is)
      (case sa_stack => k_is)
      (case mk_stack => k_is)
      (case kc_stack => k_is)
      (case n_stack_number => k_is)
      (case n_stack_frames => k_is)
      (case n_stack_pieces => k_is)
      (case n_stack_on => k_is)
      (case n_stack_waiter => k_is)
      (case pg_throw => k_is)
      (case hd_throw => k_is)
      (case po_throw => k_is)
      (case sa_throw => k_is)
      (case mk_throw => k_is)
      (case kc_throw => k_is)
      (case n_throw_kind => k_is)
      (case n_throw_value => k_is)
      (case n_throw_causes => k_is)
      (case pg_asks => k_is)
      (case hd_asks => k_is)
      (case po_asks => k_is)
      (case sa_asks => k_is)
      (case mk_asks => k_is)
      (case kc_asks => k_is)
      (case n_asks_replies => k_is)
      (case n_asks_asked => k_is)
      (case n_asks_told => k_is)
      (case pg_keep => k_is)
      (case hd_keep => k_is)
      (case po_keep => k_is)
      (case sa_keep => k_is)
      (case mk_keep => k_is)
      (case kc_keep => k_is)
      (case n_keep_stacks => k_is)
      (case n_keep_taken => k_is)
      (case n_keep_running => k_is)
      (case n_keep_come => k_is)
      (case n_keep_uncaught => k_is)
      (case eq_stack => k_is)
      (case sub_stack => k_is)
      (case k_HANDLER => k_is)
      (case k_LAST => k_is)
      (case k_KINDS => k_is)
      (case k_EVERY_KIND => k_is)
      (case k_WORDS => k_is)
      (case k_CAUSES_MOST => k_is)
      (case k_RUN => k_is)
      (case k_CLEAN => k_is)
      (case k_WHY_RETURN => k_is)
      (case k_WHY_THROW => k_is)
      (case k_WHY_END => k_is)
      (case k_STACKS_MOST => k_is)
      (case k_PIECES_MOST => k_is)
      (case k_PIECE_FRAMES => k_is)
      (case k_FIRST => k_is)
      (case k_SENT => k_is)
      (case k_ON => k_is)
      (case k_CUT => k_is)
      (case k_NOBODY => k_is)
      (case k_UNCAUGHT => k_is)
      (case k_CAUGHT => k_is)
      (case k_PLACE_MOST => k_is)
      (case k_ACTS_MOST => k_is)
      (case k_FUNCTIONS => k_is)
      (case g_NM => k_is)
      (case l_NM => k_is)
      (case k_CALLED => k_is)
      (case k_RETURNED => k_is)
      (case k_WORD => k_is)
      (case k_HANDED_OUT => k_is)
      (case k_STACK_RETURNED => k_is)
      (case k_STACK_MADE => k_is)
      (case k_REFUSED => k_is)
      (case k_ENDS_RETURNED => k_is)
      (case k_ENDS_HANDED_OUT => k_is)
      (case k_NO_WANT => k_is)
      (case g_W => k_is)
      (case l_W => k_is)
      (case k_FUNCTION_MOST => k_is)
      (case k_KIND_MOST => k_is)
      (case k_BUDGET_MOST => k_is)
      (case k_STOPPED => k_is)
      (case k_NO_SUCH_STACK => k_is)
      (case k_NOTHING_STOPPED => k_is)
      (case k_NO_SUCH_FRAME => k_is)
      (case k_NOTHING_UNCAUGHT => k_is)
      (case k_NO_ROOM => k_is)
      (case k_IS_STOPPED => k_is)
      (case k_OUT_OF_RANGE => k_is)
      (case g_C => k_is)
      (case l_C => k_is)
      (case g_N => k_is)
      (case l_N => k_is)
      (case b_len => k_is)
      (case b_range => k_is)
      (case b_min => k_is)
      (case b_reversed => k_is)
    obtain ⟨A, T, hb⟩ := T
    have e0 := hmg.symm.trans T.g_answers
    cases e0
    exact ⟨A.fd .d_answers, fun s u => .of_eq (hb [u] rfl), fun base kb nb => Th.ok_answers T⟩
  case S => exact fun K H a ns h1 h2 h3 h4 h5 => ⟨a, ns, rfl, h1, h3, h5, fun H' p h => ⟨p, rfl, h⟩⟩
#print axioms PySem.Challenge.cw_throwstack_s01_answers_holds
