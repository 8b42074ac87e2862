import PyProof.Rows.All
import Wide.All
import OpenK.AllK
import Wide.FinOn
import PyProof.EqAt
import PyProof.EqKinds
import PyProof.TupleCall
import KE.BitLaws
import Open.SpecLaws
import KE.OsHead
import KE.OsGo
import KE.KLam
import KE.KSortKey
import KE.KSortTupG
import PyProof.ListRange
import PyProof.Rows.CallKwBuiltin
import PySem.Challenge.RW_leverpulls_s05_order
/-! L2Spec -/
set_option Elab.async false
set_option linter.all false
set_option maxRecDepth 100000
namespace L2
open PySem PySem.Spec PyProof.Rows
/-- a key: an int or a str -/
abbrev Key := Sum Int Str
def keyIs : Key → Value → Bool
  | .inl k, v => Value.isInt k v
  | .inr x, v => Value.isStrOf x v
def keyH (w : World) : Key → Int
  | .inl k => hashInt k
  | .inr x => hashStr w x
theorem keyIs_shape : ∀ {k : Key} {v : Value}, keyIs k v = true → (∃ i t, k = Sum.inl i ∧ v = Value.int i t) ∨ (∃ x t, k = Sum.inr x ∧ v = Value.str x t)
  | .inl i, v, h => by
    obtain ⟨t, e⟩ := Value.isInt_shape (k := i) (v := v) h
    exact .inl ⟨i, t, rfl, e⟩
  | .inr x, v, h => by
    obtain ⟨t, e⟩ := Value.isStrOf_shape (x := x) (v := v) h
    exact .inr ⟨x, t, rfl, e⟩
theorem key_ll (a b : Int) : decide ((Sum.inl a : Key) = Sum.inl b) = (a == b) := by
  by_cases e : a = b
  · subst e; simp
  · have h : ¬ (Sum.inl a : Key) = Sum.inl b := fun q => e (Sum.inl.inj q)
    rw [decide_eq_false h]
    exact (beq_eq_false_iff_ne.mpr e).symm
theorem key_rr (a b : Str) : decide ((Sum.inr a : Key) = Sum.inr b) = decide (a = b) := by
  by_cases e : a = b
  · subst e; simp
  · have h : ¬ (Sum.inr a : Key) = Sum.inr b := fun q => e (Sum.inr.inj q)
    rw [decide_eq_false h, decide_eq_false e]
theorem key_lr (a : Int) (b : Str) : decide ((Sum.inl a : Key) = Sum.inr b) = false := decide_eq_false (fun q => nomatch q)
theorem key_rl (a : Str) (b : Int) : decide ((Sum.inr a : Key) = Sum.inl b) = false := decide_eq_false (fun q => nomatch q)
def mixKind (prog : Program) (w : World) : PySem.KeyKind prog w Key where
  is := keyIs
  hash := keyH w
  inj := fun v a b ha hb => by
    rcases keyIs_shape ha with ⟨i, t, rfl, rfl⟩ | ⟨x, t, rfl, rfl⟩
    · rcases keyIs_shape hb with ⟨j, u, rfl, e⟩ | ⟨y, u, rfl, e⟩
      · injection e with e1 _; rw [e1]
      · exact nomatch e
    · rcases keyIs_shape hb with ⟨j, u, rfl, e⟩ | ⟨y, u, rfl, e⟩
      · exact nomatch e
      · injection e with e1 _; rw [e1]
  byValue := fun k v h => by
    rcases keyIs_shape h with ⟨i, t, rfl, rfl⟩ | ⟨x, t, rfl, rfl⟩ <;> rfl
  pyHash := fun hv h => by
    rcases keyIs_shape hv with ⟨i, t, rfl, rfl⟩ | ⟨x, t, rfl, rfl⟩
    · exact wpAny_pyHash_int h
    · exact wpAny_pyHash_str h
  eqBool := fun hu hv h => by
    rcases keyIs_shape hu with ⟨i, t, rfl, rfl⟩ | ⟨x, t, rfl, rfl⟩
    · rcases keyIs_shape hv with ⟨j, u, rfl, rfl⟩ | ⟨y, u, rfl, rfl⟩
      · rw [key_ll] at h; exact wpAny_eqBool_int h
      · rw [key_lr] at h; exact SeqAt.EqAt.int_str i t y u _ _ _ _ h
    · rcases keyIs_shape hv with ⟨j, u, rfl, rfl⟩ | ⟨y, u, rfl, rfl⟩
      · rw [key_rl] at h; exact SeqAt.EqAt.str_int x t j u _ _ _ _ h
      · rw [key_rr] at h; exact wpAny_eqBool_str h
  «strs» := fun k x t v h => by
    rcases keyIs_shape h with ⟨i, u, rfl, e⟩ | ⟨y, u, rfl, e⟩
    · exact nomatch e
    · injection e with e1 _
      subst e1
      cases v <;> rfl
end L2
namespace L2
open PySem PySem.Spec PyProof.Rows
/-- a value, without the heap -/
inductive V where
  | non | bl (b : Bool) | int (i : Int) | str (x : Str) | byt (b : Array UInt8) | flt (b : UInt64) | ref (a : Addr) | ty (n : String)
  deriving DecidableEq
def RelV : V → Value → Prop
  | .non, u => u = Value.none
  | .bl b, u => u = Value.bool b
  | .int i, u => ∃ t, u = Value.int i t
  | .str x, u => ∃ t, u = Value.str x t
  | .byt b, u => ∃ t, u = Value.bytes b t
  | .flt b, u => ∃ t, u = Value.float b t
  | .ref a, u => u = Value.ref a
  | .ty n, u => u = Value.type n
abbrev Vals : List V → List Value → Prop := Paired RelV
theorem Vals.length {xs : List V} {us : List Value} (r : Vals xs us) : xs.length = us.length := Paired.length r
theorem Vals.get : ∀ {xs : List V} {us : List Value} {i : Nat} {x : V}, Vals xs us → xs[i]? = some x → ∃ u, us[i]? = some u ∧ RelV x u
  | _, _, _, _, .nil, e => by simp at e
  | _, _, 0, _, .cons r _, e => by simp at e; subst e; exact ⟨_, rfl, r⟩
  | _, _, i + 1, x, .cons _ t, e => by
    obtain ⟨u, h1, h2⟩ := Vals.get (i := i) (x := x) t (by simpa using e)
    exact ⟨u, by simpa using h1, h2⟩
theorem Vals.set {x : V} {u : Value} (r : RelV x u) : ∀ {xs : List V} {us : List Value} (i : Nat), Vals xs us → Vals (xs.set i x) (us.set i u)
  | _, _, _, .nil => .nil
  | _, _, 0, .cons _ t => .cons r t
  | _, _, i + 1, .cons q t => .cons q (Vals.set r i t)
theorem Vals.append : ∀ {xs ys : List V} {us ws : List Value}, Vals xs us → Vals ys ws → Vals (xs ++ ys) (us ++ ws)
  | _, _, _, _, .nil, s => s
  | _, _, _, _, .cons r t, s => .cons r (Vals.append t s)
theorem Vals.take : ∀ {xs : List V} {us : List Value} (n : Nat), Vals xs us → Vals (xs.take n) (us.take n)
  | _, _, 0, _ => .nil
  | _, _, _ + 1, .nil => .nil
  | _, _, n + 1, .cons r t => .cons r (Vals.take n t)
theorem Vals.drop : ∀ {xs : List V} {us : List Value} (n : Nat), Vals xs us → Vals (xs.drop n) (us.drop n)
  | _, _, 0, r => r
  | _, _, _ + 1, .nil => .nil
  | _, _, n + 1, .cons _ t => Vals.drop n t
def RelO : Option V → Option Value → Prop
  | some v, some u => RelV v u
  | none, none => True
  | _, _ => False
def KV {κ : Type} : List (κ × V) → List (κ × Value) → Prop := Paired fun (p : κ × V) (q : κ × Value) => p.1 = q.1 ∧ RelV p.2 q.2
/-- a key of a dict (00_mix): an int or a text -/
def kV : Key → V
  | .inl i => .int i
  | .inr x => .str x
/-- what stands at a tracked address -/
inductive HO where
  /-- a list -/
  | lst (xs : List V)
  /-- a tuple (never changes) -/
  | tup (xs : List V)
  /-- a dict whose keys are ints and texts; one whose keys are tuples of ints and texts (the empty one is both) -/
  | dK (kvs : List (Key × V)) | dT (kvs : List (List Key × V))
  /-- a set of ints: its members, its size -/
  | set (S : Int → Bool) (n : Nat)
  /-- an instance of the class at C, its dict at dx, its attributes -/
  | ins (C dx : Addr) (fs : List (Str × V))
  /-- the dict of the instance at x -/
  | own (x : Addr)
  /-- the dict of an exception -/
  | xd (fs : List (Str × V))
  /-- a bound method, f of x -/
  | met (f x : Addr)
  /-- a range object lo, lo + 1, .. below hi -/
  | rng (lo hi : Int)
  /-- a thing that is known to the object (the script; a dict while a loop walks it): read, never written while it is so -/
  | frz (o : Obj) (u : HO)
  /-- a code object's table -/
  | tbl (ps : Array Value)
  /-- any other thing, by what is true of its one object (a def of one's own: SetO a S n := HO.ext fun h => ..) -/
  | ext (φ : Heap → Prop)
abbrev Hp := Addr → Option HO
def upd (H : Hp) (a : Addr) (o : HO) : Hp := fun b => if b = a then some o else H b
theorem upd_same {H : Hp} {a : Addr} {o : HO} : upd H a o a = some o := by unfold upd; rw [if_pos rfl]
theorem upd_ne {H : Hp} {a b : Addr} {o : HO} (h : b ≠ a) : upd H a o b = H b := by unfold upd; rw [if_neg h]
/-- two objects of different content stand apart -/
theorem ne_of {H : Hp} {a b : Addr} {o u : HO} (h : H a = some o) (h' : H b = some u) (d : o ≠ u) : a ≠ b := by
  intro e; subst e; rw [h] at h'; exact d (Option.some.inj h')
theorem ne_of_none {H : Hp} {a b : Addr} {o : HO} (h : H a = some o) (h' : H b = none) : a ≠ b := by
  intro e; subst e; rw [h] at h'; cases h'
section
variable (P : Program) (w : World)
def ObjOk (H : Hp) (h : Heap) (a : Addr) : HO → Prop
  | .lst xs => xs.length ≤ sizeLine ∧ ∃ (its : List Value) (n : Nat), Vals xs its ∧ h.get? a = some { cls := .type "list", data := .seq its.toArray n }
  | .tup xs => xs.length ≤ sizeLine ∧ ∃ its : List Value, Vals xs its ∧ IsTup h a its.toArray
  | .dK kvs => kvs.length ≤ sizeLine ∧ (a == sysModules) = false ∧ ∃ vs, KV kvs vs ∧ h.DictOf (mixKind P w) a vs
  | .dT kvs => kvs.length ≤ sizeLine ∧ (a == sysModules) = false ∧ ∃ xs : List (List Key × Addr × Value),
      Paired (fun (p : List Key × V) (q : List Key × Addr × Value) => p.1 = q.1 ∧ H q.2.1 = some (.tup (p.1.map kV)) ∧ RelV p.2 q.2.2) kvs xs ∧
      ∃ o es ep, h.get? a = some o ∧ o.ExactDict ∧ o.data = .dict es ep ∧ es.toList = xs.map (entryOfKey (tupleKind (mixKind P w))) ∧ (xs.map (·.1)).Nodup
  | .set S n => h.SetOf (intKind P w) a S n
  | .ins C dx fs => H dx = some (.own a) ∧ fs.length ≤ 1000 ∧ dx ≠ a ∧ h.get? a = some (PySem.W.instObj C dx) ∧
      ∃ mA, h.Ns1 dx mA ∧ (∀ f, RelO (fs.lookup f) (mA f)) ∧ PySem.Within mA (fs.map (·.1))
  | .own _ => ∃ o, h.get? a = some o
  | .xd fs => ∃ mA, h.Ns1 a mA ∧ ∀ f, RelO (fs.lookup f) (mA f)
  | .rng lo hi => ∃ t u v, h.get? a = some { cls := .type "range", data := .fields #[.int lo t, .int hi u, .int 1 v] }
  | .frz o u => h.get? a = some o ∧ ObjOk H h a u
  | .tbl ps => h.get? a = some { cls := .none, data := .fields ps }
  | .met f x => h.get? a = some (PySem.W.methodObj (.ref f) (.ref x))
  | .ext φ => φ h ∧ (∃ o, h.get? a = some o) ∧ ∀ h1 h2 : Heap, φ h1 → (∀ o, h1.get? a = some o → h2.get? a = some o) → φ h2
/-- the abstract heap is held -/
def HOk (H : Hp) (h : Heap) : Prop := ∀ a o, H a = some o → ObjOk P w H h a o
end
section
variable {P : Program} {w : World} {H H' : Hp} {h h' : Heap} {a : Addr} {o : HO}
theorem ObjOk.lt (x : ObjOk P w H h a o) : a < h.objs.size := by
  cases o with
  | lst xs => obtain ⟨_, _, _, _, e⟩ := x; exact Heap.lt_size e
  | tup xs => obtain ⟨_, _, _, p⟩ := x; exact p.lt
  | dK kvs => obtain ⟨_, _, _, _, o, _, _, e, _⟩ := x; exact Heap.lt_size e
  | dT kvs => obtain ⟨_, _, _, _, o, _, _, e, _⟩ := x; exact Heap.lt_size e
  | set S n => obtain ⟨o, _, _, _, e, _⟩ := x; exact Heap.lt_size e
  | ins C dx fs => obtain ⟨_, _, _, e, _⟩ := x; exact Heap.lt_size e
  | own y => obtain ⟨_, e⟩ := x; exact Heap.lt_size e
  | xd fs => obtain ⟨_, ⟨_, _, _, e, _⟩, _⟩ := x; exact Heap.lt_size e
  | rng lo hi => obtain ⟨_, _, _, e⟩ := x; exact Heap.lt_size e
  | frz ob u => obtain ⟨e, _⟩ := x; exact Heap.lt_size e
  | tbl ps => exact Heap.lt_size (show h.get? a = some _ from x)
  | met f y => exact Heap.lt_size (show h.get? a = some _ from x)
  | ext φ => obtain ⟨_, ⟨_, e⟩, _⟩ := x; exact Heap.lt_size e
theorem Paired.mapP {α β : Type} {F G : α → β → Prop} : ∀ {l₁ : List α} {l₂ : List β}, Paired F l₁ l₂ → (∀ a b, F a b → G a b) → Paired G l₁ l₂
  | _, _, .nil, _ => .nil
  | _, _, .cons r t, f => .cons (f _ _ r) (Paired.mapP t f)
/-- what an object's description leans on: its own object, its own dict, the tuples -/
theorem ObjOk.stay (x : ObjOk P w H h a o) (k : ∀ b u, (b = a ∨ H b = some (.own a)) → h.get? b = some u → h'.get? b = some u)
    (ho : ∀ b, H b = some (.own a) → H' b = some (.own a)) (ht : ∀ b xs, H b = some (.tup xs) → H' b = some (.tup xs)) : ObjOk P w H' h' a o := by
  induction o with
  | lst xs => obtain ⟨z, its, n, r, e⟩ := x; exact ⟨z, its, n, r, k _ _ (.inl rfl) e⟩
  | tup xs => obtain ⟨z, its, r, ob, e, c⟩ := x; exact ⟨z, its, r, ob, k _ _ (.inl rfl) e, c⟩
  | dK kvs => obtain ⟨z, y, vs, r, ob, es, ep, e, c⟩ := x; exact ⟨z, y, vs, r, ob, es, ep, k _ _ (.inl rfl) e, c⟩
  | dT kvs =>
    obtain ⟨z, y, xs, r, ob, es, ep, e, c⟩ := x
    exact ⟨z, y, xs, Paired.mapP r fun p q z => ⟨z.1, ht _ _ z.2.1, z.2.2⟩, ob, es, ep, k _ _ (.inl rfl) e, c⟩
  | set S n => obtain ⟨ob, es, ep, t, e, c⟩ := x; exact ⟨ob, es, ep, t, k _ _ (.inl rfl) e, c⟩
  | ins C dx fs =>
    obtain ⟨d, z, ne, e, mA, ⟨od, es, ep, e2, c⟩, r⟩ := x
    exact ⟨ho _ d, z, ne, k _ _ (.inl rfl) e, mA, ⟨od, es, ep, k _ _ (.inr d) e2, c⟩, r⟩
  | own y => obtain ⟨ob, e⟩ := x; exact ⟨ob, k _ _ (.inl rfl) e⟩
  | xd fs => obtain ⟨mA, ⟨od, es, ep, e, c⟩, r⟩ := x; exact ⟨mA, ⟨od, es, ep, k _ _ (.inl rfl) e, c⟩, r⟩
  | rng lo hi => obtain ⟨t, u, v, e⟩ := x; exact ⟨t, u, v, k _ _ (.inl rfl) e⟩
  | frz ob u ih => obtain ⟨e, q⟩ := x; exact ⟨k _ _ (.inl rfl) e, ih q⟩
  | tbl ps =>
    have e : h.get? a = some { cls := .none, data := .fields ps } := x
    show h'.get? a = some { cls := .none, data := .fields ps }
    exact k a _ (.inl rfl) e
  | met f y =>
    have e : h.get? a = some (PySem.W.methodObj (.ref f) (.ref y)) := x
    show h'.get? a = some (PySem.W.methodObj (.ref f) (.ref y))
    exact k a _ (.inl rfl) e
  | ext φ => obtain ⟨p, ⟨o, e⟩, st⟩ := x; exact ⟨st _ _ p fun o q => k _ _ (.inl rfl) q, ⟨o, k _ _ (.inl rfl) e⟩, st⟩
theorem HOk.lt (x : HOk P w H h) (e : H a = some o) : a < h.objs.size := (x a o e).lt
theorem HOk.fresh (x : HOk P w H h) (e : h.objs.size ≤ a) : H a = none := by
  cases q : H a with
  | none => rfl
  | some u => exact absurd (Nat.lt_of_lt_of_le (x.lt q) e) (Nat.lt_irrefl _)
/-- every object of the heap is kept -/
theorem HOk.kept (x : HOk P w H h) (k : ∀ b u, h.get? b = some u → h'.get? b = some u) : HOk P w H h' := fun a o e =>
  (x a o e).stay (fun b u _ q => k b u q) (fun _ q => q) fun _ _ q => q
/-- a new object is laid and tracked -/
theorem HOk.laid (x : HOk P w H h) (k : ∀ b u, h.get? b = some u → h'.get? b = some u) (hp : h.objs.size ≤ a) (new : ObjOk P w (upd H a o) h' a o) : HOk P w (upd H a o) h' := fun b u e => by
  have hn := x.fresh hp
  by_cases hb : b = a
  · subst hb; rw [upd_same] at e; cases e; exact new
  · rw [upd_ne hb] at e
    exact (x b u e).stay (fun c v _ q => k c v q) (fun c q => by rw [upd_ne (ne_of_none q hn)]; exact q) fun c xs q => by rw [upd_ne (ne_of_none q hn)]; exact q
end
/-- what may be read as u: it is u, or a known u -/
def Rd (H : Hp) (a : Addr) (u : HO) : Prop := H a = some u ∨ ∃ o, H a = some (.frz o u)
theorem Rd.ok {P : Program} {w : World} {H : Hp} {h : Heap} {a : Addr} {u : HO} (r : Rd H a u) (x : HOk P w H h) : ObjOk P w H h a u := by
  rcases r with r | ⟨o, r⟩
  · exact x a u r
  · obtain ⟨_, q⟩ := x a _ r
    exact q
/-- what may be written -/
def Mut : Option HO → Prop
  | some (.lst _) => True
  | some (.dK _) => True
  | some (.dT _) => True
  | some (.set _ _) => True
  | some (.ins _ _ _) => True
  | some (.ext _) => True
  | _ => False
section
variable {P : Program} {w : World} {H : Hp} {h h' : Heap} {x e : Addr} {o' : HO}
/-- the object at e is changed: x itself, or the dict of the instance x -/
theorem HOk.write (ok : HOk P w H h) (mu : Mut (H x)) (he : e = x ∨ H e = some (.own x)) (k : ∀ b u, b ≠ e → h.get? b = some u → h'.get? b = some u) (heo : ∃ u, h'.get? e = some u)
    (new : ObjOk P w (upd H x o') h' x o') : HOk P w (upd H x o') h' := fun b u q => by
  have nown : ∀ c y, H c = some (.own y) → c ≠ x := fun c y r z => by subst z; rw [r] at mu; exact mu
  have ntup : ∀ c xs, H c = some (.tup xs) → c ≠ x := fun c xs r z => by subst z; rw [r] at mu; exact mu
  by_cases hb : b = x
  · subst hb; rw [upd_same] at q; cases q; exact new
  · rw [upd_ne hb] at q
    by_cases hbe : b = e
    · have q' : H b = some (.own x) := by
        rcases he with z | z
        · exact absurd (hbe.trans z) hb
        · rw [hbe]; exact z
      rw [q] at q'; cases q'
      obtain ⟨v, hv⟩ := heo
      exact ⟨v, by rw [hbe]; exact hv⟩
    · refine (ok b u q).stay (fun c v hc r => k c v ?_ r) (fun c r => by rw [upd_ne (nown c b r)]; exact r) fun c xs r => by rw [upd_ne (ntup c xs r)]; exact r
      rcases hc with rfl | hc
      · exact hbe
      · rintro rfl
        rcases he with z | z
        · exact nown c b hc z
        · rw [hc] at z; cases z; exact hb rfl
end
structure Un (fs ex : List Addr) (H H' : Hp) (h h' : Heap) : Prop where
  keep : ∀ b o, h.get? b = some o → H b = none → b ∉ fs → b ∉ ex → h'.get? b = some o
  slot : ∀ b o, h.get? b = some o → H b = none → b ∈ fs → b ∉ ex → ∃ sl, h'.get? b = some { o with slots := sl }
  free : ∀ b o, h.get? b = some o → H b = none → b ∉ ex → H' b = none
  there : ∀ b o, h.get? b = some o → b ∉ ex → ∃ o', h'.get? b = some o'
  tups : ∀ b xs, H b = some (.tup xs) → H' b = some (.tup xs)
  frzs : ∀ b o u, H b = some (.frz o u) → H' b = some (.frz o u)
  tbls : ∀ b ps, H b = some (.tbl ps) → ∃ more, H' b = some (.tbl (ps ++ more))
section
variable {fs fs' ex ex' : List Addr} {H H1 H2 : Hp} {h h1 h2 h' : Heap} {a x e : Addr} {o : HO}
theorem Un.any (u : Un fs ex H H1 h h1) {b : Addr} {ob : Obj} (q : h.get? b = some ob) (n : H b = none) (hx : b ∉ ex) : ∃ sl, h1.get? b = some { ob with slots := sl } := by
  by_cases hb : b ∈ fs
  · exact u.slot b ob q n hb hx
  · exact ⟨ob.slots, u.keep b ob q n hb hx⟩
theorem Un.kept (k : ∀ b u, h.get? b = some u → h'.get? b = some u) : Un fs ex H H h h' :=
  ⟨fun b ob q _ _ _ => k b ob q, fun b ob q _ _ _ => ⟨ob.slots, k b ob q⟩, fun _ _ _ n _ => n, fun b ob q _ => ⟨ob, k b ob q⟩, fun _ _ q => q, fun _ _ _ q => q, fun _ ps q => ⟨#[], by rw [q]; simp⟩⟩
theorem Un.refl : Un fs ex H H h h := Un.kept fun _ _ q => q
theorem Un.laid (k : ∀ b u, h.get? b = some u → h'.get? b = some u) (hp : h.objs.size ≤ a) (hn : H a = none) : Un fs ex H (upd H a o) h h' where
  keep := fun b u q _ _ _ => k b u q
  slot := fun b u q _ _ _ => ⟨u.slots, k b u q⟩
  free := fun b u q n _ => by rw [upd_ne (Nat.ne_of_lt (Nat.lt_of_lt_of_le (Heap.lt_size q) hp))]; exact n
  there := fun b u q _ => ⟨u, k b u q⟩
  tups := fun b xs q => by rw [upd_ne (ne_of_none q hn)]; exact q
  frzs := fun b u xs q => by rw [upd_ne (ne_of_none q hn)]; exact q
  tbls := fun b ps q => ⟨#[], by rw [upd_ne (ne_of_none q hn), q]; simp⟩
theorem Un.write (mu : Mut (H x)) (he : e = x ∨ H e = some (.own x)) (k : ∀ b u, b ≠ e → h.get? b = some u → h'.get? b = some u) (heo : ∃ u, h'.get? e = some u) : Un fs ex H (upd H x o) h h' := by
  have hx : ∀ b, H b = none → b ≠ x := fun b n z => by subst z; rw [n] at mu; exact mu
  have hb : ∀ b, H b = none → b ≠ e := fun b n z => by
    subst z
    rcases he with r | r
    · exact hx b n r
    · rw [n] at r; cases r
  have hm : ∀ b u, H b = some u → ¬ Mut (some u) → b ≠ x := fun b u q nm z => by subst z; rw [q] at mu; exact nm mu
  refine ⟨fun b u q n _ _ => k b u (hb b n) q, fun b u q n _ _ => ⟨u.slots, k b u (hb b n) q⟩, fun b u q n _ => by rw [upd_ne (hx b n)]; exact n, fun b u q _ => ?_,
    fun b xs q => by rw [upd_ne (hm b _ q fun z => z)]; exact q, fun b u xs q => by rw [upd_ne (hm b _ q fun z => z)]; exact q, fun b ps q => ⟨#[], by rw [upd_ne (hm b _ q fun z => z), q]; simp⟩⟩
  by_cases hbe : b = e
  · subst hbe; exact heo
  · exact ⟨u, k b u hbe q⟩
end
def trk (h : Heap) (H : Hp) : List Addr := (List.range h.objs.size).filter fun a => (H a).isSome
def hidT (h : Heap) (H : Hp) : Heap := PySem.W.hideAll h (trk h H)
theorem hidT_size (h : Heap) (H : Hp) : (hidT h H).objs.size = h.objs.size := PySem.W.hideAll_size _ _
theorem hidT_get {h : Heap} {H : Hp} {b : Addr} {o : Obj} (e : h.get? b = some o) (n : H b = none) : (hidT h H).get? b = some o :=
  PySem.W.hideAll_get _ e fun hm => by
    have q : (H b).isSome = true := (List.mem_filter.mp hm).2
    rw [n] at q; simp at q
theorem of_hidT {h : Heap} {H : Hp} {b : Addr} {o : Obj} (e : (hidT h H).get? b = some o) : h.get? b = some o ∧ H b = none := by
  have e' : h.get? b = some o := PySem.W.of_hideAll (trk h H) e
  refine ⟨e', ?_⟩
  cases q : H b with
  | none => rfl
  | some x =>
    have hm : b ∈ trk h H := List.mem_filter.mpr ⟨List.mem_range.mpr (Heap.lt_size e'), by simp [q]⟩
    have z : (hidT h H).get? b = none := PySem.W.hideAll_none (trk h H) hm
    rw [z] at e; cases e
end L2
namespace L2
open PySem PySem.Spec PyProof.Rows
/-- the module's facts, over the base: the heap at the law's entry without what is tracked there -/
structure Mod (K : PySem.W.Frag) (mg : Str → Option Value) (base : Heap) : Prop where
  kin : K.In base
  glob : base.Ns mainGlobals mg
  blt : ∃ mb, base.Ns builtinsNs mb ∧ ∀ x : Str, x ≠ "__name__" → mb x = bootBuiltins x
  nolimit : base.NoLimit
/-- the context: a def's body (or a comprehension's block) running. base: fixed through the whole law; s₀, H₀: the entry; outer: the frames whose slots others may change (a def's callers); stack: all frames that run;
   ex: iterators that were made ahead of the entry and are walked here (a comprehension's); fn: the names whose cells were made at the entry (a def: all; a comprehension's block: its own); calm: not within an except suite; pn: pins that every state bears; xe: what is wanted of an exception that leaves the code -/
structure Cx where
  prog : Program
  w : World
  K : PySem.W.Frag
  mg : Str → Option Value
  base : Heap
  A : Around
  N : List Str
  s_0 : Shared
  H_0 : Hp
  env : Env
  outer : List Env
  stack : List Env
  ex : List Addr
  fn : Str → Bool
  calm : Bool
  pn : List (Addr × Obj)
  xe : Value → Shared → Prop
/-- the callers' frames -/
def frs (l : List Env) : List Addr := l.filterMap (·.frame)
abbrev Cx.fs (X : Cx) : List Addr := frs X.outer
def Vis (sc : Scope) (x : Str) : Prop := sc.names.lookup x = some .local ∨ sc.names.lookup x = some .cell ∨ sc.names.lookup x = some .free
def Loc (sc : Scope) (x : Str) : Prop := sc.names.lookup x = some .local ∨ sc.names.lookup x = some .cell
def Look (env : Env) (h : Heap) (m : Str → Option Value) (x : Str) (u : Value) : Prop :=
  (env.kindOf x = some .local ∧ m x = some u) ∨ ((env.kindOf x = some .cell ∨ env.kindOf x = some .free) ∧ ∃ c, env.cells.lookup x = some c ∧ h.IsCell c (some u))
structure Cx.Ok (X : Cx) : Prop where
  mod : Mod X.K X.mg X.base
  kind : X.env.scope.kind = .function
  glob : X.env.globals = mainGlobals
  blt : X.env.builtins = builtinsNs
  above : X.s_0.heap.objs.size ≤ X.env.locals
  inj : ∀ x y c, X.env.cells.lookup x = some c → X.env.cells.lookup y = some c → x = y
  has : ∀ x, (X.env.kindOf x = some .cell ∨ X.env.kindOf x = some .free) → ∃ c, X.env.cells.lookup x = some c
  cab : ∀ x c, X.fn x = true → X.env.cells.lookup x = some c → X.s_0.heap.objs.size ≤ c
  hd : X.calm = true → X.A.handled = none
  frames : X.A.frames = some X.stack
  stk : X.stack = X.outer ∨ (X.stack = X.env :: X.outer ∧ X.env.frame = some X.env.locals)
  exf : ∀ b ∈ X.ex, b ≠ X.env.locals ∧ ∀ x c, X.env.cells.lookup x = some c → c ≠ b
  bs : ∀ b o, X.base.get? b = some o → X.s_0.heap.get? b = some o ∧ X.H_0 b = none
  bsz : X.base.objs.size ≤ X.s_0.heap.objs.size
  noex : ∀ b o, X.base.get? b = some o → b ∉ X.ex
  exfs : ∀ b ∈ X.ex, b ∉ X.fs
  funs : X.s_0.heap.FunFrames X.base X.outer
  frf : ∀ b ∈ X.fs, X.H_0 b = none
structure Inv (X : Cx) (pins : List (Addr × Obj)) (σ : List (Option V)) (H : Hp) (s : Shared) : Prop where
  ok : X.Ok
  os : s.os = X.s_0.os
  bare : AllBare s.gens
  base : Un X.fs X.ex X.H_0 H X.s_0.heap s.heap
  loc : ∃ m, s.heap.Ns X.env.locals m ∧ ∀ (i : Nat) (x : Str) (v : V), X.N[i]? = some x → σ[i]? = some (some v) → Vis X.env.scope x → ∃ u, RelV v u ∧ Look X.env s.heap m x u
  cell : ∀ x c, X.env.cells.lookup x = some c → ∃ v, s.heap.IsCell c v
  free : H X.env.locals = none
  freeC : ∀ x c, X.env.cells.lookup x = some c → H c = none
  pin : ∀ p ∈ X.pn ++ pins, s.heap.get? p.1 = some p.2 ∧ H p.1 = none ∧ p.1 ≠ X.env.locals ∧ p.1 ∉ X.fs ∧ ∀ v, p.2.data ≠ .cell v
  hok : HOk X.prog X.w H s.heap
  len : σ.length = X.N.length
section
variable {X : Cx} {pins : List (Addr × Obj)} {σ : List (Option V)} {H H' : Hp} {s : Shared} {h' : Heap}
theorem Cx.Ok.nofr (ok : X.Ok) {b : Addr} {o : Obj} (e : X.base.get? b = some o) : b ∉ X.fs := fun hb => by
  have := (ok.funs.mem hb).1
  rw [e] at this; cases this
theorem Inv.bs (I : Inv X pins σ H s) : ∀ b o, X.base.get? b = some o → s.heap.get? b = some o ∧ H b = none := fun b o e =>
  ⟨I.base.keep b o (I.ok.bs b o e).1 (I.ok.bs b o e).2 (I.ok.nofr e) (I.ok.noex b o e), I.base.free b o (I.ok.bs b o e).1 (I.ok.bs b o e).2 (I.ok.noex b o e)⟩
theorem Inv.bk (I : Inv X pins σ H s) : ∀ b o, X.base.get? b = some o → s.heap.get? b = some o := fun b o e => (I.bs b o e).1
theorem Inv.mod (I : Inv X pins σ H s) : Mod X.K X.mg X.base := I.ok.mod
theorem Inv.kIn (I : Inv X pins σ H s) : X.K.In s.heap := I.ok.mod.kin.keeps I.bk
theorem Inv.nolimit (I : Inv X pins σ H s) : s.heap.NoLimit := I.ok.mod.nolimit.keeps I.bk
theorem Inv.lt (I : Inv X pins σ H s) : X.env.locals < s.heap.objs.size := let ⟨_, hn, _⟩ := I.loc; hn.lt
theorem Inv.sz (I : Inv X pins σ H s) : X.s_0.heap.objs.size ≤ s.heap.objs.size := Nat.le_trans I.ok.above (Nat.le_of_lt I.lt)
theorem Inv.nofs (I : Inv X pins σ H s) {a : Addr} (h : s.heap.objs.size ≤ a) : a ∉ X.fs := fun hb => by
  obtain ⟨_, o, ho, _⟩ := I.ok.funs.mem hb
  exact absurd (Nat.lt_of_lt_of_le (Heap.lt_size ho) (Nat.le_trans I.sz h)) (Nat.lt_irrefl _)
theorem Inv.cne (I : Inv X pins σ H s) : ∀ x c, X.env.cells.lookup x = some c → c ≠ X.env.locals := fun x c e z => by
  obtain ⟨v, o, ho, hd⟩ := I.cell x c e
  obtain ⟨m, ⟨o', es, ep, ho', hd', _⟩, _⟩ := I.loc
  rw [z, ho'] at ho; cases ho; rw [hd'] at hd; cases hd
theorem Inv.funs (I : Inv X pins σ H s) : s.heap.FunFrames X.base X.outer := by
  have all : ∀ (l : List Env), (∀ b ∈ frs l, b ∈ X.fs) → X.s_0.heap.FunFrames X.base l → s.heap.FunFrames X.base l := by
    intro l
    induction l with
    | nil => intro _ _; trivial
    | cons env r ih =>
      intro hs hl
      obtain ⟨hk, ⟨L, o, hf, hn, ho, hd⟩, hr⟩ := hl
      have hL : L ∈ X.fs := hs L (by unfold frs; rw [List.filterMap_cons, hf]; exact List.mem_cons_self)
      obtain ⟨sl, e⟩ := I.base.slot L o ho (I.ok.frf L hL) hL fun z => I.ok.exfs L z hL
      exact ⟨hk, ⟨L, _, hf, hn, e, hd⟩, ih (fun b hb => hs b (by unfold frs; rw [List.filterMap_cons, hf]; exact List.mem_cons_of_mem _ hb)) hr⟩
  exact all X.outer (fun _ hb => hb) I.ok.funs
/-- the frames that run, for a call -/
theorem Inv.stack (I : Inv X pins σ H s) : s.heap.FunFrames X.base X.stack := by
  rcases I.ok.stk with e | ⟨e, hf⟩
  · rw [e]; exact I.funs
  · rw [e]
    obtain ⟨m, hn, _⟩ := I.loc
    refine .cons (by rw [I.ok.kind]; decide) hf hn ?_ I.funs
    exact Heap.get?_none_of_le (Nat.le_trans I.ok.bsz I.ok.above)
theorem Inv.stkSub (I : Inv X pins σ H s) : ∀ b ∈ frs X.stack, b ∈ X.env.locals :: X.fs := fun b hb => by
  rcases I.ok.stk with e | ⟨e, hf⟩
  · rw [e] at hb; exact List.mem_cons_of_mem _ hb
  · rw [e] at hb
    unfold frs at hb
    rw [List.filterMap_cons, hf] at hb
    exact hb
theorem Inv.stkFree (I : Inv X pins σ H s) : ∀ b ∈ frs X.stack, H b = none := fun b hb => by
  rcases List.mem_cons.mp (I.stkSub b hb) with e | hb
  · rw [e]; exact I.free
  · obtain ⟨_, o, ho, _⟩ := I.ok.funs.mem hb
    exact I.base.free b o ho (I.ok.frf b hb) fun z => I.ok.exfs b z hb
/-- THE STEP: the untracked objects but the frame and the records at ch are kept (the callers' frames up to slots), the frame's map is kept, the new abstract heap is held -/
theorem Inv.step {g' : Array GenState} {t' : Nat} {d' : Drawn} {ch : List Addr} (I : Inv X pins σ H s)
    (hch : ∀ b ∈ ch, (b ∈ X.ex ∨ X.s_0.heap.objs.size ≤ b) ∧ b ≠ X.env.locals ∧ (∀ x c, X.env.cells.lookup x = some c → c ≠ b) ∧ ∀ p ∈ X.pn ++ pins, p.1 ≠ b)
    (keep : ∀ b o, b ≠ X.env.locals → b ∉ X.fs → b ∉ ch → s.heap.get? b = some o → H b = none → h'.get? b = some o)
    (slot : ∀ b o, b ≠ X.env.locals → b ∈ X.fs → b ∉ ch → s.heap.get? b = some o → H b = none → ∃ sl, h'.get? b = some { o with slots := sl }) (free : ∀ b o, b ∉ ch → s.heap.get? b = some o → H b = none → H' b = none)
    (there : ∀ b o, b ∉ ch → s.heap.get? b = some o → ∃ o', h'.get? b = some o')
    (tups : ∀ b xs, H b = some (.tup xs) → H' b = some (.tup xs)) (frzs : ∀ b o u, H b = some (.frz o u) → H' b = some (.frz o u)) (tbls : ∀ b ps, H b = some (.tbl ps) → ∃ more, H' b = some (.tbl (ps ++ more)))
    (ns : ∀ m, s.heap.Ns X.env.locals m → h'.Ns X.env.locals m) (hok : HOk X.prog X.w H' h') (hg : AllBare g') :
    Inv X pins σ H' { s with heap := h', gens := g', drawn := d', toks := t' } := by
  have neL : ∀ b o, X.s_0.heap.get? b = some o → b ≠ X.env.locals := fun b o e => Nat.ne_of_lt (Nat.lt_of_lt_of_le (Heap.lt_size e) I.ok.above)
  have neC : ∀ b o, X.s_0.heap.get? b = some o → b ∉ X.ex → b ∉ ch := fun b o e hx hb => by
    rcases (hch b hb).1 with z | z
    · exact hx z
    · exact absurd (Nat.lt_of_lt_of_le (Heap.lt_size e) z) (Nat.lt_irrefl _)
  have cellK : ∀ x c, X.env.cells.lookup x = some c → ∀ v, s.heap.IsCell c v → h'.IsCell c v := fun x c e v ⟨o, ho, hd⟩ => by
    have nch : c ∉ ch := fun z => (hch c z).2.2.1 x c e rfl
    by_cases hc : c ∈ X.fs
    · obtain ⟨sl, q⟩ := slot c o (I.cne x c e) hc nch ho (I.freeC x c e)
      exact ⟨_, q, hd⟩
    · exact ⟨o, keep c o (I.cne x c e) hc nch ho (I.freeC x c e), hd⟩
  refine ⟨I.ok, I.os, hg, ⟨fun b o e n hb hx => ?_, fun b o e n hb hx => ?_, fun b o e n hx => ?_, fun b o e hx => ?_, fun b xs e => tups b xs (I.base.tups b xs e), fun b o xs e => frzs b o xs (I.base.frzs b o xs e), fun b ps e => ?_⟩, ?_, fun x c e => ?_, ?_, fun x c e => ?_, fun p hp => ?_, hok, I.len⟩
  · exact keep b o (neL b o e) hb (neC b o e hx) (I.base.keep b o e n hb hx) (I.base.free b o e n hx)
  · obtain ⟨sl, e1⟩ := I.base.slot b o e n hb hx
    obtain ⟨sl', e2⟩ := slot b _ (neL b o e) hb (neC b o e hx) e1 (I.base.free b o e n hx)
    exact ⟨sl', e2⟩
  · obtain ⟨o', e1⟩ := I.base.there b o e hx
    exact free b o' (neC b o e hx) e1 (I.base.free b o e n hx)
  · obtain ⟨o', e1⟩ := I.base.there b o e hx
    exact there b o' (neC b o e hx) e1
  · obtain ⟨m1, e1⟩ := I.base.tbls b ps e
    obtain ⟨m2, e2⟩ := tbls b _ e1
    exact ⟨m1 ++ m2, by rw [e2, Array.append_assoc]⟩
  · obtain ⟨m, hn, hl⟩ := I.loc
    refine ⟨m, ns m hn, fun i x v e1 e2 e3 => ?_⟩
    obtain ⟨u, r, l⟩ := hl i x v e1 e2 e3
    refine ⟨u, r, ?_⟩
    rcases l with l | ⟨k, c, e, z⟩
    · exact .inl l
    · exact .inr ⟨k, c, e, cellK x c e _ z⟩
  · obtain ⟨v, z⟩ := I.cell x c e
    exact ⟨v, cellK x c e v z⟩
  · obtain ⟨m, ⟨o, _, _, ho, _⟩, _⟩ := I.loc
    exact free _ o (fun z => (hch _ z).2.1 rfl) ho I.free
  · obtain ⟨v, o, ho, hd⟩ := I.cell x c e
    exact free c o (fun z => (hch c z).2.2.1 x c e rfl) ho (I.freeC x c e)
  · obtain ⟨e, n, ne, nf, d⟩ := I.pin p hp
    have nch : p.1 ∉ ch := fun z => (hch p.1 z).2.2.2 p hp rfl
    exact ⟨keep p.1 p.2 ne nf nch e n, free p.1 p.2 nch e n, ne, nf, d⟩
/-- .. where the frame's own object is kept too -/
theorem Inv.un {t' : Nat} (I : Inv X pins σ H s) (u : Un X.fs [] H H' s.heap h') (hok : HOk X.prog X.w H' h') : Inv X pins σ H' { s with heap := h', toks := t' } := by
  obtain ⟨m, ⟨o, es, ep, ho, r⟩, _⟩ := id I.loc
  obtain ⟨sl, hL⟩ := u.any ho I.free (by simp)
  exact I.step (g' := s.gens) (d' := s.drawn) (ch := []) (fun _ z => nomatch z) (fun b o _ hb _ e n => u.keep b o e n hb (by simp)) (fun b o _ hb _ e n => u.slot b o e n hb (by simp)) (fun b o _ e n => u.free b o e n (by simp)) (fun b o _ e => u.there b o e (by simp)) u.tups u.frzs u.tbls (fun m' hm => by
    obtain ⟨o', es', ep', ho', r'⟩ := hm
    rw [ho] at ho'; cases ho'
    exact ⟨_, es', ep', hL, r'⟩) hok I.bare
/-- behind a call (or a comprehension's block): the slots of this frame may have changed too, the records at ch may have turned -/
theorem Inv.call {g' : Array GenState} {t' : Nat} {d' : Drawn} {ch : List Addr} (I : Inv X pins σ H s) (u : Un (frs X.stack) ch H H' s.heap h') (hok : HOk X.prog X.w H' h') (hg : AllBare g')
    (hch : ∀ b ∈ ch, (b ∈ X.ex ∨ X.s_0.heap.objs.size ≤ b) ∧ b ≠ X.env.locals ∧ (∀ x c, X.env.cells.lookup x = some c → c ≠ b) ∧ ∀ p ∈ X.pn ++ pins, p.1 ≠ b) :
    Inv X pins σ H' { s with heap := h', gens := g', drawn := d', toks := t' } := by
  obtain ⟨m, ⟨o, es, ep, ho, r⟩, _⟩ := id I.loc
  obtain ⟨sl, hL⟩ := u.any ho I.free fun z => (hch _ z).2.1 rfl
  exact I.step (ch := ch) hch (fun b o hL hb hc e n => u.keep b o e n (fun z => (List.mem_cons.mp (I.stkSub b z)).elim hL hb) hc) (fun b o _ _ hc e n => u.any e n hc) (fun b o hc e n => u.free b o e n hc) (fun b o hc e => u.there b o e hc) u.tups u.frzs u.tbls (fun m' hm => by
    obtain ⟨o', es', ep', ho', r'⟩ := hm
    rw [ho] at ho'; cases ho'
    exact ⟨_, es', ep', hL, r'⟩) hok hg
/-- an untracked record of ours (an iterator) has turned -/
theorem Inv.turned {t' : Nat} {it : Addr} (I : Inv X pins σ H s) (k : ∀ b o, b ≠ it → s.heap.get? b = some o → h'.get? b = some o) (hn : H it = none) (hL : it ≠ X.env.locals)
    (h1 : it ∈ X.ex ∨ X.s_0.heap.objs.size ≤ it) (h2 : ∀ x c, X.env.cells.lookup x = some c → c ≠ it) (h3 : ∀ p ∈ X.pn ++ pins, p.1 ≠ it) : Inv X pins σ H { s with heap := h', toks := t' } := by
  have nit : ∀ b u, H b = some u → b ≠ it := fun b u e z => by rw [z, hn] at e; cases e
  refine I.step (g' := s.gens) (d' := s.drawn) (ch := [it]) (fun b hb => ?_) (fun b o _ _ hc e _ => k b o (fun z => hc (by simp [z])) e) (fun b o _ _ hc e _ => ⟨o.slots, k b o (fun z => hc (by simp [z])) e⟩) (fun _ _ _ _ n => n)
    (fun b o hc e => ⟨o, k b o (fun z => hc (by simp [z])) e⟩) (fun _ _ e => e) (fun _ _ _ e => e) (fun b ps e => ⟨#[], by rw [e]; simp⟩) (fun m hm => ?_) (fun b u e => ?_) I.bare
  · have e : b = it := by simpa using hb
    subst e
    exact ⟨h1, hL, h2, h3⟩
  · obtain ⟨o, es, ep, ho, r⟩ := hm
    exact ⟨o, es, ep, k _ o (Ne.symm hL) ho, r⟩
  · refine (I.hok b u e).stay (fun c v hc q => k c v ?_ q) (fun _ q => q) fun _ _ q => q
    rcases hc with z | z
    · rw [z]; exact nit b u e
    · exact nit c _ z
theorem Inv.tok (I : Inv X pins σ H s) (t : Nat) : Inv X pins σ H { s with toks := t } := I.un (h' := s.heap) (t' := t) Un.refl I.hok
/-- all objects kept -/
theorem Inv.kept {t' : Nat} (I : Inv X pins σ H s) (k : ∀ b u, s.heap.get? b = some u → h'.get? b = some u) : Inv X pins σ H { s with heap := h', toks := t' } := I.un (Un.kept k) (I.hok.kept k)
/-- a new object laid and tracked -/
theorem Inv.laid {a : Addr} {o : HO} {t' : Nat} (I : Inv X pins σ H s) (k : ∀ b u, s.heap.get? b = some u → h'.get? b = some u) (hp : s.heap.objs.size ≤ a) (new : ObjOk X.prog X.w (upd H a o) h' a o) :
    Inv X pins σ (upd H a o) { s with heap := h', toks := t' } := I.un (Un.laid k hp (I.hok.fresh hp)) (I.hok.laid k hp new)
/-- an object written -/
theorem Inv.write {x e : Addr} {o : HO} {t' : Nat} (I : Inv X pins σ H s) (mu : Mut (H x)) (he : e = x ∨ H e = some (.own x)) (k : ∀ b u, b ≠ e → s.heap.get? b = some u → h'.get? b = some u) (heo : ∃ u, h'.get? e = some u)
    (new : ObjOk X.prog X.w (upd H x o) h' x o) : Inv X pins σ (upd H x o) { s with heap := h', toks := t' } := I.un (Un.write mu he k heo) (I.hok.write mu he k heo new)
/-- forgetting slots, pins -/
theorem Inv.weak {σ' : List (Option V)} (I : Inv X pins σ H s) (hl : σ'.length = σ.length) (w : ∀ (i : Nat) v, σ'[i]? = some (some v) → σ[i]? = some (some v)) : Inv X pins σ' H s :=
  ⟨I.ok, I.os, I.bare, I.base, let ⟨m, hn, hl'⟩ := I.loc; ⟨m, hn, fun i x v e1 e2 e3 => hl' i x v e1 (w i v e2) e3⟩, I.cell, I.free, I.freeC, I.pin, I.hok, hl.trans I.len⟩
theorem Inv.pins_of {pins' : List (Addr × Obj)} (I : Inv X pins σ H s) (h : ∀ p ∈ pins', s.heap.get? p.1 = some p.2 ∧ H p.1 = none ∧ p.1 ≠ X.env.locals ∧ p.1 ∉ X.fs ∧ ∀ v, p.2.data ≠ .cell v) : Inv X pins' σ H s :=
  ⟨I.ok, I.os, I.bare, I.base, I.loc, I.cell, I.free, I.freeC, fun p hp => (List.mem_append.mp hp).elim (fun z => I.pin p (List.mem_append_left _ z)) (h p), I.hok, I.len⟩
theorem nodup_ix {N : List Str} (hN : N.Nodup) {i j : Nat} {x : Str} (a : N[i]? = some x) (b : N[j]? = some x) : i = j := by
  obtain ⟨h1, e1⟩ := List.getElem?_eq_some_iff.mp a
  obtain ⟨h2, e2⟩ := List.getElem?_eq_some_iff.mp b
  exact (List.getElem_inj hN).mp (e1.trans e2.symm)
/-- a name is stored; what changed -/
theorem store_ok2 {M : Model} {A : Around} {E : Value → Shared → Prop} {i : Nat} {x : Str} {v : V} {u : Value} {Q : Unit → Shared → Prop} (I : Inv X pins σ H s) (hN : X.N.Nodup) (hi : X.N[i]? = some x) (hx : Loc X.env.scope x) (r : RelV v u)
    (h : ∀ s', Inv X pins (σ.set i (some v)) H s' → (∃ a, Heap.SameBut a s.heap s'.heap ∧ (a = X.env.locals ∨ X.env.cells.lookup x = some a)) → Q () s') (hf : X.fn x = true ∨ X.env.scope.names.lookup x = some .local := by first | exact .inl rfl | exact .inr rfl | assumption) : wpAny M A (storeName X.env x u) Q E s := by
  obtain ⟨m, hn, hl⟩ := id I.loc
  have hcls : (X.env.scope.kind == .class || (X.env.scope.kind == .module && X.env.locals != X.env.globals)) = false := by rw [I.ok.kind]; rfl
  have hiσ : i < σ.length := by rw [I.len]; exact (List.getElem?_eq_some_iff.mp hi).1
  have cne := I.cne
  have tracked : ∀ {a : Addr} {h' : Heap}, (∃ o, s.heap.get? a = some o ∧ H a = none) → Heap.SameBut a s.heap h' → HOk X.prog X.w H h' := fun {a h'} ha hs b ob e => by
    obtain ⟨_, _, hfree⟩ := ha
    refine (I.hok b ob e).stay (fun c w' hc q => (hs.2 c ?_).trans q) (fun _ q => q) fun _ _ q => q
    rintro rfl
    rcases hc with rfl | hc
    · rw [hfree] at e; cases e
    · rw [hfree] at hc; cases hc
  rcases hx with hk | hk
  · refine wpAny_storeName_local hk hn (fun h' hn' hs => ?_) hcls
    obtain ⟨oL, _, _, hoL, _⟩ := id hn
    refine h _ ⟨I.ok, I.os, I.bare, ⟨fun b o e n hb hx => ?_, fun b o e n hb hx => ?_, I.base.free, fun b o e hx => ?_, I.base.tups, I.base.frzs, I.base.tbls⟩, ⟨_, hn', fun j y v' e1 e2 e3 => ?_⟩, fun y c e => ?_, I.free, I.freeC, fun p hp => ?_, tracked ⟨oL, hoL, I.free⟩ hs, by simpa using I.len⟩ ⟨_, hs, .inl rfl⟩
    · exact (hs.2 b (Nat.ne_of_lt (Nat.lt_of_lt_of_le (Heap.lt_size e) I.ok.above))).trans (I.base.keep b o e n hb hx)
    · obtain ⟨sl, e1⟩ := I.base.slot b o e n hb hx
      exact ⟨sl, (hs.2 b (Nat.ne_of_lt (Nat.lt_of_lt_of_le (Heap.lt_size e) I.ok.above))).trans e1⟩
    · obtain ⟨o', e1⟩ := I.base.there b o e hx
      exact ⟨o', (hs.2 b (Nat.ne_of_lt (Nat.lt_of_lt_of_le (Heap.lt_size e) I.ok.above))).trans e1⟩
    · by_cases hj : j = i
      · subst hj
        rw [hi] at e1; cases e1
        rw [List.getElem?_set_self hiσ] at e2
        cases e2
        exact ⟨u, r, .inl ⟨hk, by simp⟩⟩
      · rw [List.getElem?_set_ne (Ne.symm hj)] at e2
        obtain ⟨u', r', q⟩ := hl j y v' e1 e2 e3
        refine ⟨u', r', ?_⟩
        rcases q with ⟨k, e⟩ | ⟨k, c, e, z⟩
        · refine .inl ⟨k, ?_⟩
          have : y ≠ x := fun e => hj (nodup_ix hN e1 (e ▸ hi))
          simp [this, e]
        · exact .inr ⟨k, c, e, z.sameBut hs (cne y c e)⟩
    · obtain ⟨w', z⟩ := I.cell y c e
      exact ⟨w', z.sameBut hs (cne y c e)⟩
    · obtain ⟨e, n, ne, nf, d⟩ := I.pin p hp
      exact ⟨(hs.2 p.1 ne).trans e, n, ne, nf, d⟩
  · have hfn : X.fn x = true := by
      rcases hf with z | z
      · exact z
      · rw [z] at hk; cases hk
    obtain ⟨c, hc⟩ := I.ok.has x (.inl hk)
    obtain ⟨w', z⟩ := I.cell x c hc
    refine wpAny_storeName_cell I.ok.kind hk hc z (fun h' hc' hs => ?_)
    obtain ⟨oc, hoc, hocd⟩ := id z
    refine h { s with heap := h' } ⟨I.ok, I.os, I.bare, ⟨fun b o e n hb hx => ?_, fun b o e n hb hx => ?_, I.base.free, fun b o e hx => ?_, I.base.tups, I.base.frzs, I.base.tbls⟩, ⟨m, hn.sameBut hs (Ne.symm (cne x c hc)), fun j y v' e1 e2 e3 => ?_⟩, fun y c' e => ?_, I.free, I.freeC, fun p hp => ?_, tracked ⟨oc, hoc, I.freeC x c hc⟩ hs, by simpa using I.len⟩ ⟨c, hs, .inr hc⟩
    · exact (hs.2 b (Nat.ne_of_lt (Nat.lt_of_lt_of_le (Heap.lt_size e) (I.ok.cab x c hfn hc)))).trans (I.base.keep b o e n hb hx)
    · obtain ⟨sl, e1⟩ := I.base.slot b o e n hb hx
      exact ⟨sl, (hs.2 b (Nat.ne_of_lt (Nat.lt_of_lt_of_le (Heap.lt_size e) (I.ok.cab x c hfn hc)))).trans e1⟩
    · obtain ⟨o', e1⟩ := I.base.there b o e hx
      exact ⟨o', (hs.2 b (Nat.ne_of_lt (Nat.lt_of_lt_of_le (Heap.lt_size e) (I.ok.cab x c hfn hc)))).trans e1⟩
    · by_cases hj : j = i
      · subst hj
        rw [hi] at e1; cases e1
        rw [List.getElem?_set_self hiσ] at e2
        cases e2
        exact ⟨u, r, .inr ⟨.inl hk, c, hc, hc'⟩⟩
      · rw [List.getElem?_set_ne (Ne.symm hj)] at e2
        obtain ⟨u', r', q⟩ := hl j y v' e1 e2 e3
        refine ⟨u', r', ?_⟩
        rcases q with q | ⟨k, c', e, z'⟩
        · exact .inl q
        · refine .inr ⟨k, c', e, z'.sameBut hs ?_⟩
          rintro rfl
          exact hj (nodup_ix hN e1 (I.ok.inj _ _ _ e hc ▸ hi))
    · by_cases hcc : c' = c
      · subst hcc; exact ⟨_, hc'⟩
      · obtain ⟨w2, z2⟩ := I.cell y c' e
        exact ⟨w2, z2.sameBut hs hcc⟩
    · obtain ⟨e, n, ne, nf, d⟩ := I.pin p hp
      refine ⟨(hs.2 p.1 ?_).trans e, n, ne, nf, d⟩
      intro q
      rw [q, hoc] at e
      have q' : oc = p.2 := Option.some.inj e
      exact d w' (by rw [← q']; exact hocd)
theorem store_ok {M : Model} {A : Around} {E : Value → Shared → Prop} {i : Nat} {x : Str} {v : V} {u : Value} {Q : Unit → Shared → Prop} (I : Inv X pins σ H s) (hN : X.N.Nodup) (hi : X.N[i]? = some x) (hx : Loc X.env.scope x) (r : RelV v u)
    (h : ∀ s', Inv X pins (σ.set i (some v)) H s' → Q () s') (hf : X.fn x = true ∨ X.env.scope.names.lookup x = some .local := by first | exact .inl rfl | exact .inr rfl | assumption) : wpAny M A (storeName X.env x u) Q E s :=
  store_ok2 I hN hi hx r (fun s' I' _ => h s' I') hf
/-- behind a call or a block, the state as it is -/
theorem Inv.call' {s' : Shared} {ch : List Addr} (I : Inv X pins σ H s) (ho : s'.os = s.os) (u : Un (frs X.stack) ch H H' s.heap s'.heap) (hok : HOk X.prog X.w H' s'.heap) (hg : AllBare s'.gens)
    (hch : ∀ b ∈ ch, (b ∈ X.ex ∨ X.s_0.heap.objs.size ≤ b) ∧ b ≠ X.env.locals ∧ (∀ x c, X.env.cells.lookup x = some c → c ≠ b) ∧ ∀ p ∈ X.pn ++ pins, p.1 ≠ b) : Inv X pins σ H' s' := by
  obtain ⟨h', g', d', t', o'⟩ := s'
  have e : o' = s.os := ho
  subst e
  exact I.call (g' := g') (t' := t') (d' := d') u hok hg hch
end
/-- an exception: its class, its own dict's address (where it has one), the abstract heap behind it -/
abbrev XK := Value → Option Addr → Hp → Prop
abbrev St := List (Option V)
abbrev VK := V → Hp → Prop
/-- an expression's reading; a test's; an argument list's -/
abbrev TE := St → Hp → VK → Prop
abbrev TT := St → Hp → (Bool → Hp → Prop) → Prop
abbrev TA := St → Hp → (List V → Hp → Prop) → Prop
/-- what is wanted behind a statement -/
structure Ends where
  nx : St → Hp → Prop
  rt : VK
  bk : St → Hp → Prop := fun _ _ => False
  ct : St → Hp → Prop := fun _ _ => False
abbrev TS := Ends → St → Hp → Prop
def EP (X : Cx) (pins : List (Addr × Obj)) (σ : St) (Q : VK) (u : Value) (s' : Shared) : Prop := ∃ v H', Inv X pins σ H' s' ∧ RelV v u ∧ Q v H'
def TP (X : Cx) (pins : List (Addr × Obj)) (σ : St) (Q : Bool → Hp → Prop) (b : Bool) (s' : Shared) : Prop := ∃ H', Inv X pins σ H' s' ∧ Q b H'
def AP (X : Cx) (pins : List (Addr × Obj)) (σ : St) (Q : List V → Hp → Prop) (us : List Value) (s' : Shared) : Prop := ∃ vs H', Inv X pins σ H' s' ∧ Vals vs us ∧ Q vs H'
def SP (X : Cx) (pins : List (Addr × Obj)) (D : Ends) (f : Flow) (s' : Shared) : Prop :=
  match f with
  | .next => ∃ σ' H', Inv X pins σ' H' s' ∧ D.nx σ' H'
  | .brk => ∃ σ' H', Inv X pins σ' H' s' ∧ D.bk σ' H'
  | .cont => ∃ σ' H', Inv X pins σ' H' s' ∧ D.ct σ' H'
  | .ret u => ∃ v σ' H', Inv X pins σ' H' s' ∧ RelV v u ∧ D.rt v H'
def PE (X : Cx) (e : Expr) (t : TE) : Prop :=
  ∀ (pins : List (Addr × Obj)) (s : Shared) (σ : St) (H : Hp) (Q : VK), Inv X pins σ H s → t σ H Q → wpAny (model X.prog X.w) X.A (eval e X.env) (EP X pins σ Q) X.xe s
def PT (X : Cx) (e : Expr) (t : TT) : Prop :=
  ∀ (pins : List (Addr × Obj)) (s : Shared) (σ : St) (H : Hp) (Q : Bool → Hp → Prop), Inv X pins σ H s → t σ H Q → wpAny (model X.prog X.w) X.A (isTrue e X.env (eval e X.env)) (TP X pins σ Q) X.xe s
/-- a test whatever its 'whole' is (and, or) -/
def PW (X : Cx) (e : Expr) (t : TT) : Prop :=
  ∀ (whole : Sem Value) (pins : List (Addr × Obj)) (s : Shared) (σ : St) (H : Hp) (Q : Bool → Hp → Prop), Inv X pins σ H s → t σ H Q → wpAny (model X.prog X.w) X.A (isTrue e X.env whole) (TP X pins σ Q) X.xe s
theorem PW.pt {X : Cx} {e : Expr} {t : TT} (h : PW X e t) : PT X e t := h _
/-- an argument list (no star), from the left -/
def PA (X : Cx) (es : List Expr) (t : TA) : Prop :=
  ∀ (pos : Pos) (pins : List (Addr × Obj)) (s : Shared) (σ : St) (H : Hp) (Q : List V → Hp → Prop), Inv X pins σ H s → t σ H Q → wpAny (model X.prog X.w) X.A (spliced (backTo pos (starEach es X.env))) (AP X pins σ Q) X.xe s
def PS (X : Cx) (st : Stmt) (t : TS) : Prop :=
  ∀ (pins : List (Addr × Obj)) (s : Shared) (σ : St) (H : Hp) (D : Ends), Inv X pins σ H s → t D σ H → wpAny (model X.prog X.w) X.A (exec st X.env) (SP X pins D) X.xe s
def PSs (X : Cx) (st : List Stmt) (t : TS) : Prop :=
  ∀ (pins : List (Addr × Obj)) (s : Shared) (σ : St) (H : Hp) (D : Ends), Inv X pins σ H s → t D σ H → wpAny (model X.prog X.w) X.A (execs st X.env) (SP X pins D) X.xe s
/-- weaken the end -/
theorem thn {α : Type} {t : Sem α} {Q Q' : α → Shared → Prop} {M : Model} {A : Around} {E : Value → Shared → Prop} {s : Shared} (h : wpAny M A t Q E s) (hQ : ∀ a s, Q a s → Q' a s) : wpAny M A t Q' E s := wpAny_mono h hQ fun _ _ x => x
end L2
namespace L2
open PySem PySem.Spec PyProof.Rows
section
variable {X : Cx}
def tVar (i : Nat) : TE := fun σ H Q => ∃ v, σ[i]? = some (some v) ∧ Q v H
def tC (v : V) : TE := fun _ H Q => Q v H
theorem pe_var {i : Nat} {x : Str} {pos : Pos} (hN : X.N[i]? = some x) (hv : Vis X.env.scope x) (hd : (x == ("__debug__" : Str)) = false := by decide) (hcd : (x == ("__classdict__" : Str)) = false := by decide) : PE X (.Name x pos) (tVar i) := by
  intro pins s σ H Q I h
  obtain ⟨v, e, h⟩ := h
  obtain ⟨m, hn, hl⟩ := I.loc
  obtain ⟨u, r, l⟩ := hl i x v hN e hv
  have fin : EP X pins σ Q u s := ⟨v, H, I, r, h⟩
  rcases l with ⟨hk, hm⟩ | ⟨hk, c, hc, hcell⟩
  · exact wpAny_Name (wpAny_loadName_local I.ok.kind hk hn hm fin) hd
  · rcases hk with hk | hk
    · exact wpAny_Name (wpAny_loadName_cell I.ok.kind hk hc hcell fin) hd
    · exact wpAny_Name (wpAny_loadName_free I.ok.kind hk hc hcell fin hcd) hd
theorem pe_int {i j pos} : PE X (.Constant (.int i) j pos) (tC (.int i)) := fun _ _ _ H _ I h => wpAny_Constant_int ⟨.int i, H, I.tok _, ⟨_, rfl⟩, h⟩
theorem pe_bl {b j pos} : PE X (.Constant (.bool b) j pos) (tC (.bl b)) := fun _ _ _ H _ I h => Constant_bool ⟨.bl b, H, I, rfl, h⟩
/-- a global name of the def -/
def Gl (X : Cx) (x : Str) : Prop := X.env.kindOf x = some .globalImplicit
theorem ld_glob {E : Value → Shared → Prop} {pins : List (Addr × Obj)} {s : Shared} {σ : St} {H : Hp} {x : Str} {u : Value} {pos : Pos} {Q : Value → Shared → Prop} (I : Inv X pins σ H s) (hg : Gl X x) (hm : X.mg x = some u) (h : Q u s)
    (hd : (x == ("__debug__" : Str)) = false := by decide) : wpAny (model X.prog X.w) X.A (eval (.Name x pos) X.env) Q E s :=
  Calls.Name_function_global I.ok.kind hg (Calls.loadGlobal_global (by rw [I.ok.glob]; exact I.mod.glob.keeps I.bk) hm h) hd
theorem ld_blt {E : Value → Shared → Prop} {pins : List (Addr × Obj)} {s : Shared} {σ : St} {H : Hp} {x : Str} {u : Value} {pos : Pos} {Q : Value → Shared → Prop} (I : Inv X pins σ H s) (hg : Gl X x) (hm : X.mg x = none) (hv : bootBuiltins x = some u) (h : Q u s)
    (hn : x ≠ "__name__" := by decide) (hd : (x == ("__debug__" : Str)) = false := by decide) : wpAny (model X.prog X.w) X.A (eval (.Name x pos) X.env) Q E s := by
  obtain ⟨mb, h1, h2⟩ := I.mod.blt
  exact Calls.Name_function_global I.ok.kind hg (Calls.loadGlobal_builtin (by rw [I.ok.glob]; exact I.mod.glob.keeps I.bk) hm (by rw [I.ok.blt]; exact h1.keeps I.bk) ((h2 x hn).trans hv) h) hd
/-- a module's constant, a class, a function, as a value -/
theorem pe_glob {x : Str} {v : V} {u : Value} {pos : Pos} (hg : Gl X x) (hm : X.mg x = some u) (r : RelV v u) (hd : (x == ("__debug__" : Str)) = false := by decide) : PE X (.Name x pos) (tC v) :=
  fun _ _ _ H _ I h => ld_glob I hg hm ⟨v, H, I, r, h⟩ hd
variable {a b : Expr} {ta tb : TE} {pos : Pos}
/-- a comparison as a value, as a test -/
def tB (t : TE) : TT := fun σ H Q => t σ H fun x H1 => ∃ c, x = .bl c ∧ Q c H1
/-- an expression whose value is a bool, as a test -/
theorem pt_val {e : Expr} {t : TE} (h : PE X e t) (he : ∀ whole, isTrue e X.env whole = (do let v ← whole; standAt e.pos; holding [v] (truthy v)) := by intro _; rfl) : PT X e (tB t) := by
  intro pins s σ H Q I hw
  refine isTrue_plain (thn (h pins s σ H _ I hw) fun v s1 ⟨x, H1, I1, r1, q1⟩ => ?_) (he _)
  obtain ⟨d, rfl, q⟩ := q1
  cases r1
  exact wpAny_truthy_bool ⟨H1, I1, q⟩
variable {tA tB' : TT} {rest : List Expr}
def tOr (t u : TT) : TT := fun σ H Q => t σ H fun c H1 => if c = true then Q true H1 else u σ H1 Q
theorem pw_or1 (ha : PT X a tA) : PW X (.BoolOp .Or [a] pos) tA := by
  intro wh pins s σ H Q I h
  refine isTrue_or (thn (ha pins s σ H Q I h) fun c s1 e => ?_)
  cases c with
  | false => exact isTrue_or_nil e
  | true => exact e
theorem pw_or (ha : PT X a tA) (hb : PW X (.BoolOp .Or (b :: rest) pos) tB') : PW X (.BoolOp .Or (a :: b :: rest) pos) (tOr tA tB') := by
  intro wh pins s σ H Q I h
  refine isTrue_or (thn (ha pins s σ H _ I h) fun c s1 ⟨H1, I1, q1⟩ => ?_)
  cases c with
  | true => exact ⟨H1, I1, q1⟩
  | false => exact hb wh pins s1 σ H1 Q I1 q1
end
end L2
namespace L2
open PySem PySem.Spec PyProof.Rows
def SqL (K : PySem.W.Frag) (H : Hp) (a : Addr) (xs : List V) : Prop :=
  Rd H a (.lst xs) ∨
    ∃ (o : Obj) (its : Array Value) (n : Nat), K.lookup a = some o ∧ o.cls = .type "list" ∧ o.dict = none ∧ o.data = .seq its n ∧ its.size ≤ sizeLine ∧ Vals xs its.toList
def SqT (K : PySem.W.Frag) (H : Hp) (a : Addr) (xs : List V) : Prop :=
  Rd H a (.tup xs) ∨
    ∃ (o : Obj) (its : Array Value) (n : Nat), K.lookup a = some o ∧ o.cls = .type "tuple" ∧ o.data = .seq its n ∧ its.size ≤ sizeLine ∧ Vals xs its.toList
def absV : Value → Option V
  | .none => some .non
  | .bool b => some (.bl b)
  | .int i _ => some (.int i)
  | .str x _ => some (.str x)
  | .bytes b _ => some (.byt b)
  | .float b _ => some (.flt b)
  | .ref a => some (.ref a)
  | .type n => some (.ty n)
  | _ => none
theorem RelV.abs {x : V} {u : Value} (r : RelV x u) : absV u = some x := by
  cases x with
  | non => cases r; rfl
  | bl _ => cases r; rfl
  | int _ => obtain ⟨t, rfl⟩ := r; rfl
  | str _ => obtain ⟨t, rfl⟩ := r; rfl
  | byt _ => obtain ⟨t, rfl⟩ := r; rfl
  | flt _ => obtain ⟨t, rfl⟩ := r; rfl
  | ref _ => cases r; rfl
  | ty _ => cases r; rfl
theorem RelV.inj {x y : V} {u : Value} (r : RelV x u) (q : RelV y u) : x = y := Option.some.inj (r.abs.symm.trans q.abs)
theorem Vals.inj : ∀ {xs ys : List V} {us : List Value}, Vals xs us → Vals ys us → xs = ys
  | _, _, _, .nil, .nil => rfl
  | _, _, _, .cons r t, .cons r' t' => by rw [r.inj r', Vals.inj t t']
section
variable {X : Cx} {pins : List (Addr × Obj)} {σ : St} {H : Hp} {s : Shared} {a : Addr} {xs ys : List V}
theorem SqL.of {K : PySem.W.Frag} (h : H a = some (.lst xs)) : SqL K H a xs := .inl (.inl h)
theorem SqT.of {K : PySem.W.Frag} (h : H a = some (.tup xs)) : SqT K H a xs := .inl (.inl h)
theorem Inv.list (I : Inv X pins σ H s) (h : SqL X.K H a xs) : ∃ its : List Value, Vals xs its ∧ PlainL s.heap a its.toArray ∧ xs.length ≤ sizeLine := by
  rcases h with h | ⟨o, its, n, hk, hc, hd, hs, hz, r⟩
  · obtain ⟨z, its, n, r, e⟩ := h.ok I.hok
    exact ⟨its, r, ⟨_, n, e, rfl, rfl, rfl⟩, z⟩
  · refine ⟨its.toList, r, ⟨o, n, I.kIn a o hk, hc, hd, by simpa using hs⟩, ?_⟩
    have e := r.length
    simp only [Array.length_toList] at e
    omega
theorem Inv.tuple (I : Inv X pins σ H s) (h : SqT X.K H a xs) : ∃ its : List Value, Vals xs its ∧ IsTup s.heap a its.toArray ∧ xs.length ≤ sizeLine := by
  rcases h with h | ⟨o, its, n, hk, hc, hs, hz, r⟩
  · obtain ⟨z, its, r, p⟩ := h.ok I.hok
    exact ⟨its, r, p, z⟩
  · refine ⟨its.toList, r, ⟨o, I.kIn a o hk, hc, n, by simpa using hs⟩, ?_⟩
    have e := r.length
    simp only [Array.length_toList] at e
    omega
theorem Inv.list_inj (I : Inv X pins σ H s) (h : SqL X.K H a xs) (h' : SqL X.K H a ys) : xs = ys := by
  obtain ⟨its, r, ⟨o, n, e, _, _, d⟩, _⟩ := I.list h
  obtain ⟨its', r', ⟨o', n', e', _, _, d'⟩, _⟩ := I.list h'
  rw [e] at e'; cases e'
  rw [d] at d'
  injection d' with d1 _
  have : its = its' := by simpa using congrArg Array.toList d1
  subst this
  exact r.inj r'
end
abbrev Cx.wish (X : Cx) (E : Value → Shared → Prop) : Cx := { X with xe := E }
/-- no exception leaves -/
abbrev Cx.nox (X : Cx) : Cx := X.wish fun _ _ => False
theorem Cx.Ok.wish {X : Cx} (ok : X.Ok) (E : Value → Shared → Prop) : (X.wish E).Ok :=
  ⟨ok.mod, ok.kind, ok.glob, ok.blt, ok.above, ok.inj, ok.has, ok.cab, ok.hd, ok.frames, ok.stk, ok.exf, ok.bs, ok.bsz, ok.noex, ok.exfs, ok.funs, ok.frf⟩
theorem Cx.Ok.unwish {X : Cx} {E : Value → Shared → Prop} (ok : (X.wish E).Ok) : X.Ok :=
  ⟨ok.mod, ok.kind, ok.glob, ok.blt, ok.above, ok.inj, ok.has, ok.cab, ok.hd, ok.frames, ok.stk, ok.exf, ok.bs, ok.bsz, ok.noex, ok.exfs, ok.funs, ok.frf⟩
section
variable {X : Cx} {pins : List (Addr × Obj)} {σ : St} {H : Hp} {s : Shared} {E : Value → Shared → Prop}
theorem Inv.wish (I : Inv X pins σ H s) (E : Value → Shared → Prop) : Inv (X.wish E) pins σ H s := ⟨I.ok.wish E, I.os, I.bare, I.base, I.loc, I.cell, I.free, I.freeC, I.pin, I.hok, I.len⟩
theorem Inv.unwish (I : Inv (X.wish E) pins σ H s) : Inv X pins σ H s := ⟨I.ok.unwish, I.os, I.bare, I.base, I.loc, I.cell, I.free, I.freeC, I.pin, I.hok, I.len⟩
theorem SP.unwish {D : Ends} {f : Flow} {s' : Shared} (h : SP (X.wish E) pins D f s') : SP X pins D f s' := by
  cases f with
  | next => obtain ⟨σ', H', I, q⟩ := h; exact ⟨σ', H', I.unwish, q⟩
  | brk => obtain ⟨σ', H', I, q⟩ := h; exact ⟨σ', H', I.unwish, q⟩
  | cont => obtain ⟨σ', H', I, q⟩ := h; exact ⟨σ', H', I.unwish, q⟩
  | ret u => obtain ⟨v, σ', H', I, r, q⟩ := h; exact ⟨v, σ', H', I.unwish, r, q⟩
theorem PSs.nox {st : List Stmt} {t : TS} (h : PSs X.nox st t) : PSs X st t := fun pins s σ H D I hw =>
  wpAny_mono (h pins s σ H D (I.wish _) hw) (fun _ _ q => q.unwish) fun _ _ z => False.elim z
end
section
variable {X : Cx} {st : Stmt} {rest : List Stmt} {t u : TS} {e : Expr} {te : TE} {pos : Pos}
def tNext : TS := fun D σ H => D.nx σ H
def tSeq (t u : TS) : TS := fun D σ H => t { D with nx := u D } σ H
theorem pss_nil : PSs X [] tNext := fun _ _ σ H _ I h => wpAny_execs_nil ⟨σ, H, I, h⟩
theorem pss_cons (h1 : PS X st t) (h2 : PSs X rest u) : PSs X (st :: rest) (tSeq t u) := by
  intro pins s σ H D I h
  refine wpAny_execs_cons (thn (h1 pins s σ H { D with nx := u D } I h) fun f s1 q => ?_)
  cases f with
  | next =>
    obtain ⟨σ', H', I', q⟩ := q
    exact h2 pins s1 σ' H' D I' q
  | ret v => exact q
  | brk => exact q
  | cont => exact q
theorem pss_one (h1 : PS X st t) : PSs X [st] t := by
  intro pins s σ H D I h
  refine wpAny_execs_cons (thn (h1 pins s σ H D I h) fun f s1 q => ?_)
  cases f with
  | next => exact wpAny_execs_nil q
  | ret v => exact q
  | brk => exact q
  | cont => exact q
/-- in a def's body nothing is shown -/
theorem Inv.quiet {pins : List (Addr × Obj)} {σ : St} {H : Hp} {s : Shared} (I : Inv X pins σ H s) : interactive X.env = false := by simp [interactive, I.ok.kind]
/-- an expression whose value is dropped -/
def tDrop (te : TE) : TS := fun D σ H => te σ H fun _ H1 => D.nx σ H1
theorem ps_expr (he : PE X e te) (hs : swapsWith e none pos.line X.env = pure false := by rfl) : PS X (.Expr e pos) (tDrop te) := by
  intro pins s σ H D I h
  exact wpAny_Expr_any (thn (he pins s σ H _ I h) fun v s1 ⟨x, H1, I1, r1, q1⟩ => ⟨σ, H1, I1, q1⟩) I.quiet hs
def tRet (te : TE) : TS := fun D σ H => te σ H D.rt
theorem ps_ret (he : PE X e te) : PS X (.Return (some e) pos) (tRet te) := by
  intro pins s σ H D I h
  exact wpAny_Return_some (thn (he pins s σ H _ I h) fun v s1 ⟨x, H1, I1, r1, q1⟩ => ⟨x, σ, H1, I1, r1, q1⟩)
def tIfS (c : TT) (t u : TS) : TS := fun D σ H => c σ H fun b H1 => if b = true then t D σ H1 else u D σ H1
theorem ps_if {c : Expr} {a b : List Stmt} {tc : TT} (hc : PT X c tc) (ha : PSs X a t) (hb : PSs X b u) : PS X (.If c a b pos) (tIfS tc t u) := by
  intro pins s σ H D I h
  refine wpAny_If (thn (hc pins s σ H _ I h) fun d s1 ⟨H1, I1, q1⟩ => ?_)
  cases d with
  | true => exact ha pins s1 σ H1 D I1 q1
  | false => exact hb pins s1 σ H1 D I1 q1
end
abbrev TG := V → St → Hp → (St → Hp → Prop) → Prop
abbrev TGs := List V → St → Hp → (St → Hp → Prop) → Prop
def PG (X : Cx) (target : Expr) (t : TG) : Prop :=
  ∀ (pins : List (Addr × Obj)) (s : Shared) (σ : St) (H : Hp) (v : V) (u : Value) (Q : St → Hp → Prop), Inv X pins σ H s → RelV v u → t v σ H Q →
    wpAny (model X.prog X.w) X.A (assign target X.env u) (fun _ s' => ∃ σ' H', Inv X pins σ' H' s' ∧ Q σ' H') X.xe s
/-- several targets, one after another -/
def PGs (X : Cx) (ts : List Expr) (t : TGs) : Prop :=
  ∀ (pins : List (Addr × Obj)) (s : Shared) (σ : St) (H : Hp) (vs : List V) (us : List Value) (Q : St → Hp → Prop), Inv X pins σ H s → Vals vs us → t vs σ H Q →
    wpAny (model X.prog X.w) X.A (assignInOrder ((assignEach ts X.env).map (·.2)) us) (fun _ s' => ∃ σ' H', Inv X pins σ' H' s' ∧ Q σ' H') X.xe s
/-- o[i] = v, by values -/
abbrev TSet := V → V → V → Hp → (Hp → Prop) → Prop
def PSet (X : Cx) (t : TSet) : Prop :=
  ∀ (pins : List (Addr × Obj)) (s : Shared) (σ : St) (H : Hp) (o i v : V) (ov iv u : Value) (Q : Hp → Prop), Inv X pins σ H s → RelV o ov → RelV i iv → RelV v u → t o i v H Q →
    wpAny (model X.prog X.w) X.A (setItem ov iv u) (fun _ s' => ∃ H', Inv X pins σ H' s' ∧ Q H') X.xe s
section
variable {X : Cx} {pos : Pos}
def gName (i : Nat) : TG := fun v σ H Q => Q (σ.set i (some v)) H
theorem pg_name {i : Nat} {x : Str} (hN : X.N.Nodup) (hi : X.N[i]? = some x) (hx : Loc X.env.scope x) (hf : X.fn x = true ∨ X.env.scope.names.lookup x = some .local := by first | exact .inl rfl | exact .inr rfl | assumption) : PG X (.Name x pos) (gName i) := by
  intro pins s σ H v u Q I r h
  exact wpAny_assign_Name (store_ok I hN hi hx r (fun s' I' => ⟨_, H, I', h⟩) hf)
def gNil : TGs := fun vs σ H Q => vs = [] ∧ Q σ H
def gCons (t : TG) (u : TGs) : TGs := fun vs σ H Q => ∃ v r, vs = v :: r ∧ t v σ H fun σ' H' => u r σ' H' Q
theorem pgs_nil : PGs X [] gNil := by
  intro pins s σ H vs us Q I r h
  obtain ⟨e, h⟩ := h
  subst e
  cases r
  exact assignInOrder_nil ⟨σ, H, I, h⟩
theorem pgs_cons {e : Expr} {es : List Expr} {t : TG} {u : TGs} (h1 : PG X e t) (h2 : PGs X es u)
    (hs : (assignEach (e :: es) X.env).map (·.2) = assign e X.env :: (assignEach es X.env).map (·.2) := by rfl) : PGs X (e :: es) (gCons t u) := by
  intro pins s σ H vs us Q I r h
  obtain ⟨v, vr, e1, h⟩ := h
  subst e1
  cases r with
  | cons r rr =>
    rw [hs]
    refine assignInOrder_cons (thn (h1 pins s σ H _ _ _ I r h) fun _ s1 ⟨σ1, H1, I1, q1⟩ => ?_)
    exact h2 pins s1 σ1 H1 _ _ Q I1 rr q1
/-- (a, b, ..) = a tuple of that length -/
def gTup (K : PySem.W.Frag) (n : Nat) (t : TGs) : TG := fun v σ H Q => ∃ a xs, v = .ref a ∧ SqT K H a xs ∧ xs.length = n ∧ t xs σ H Q
theorem pg_tup {es : List Expr} {k : Nat} {t : TGs} {n : Nat} (hc : X.calm = true) (h : PGs X es t)
    (hn : (assignEach es X.env).length = n := by rfl) (hst : (assignEach es X.env).findIdx? (·.1) = none := by rfl) : PG X (.Tuple es k pos) (gTup X.K n t) := by
  intro pins s σ H v u Q I r hw
  obtain ⟨a, xs, e1, hq, hl, hw⟩ := hw
  subst e1
  cases r
  obtain ⟨its, rv, ht, hz⟩ := I.tuple hq
  refine assign_Tuple_tuple (I.ok.hd hc) ht (by simp [hn, ← hl, rv.length]) hst fun h' hx => ?_
  have I1 : Inv X pins σ H { s with heap := h' } := I.kept (t' := s.toks) fun b o e => hx b o (Nat.ne_of_lt (Heap.lt_size e)) e
  exact h pins _ σ H xs _ Q I1 (by simpa using rv) hw
/-- o[i] = .. -/
def gSub (to ti : TE) (t : TSet) : TG := fun v σ H Q => to σ H fun o H1 => ti σ H1 fun i H2 => t o i v H2 fun H3 => Q σ H3
theorem pg_sub {o i : Expr} {to ti : TE} {t : TSet} (ho : PE X o to) (hi : PE X i ti) (hs : PSet X t)
    (ha : ∀ v, assign (.Subscript o i pos) X.env v = (do
      let ov ← holding [v] (eval o X.env)
      let iv ← holding [v, ov] (eval i X.env)
      standAt pos
      holding [v, ov, iv] (setItem ov iv v)
      release [v, ov, iv] []) := by intro _; rfl) : PG X (.Subscript o i pos) (gSub to ti t) := by
  intro pins s σ H v u Q I r h
  rw [ha]
  refine wpAny_bind (wpAny_holding (thn (ho pins s σ H _ I h) fun ov s1 ⟨x, H1, I1, r1, q1⟩ => ?_))
  refine wpAny_bind (wpAny_holding (thn (hi pins s1 σ H1 _ I1 q1) fun iv s2 ⟨y, H2, I2, r2, q2⟩ => ?_))
  refine wpAny_bind (wpAny_standAt (wpAny_bind (wpAny_holding (thn (hs pins s2 σ H2 x y v ov iv u _ I2 r1 r2 r q2) fun _ s3 ⟨H3, I3, q3⟩ => ?_))))
  exact wpAny_release ⟨σ, H3, I3, q3⟩
/-- target = value -/
def tAsg (te : TE) (g : TG) : TS := fun D σ H => te σ H fun x H1 => g x σ H1 D.nx
theorem ps_asg {tg e : Expr} {te : TE} {g : TG} (he : PE X e te) (hg : PG X tg g) (hs : swapsWithSole [tg] e pos.line X.env = pure false := by rfl) (hw : swappedStores [tg] e X.env = pure none := by rfl)
    (h1 : (assignEach [tg] X.env).map (·.2) = [assign tg X.env] := by rfl) : PS X (.Assign [tg] e pos) (tAsg te g) := by
  intro pins s σ H D I h
  refine wpAny_Assign_stores (thn (he pins s σ H _ I h) fun v s1 ⟨x, H1, I1, r1, q1⟩ => ?_) hs hw
  rw [h1]
  exact thn (hg pins s1 σ H1 x v _ I1 r1 q1) fun _ s2 q => q
/-- name = value -/
theorem ps_set {i : Nat} {x : Str} {e : Expr} {te : TE} {pos' : Pos} (hN : X.N.Nodup) (hi : X.N[i]? = some x) (hx : Loc X.env.scope x) (he : PE X e te) (hs : swapsWith e (some (.Name x pos')) pos.line X.env = pure false := by rfl) (hf : X.fn x = true ∨ X.env.scope.names.lookup x = some .local := by first | exact .inl rfl | exact .inr rfl | assumption) :
    PS X (.Assign [.Name x pos'] e pos) (tAsg te (gName i)) := by
  intro pins s σ H D I h
  refine wpAny_Assign_Name (thn (he pins s σ H _ I h) fun v s1 ⟨y, H1, I1, r1, q1⟩ => ?_) hs
  exact store_ok I1 hN hi hx r1 (fun s2 I2 => ⟨_, H1, I2, q1⟩) hf
end
section
variable {X : Cx} {pos : Pos}
/-- the invariant W with its measure -/
def tWhile (c : TT) (tb : TS) : TS := fun D σ H => ∃ W : Nat → St → Hp → Prop, (∃ m, W m σ H) ∧ ∀ m σ H, W m σ H →
  c σ H fun b H1 => if b = true then ∃ N : St → Hp → Prop, (∀ σ' H', N σ' H' → ∃ m', m' < m ∧ W m' σ' H') ∧ tb { D with nx := N, ct := N, bk := D.nx } σ H1 else D.nx σ H1
theorem ps_while {c : Expr} {body : List Stmt} {tc : TT} {tb : TS} (hp : PassesOwn (model X.prog X.w) X.A X.env X.xe) (hc : PT X c tc) (hb : PSs X body tb) : PS X (.While c body [] pos) (tWhile tc tb) := by
  intro pins s σ H D I h
  obtain ⟨W, ⟨m0, w0⟩, turn⟩ := h
  refine wpAny_While (codeAny_whileLoop (fun n s' => ∃ σ' H', Inv X pins σ' H' s' ∧ W n σ' H') ?_ m0 ⟨σ, H, I, w0⟩)
  rintro n s1 ⟨σ1, H1, I1, w1⟩
  refine wpAny_passesOwn hp (thn (hc pins s1 σ1 H1 _ I1 (turn n σ1 H1 w1)) fun b s2 ⟨H2, I2, q2⟩ => ?_)
  cases b with
  | true =>
    obtain ⟨N, hN, q2⟩ := q2
    rw [if_pos rfl]
    refine wpAny_passesOwn hp (thn (hb pins s2 σ1 H2 _ I2 q2) fun f s3 q3 => ?_)
    cases f with
    | next =>
      obtain ⟨σ3, H3, I3, n3⟩ := q3
      obtain ⟨m', hm, w3⟩ := hN σ3 H3 n3
      exact ⟨m', hm, σ3, H3, I3, w3⟩
    | cont =>
      obtain ⟨σ3, H3, I3, n3⟩ := q3
      obtain ⟨m', hm, w3⟩ := hN σ3 H3 n3
      exact ⟨m', hm, σ3, H3, I3, w3⟩
    | brk => exact q3
    | ret v => exact q3
  | false =>
    rw [if_neg Bool.false_ne_true]
    exact wpAny_execs_nil ⟨σ1, H2, I2, q2⟩
end
/-- at turn i: it yields x (the heap may grow), or it stops -/
structure It where
  go : Nat → Hp → Prop
  yld : Nat → Hp → V → Hp → Prop
  stop : Nat → Hp → Prop
/-- the iterator's own objects may turn: they are not the frame's, not pinned, younger than the entry (or a comprehension's own) -/
def FpOk (X : Cx) (pins : List (Addr × Obj)) (H : Hp) (b : Addr) : Prop :=
  H b = none ∧ b ≠ X.env.locals ∧ b ∉ X.fs ∧ (b ∈ X.ex ∨ X.s_0.heap.objs.size ≤ b) ∧ (∀ x c, X.env.cells.lookup x = some c → c ≠ b) ∧ ∀ p ∈ X.pn ++ pins, p.1 ≠ b
theorem Inv.fpOk {X : Cx} {pins : List (Addr × Obj)} {σ : St} {H H' : Hp} {s : Shared} {b : Addr} (I : Inv X pins σ H s) (hb : s.heap.objs.size ≤ b) (hn : H' b = none) : FpOk X pins H' b := by
  refine ⟨hn, Nat.ne_of_gt (Nat.lt_of_lt_of_le I.lt hb), I.nofs hb, .inr (Nat.le_trans I.sz hb), fun x c e z => ?_, fun p hp z => ?_⟩
  · obtain ⟨v, q⟩ := I.cell x c e
    exact absurd (Nat.lt_of_lt_of_le q.lt (by rw [z]; exact hb)) (Nat.lt_irrefl _)
  · exact absurd (Nat.lt_of_lt_of_le (Heap.lt_size (I.pin p hp).1) (by rw [z]; exact hb)) (Nat.lt_irrefl _)
structure Turn (P : Program) (w : World) (K : PySem.W.Frag) (tg : Expr) (J : It) (fp : List Addr) (it : Addr) (tn : Nat → Heap → Prop) : Prop where
  mem : it ∈ fp
  obj : ∀ i h, tn i h → ∀ b ∈ fp, ∃ o, h.get? b = some o ∧ ∀ v, o.data ≠ .cell v
  keep : ∀ i h h', tn i h → (∀ b ∈ fp, ∀ o, h.get? b = some o → h'.get? b = some o) → tn i h'
  item : ∀ (X : Cx), X.prog = P → X.w = w → X.K = K → X.calm = true → ∀ (i : Nat) (pins : List (Addr × Obj)) (s : Shared) (σ : St) (H : Hp) (E : Value → Shared → Prop), Inv X pins σ H s → (∀ b ∈ fp, FpOk X pins H b) → tn i s.heap → J.go i H →
    wpAny (model P w) X.A (pyNext (.ref it)) (fun r s1 => ∃ u, r = some u ∧
      wpAny (model P w) X.A (letOwnedTupleGo tg (.ref it) u) (fun _ s2 => ∃ x H', Inv X pins σ H' s2 ∧ RelV x u ∧ J.yld i H x H' ∧ tn (i + 1) s2.heap ∧ ∀ b ∈ fp, H' b = none) E s1) E s
  done : ∀ (X : Cx), X.prog = P → X.w = w → X.K = K → X.calm = true → ∀ (i : Nat) (pins : List (Addr × Obj)) (s : Shared) (σ : St) (H : Hp) (E : Value → Shared → Prop), Inv X pins σ H s → (∀ b ∈ fp, FpOk X pins H b) → tn i s.heap → J.stop i H →
    wpAny (model P w) X.A (pyNext (.ref it)) (fun r s1 => r = none ∧ Inv X pins σ H s1) E s
  self : ∀ (A : Around) (i : Nat) (s : Shared) (Q : Value → Shared → Prop) (E : Value → Shared → Prop), tn i s.heap → Q (.ref it) s → wpAny (model P w) A (pyIter (.ref it)) Q E s
abbrev TI := St → Hp → (It → Hp → Prop) → Prop
/-- an iterator has come -/
def PIE (X : Cx) (pins : List (Addr × Obj)) (σ : St) (tg : Expr) (R : It → Hp → Prop) (itv : Value) (s2 : Shared) : Prop :=
  ∃ (it : Addr) (fp : List Addr) (tn : Nat → Heap → Prop) (J : It) (H' : Hp), itv = .ref it ∧ Inv X pins σ H' s2 ∧ Turn X.prog X.w X.K tg J fp it tn ∧ tn 0 s2.heap ∧ (∀ b ∈ fp, FpOk X pins H' b) ∧ R J H'
def PI (X : Cx) (tg iter : Expr) (wi : TI) : Prop :=
  ∀ (pins : List (Addr × Obj)) (s : Shared) (σ : St) (H : Hp) (R : It → Hp → Prop), Inv X pins σ H s → wi σ H R →
    wpAny (model X.prog X.w) X.A (eval iter X.env) (fun v s1 => wpAny (model X.prog X.w) X.A (pyIter v) (PIE X pins σ tg R) X.xe s1) X.xe s
/-- the step ahead of the store is nothing for an iterator that keeps no tuple -/
theorem go_of {M : Model} {A : Around} {E : Value → Shared → Prop} {s : Shared} {tg : Expr} {it : Addr} {u : Value} {o : Obj} {n : String} {vs : Array Value} {Q : Unit → Shared → Prop} (ho : s.heap.get? it = some o) (hc : o.cls = .type n) (hd : o.data = .fields vs)
    (hn : ["enumerate", "zip", "dict_itemiterator", "dict_reverseitemiterator", "odict_iterator", "itertools.zip_longest", "itertools.pairwise"].contains n = false) (hQ : Q () s) : wpAny M A (letOwnedTupleGo tg (.ref it) u) Q E s := by
  unfold letOwnedTupleGo
  cases tg <;> first
    | exact wpAny_pure hQ
    | (cases u <;> first
        | exact wpAny_pure hQ
        | (refine wpAny_bind (wpAny_load ho ?_)
           rw [hc, hd]
           show wpAny M A (if (["enumerate", "zip", "dict_itemiterator", "dict_reverseitemiterator", "odict_iterator", "itertools.zip_longest", "itertools.pairwise"].contains n && vs[0]? == some (rawInt _)) = true then _ else _) Q E s
           rw [if_neg (by intro h; rw [hn, Bool.false_and] at h; cases h)]
           exact wpAny_pure hQ))
/-- the list at a, as it stands at each turn (a loop may append to it) -/
def Itl (K : PySem.W.Frag) (a : Addr) : It :=
  ⟨fun i H => ∃ xs x, SqL K H a xs ∧ xs[i]? = some x, fun i H x H' => H' = H ∧ ∀ xs, SqL K H a xs → xs[i]? = some x, fun i H => ∃ xs, SqL K H a xs ∧ xs.length ≤ i⟩
/-- lo, lo + 1, .. (n of them) -/
def Itr (lo : Int) (n : Nat) : It := ⟨fun i _ => i < n, fun i H x H' => H' = H ∧ x = .int (lo + i), fun i _ => n ≤ i⟩
theorem turn_list {P : Program} {w : World} {K : PySem.W.Frag} {tg : Expr} (a it : Addr) : Turn P w K tg (Itl K a) [it] it (fun i h => h.IsListIter it a i) where
  mem := by simp
  obj := fun i h st b hb => by
    have e : b = it := by simpa using hb
    subst e
    obtain ⟨o, e, c, d⟩ := st
    exact ⟨o, e, fun v z => by rw [d] at z; cases z⟩
  keep := fun i h h' st k => st.at fun o e => k it (by simp) o e
  item := by
    intro X hP hw hK hc i pins s σ H E I hf st hg
    subst hP hw hK
    obtain ⟨xs, x, hq, hx⟩ := hg
    obtain ⟨its, rv, p, hz⟩ := I.list hq
    obtain ⟨u, hu, ru⟩ := rv.get hx
    obtain ⟨f0, f1, f2, f3, f4, f5⟩ := hf it (by simp)
    refine wpAny_pyNext_list_item st p.isList (x := u) (by simpa using hu) fun h' st' sb => ?_
    have I1 : Inv X pins σ H { s with heap := h' } := I.turned (t' := s.toks) (fun b o hb e => (sb.2 b hb).trans e) f0 f1 f3 f4 f5
    obtain ⟨o, e, c, d⟩ := id st'
    exact ⟨u, rfl, go_of (s := { s with heap := h' }) e c d (by decide) ⟨x, H, I1, ru, ⟨rfl, fun ys hy => by rw [I.list_inj hy hq]; exact hx⟩, st', fun b hb => (hf b hb).1⟩⟩
  done := by
    intro X hP hw hK hc i pins s σ H E I hf st hg
    subst hP hw hK
    obtain ⟨xs, hq, hx⟩ := hg
    obtain ⟨its, rv, p, hz⟩ := I.list hq
    obtain ⟨f0, f1, f2, f3, f4, f5⟩ := hf it (by simp)
    have hl := rv.length
    exact wpAny_pyNext_list_end (I.ok.hd hc) st p.isList (by simp; omega) fun h' eb => ⟨rfl, I.turned (t' := s.toks) (fun b o hb e => eb b o hb e) f0 f1 f3 f4 f5⟩
  self := fun _ _ _ _ _ st h => wpAny_pyIter_listiter st h
theorem turn_range {P : Program} {w : World} {K : PySem.W.Frag} {tg : Expr} (it : Addr) (lo : Int) (n : Nat) : Turn P w K tg (Itr lo n) [it] it (fun i h => IsRangeIter h it (lo + (i : Nat) * 1) ((n : Int) - (i : Nat)) 1) where
  mem := by simp
  obj := fun i h st b hb => by
    have e : b = it := by simpa using hb
    subst e
    exact ⟨_, st, fun v z => by
      have z' : Data.fields _ = Data.cell v := z
      cases z'⟩
  keep := fun i h h' st k => k it (by simp) _ st
  item := by
    intro X hP hw hK hc i pins s σ H E I hf st hg
    subst hP hw hK
    obtain ⟨f0, f1, f2, f3, f4, f5⟩ := hf it (by simp)
    have W := Walks.range (prog := X.prog) (w := X.w) (I.ok.hd hc) it lo 1 n
    refine W.item i s _ _ hg st fun v h' tk hv st' kk => ?_
    obtain ⟨t, rfl⟩ := hv
    have I1 : Inv X pins σ H { s with heap := h', toks := tk } := I.turned (fun b o hb e => kk b o (by simpa using hb) e) f0 f1 f3 f4 f5
    refine ⟨_, rfl, go_of (s := { s with heap := h', toks := tk }) (n := "range_iterator") st' rfl rfl (by decide) ⟨.int (lo + i), H, I1, ⟨t, ?_⟩, ⟨rfl, rfl⟩, st', fun b hb => (hf b hb).1⟩⟩
    rw [Int.mul_one]
  done := by
    intro X hP hw hK hc i pins s σ H E I hf st hg
    subst hP hw hK
    obtain ⟨f0, f1, f2, f3, f4, f5⟩ := hf it (by simp)
    exact wpAny_pyNext_range_end (I.ok.hd hc) st (by have : n ≤ i := hg; omega) fun h' eb => ⟨rfl, I.turned (t' := s.toks) (fun b o hb e => eb b o hb e) f0 f1 f3 f4 f5⟩
  self := fun _ _ _ _ _ st h => wpAny_pyIter_rangeiter st h
end L2
namespace L2
open PySem PySem.Spec PyProof.Rows
section
variable {X : Cx} {tg : Expr}
def iList (K : PySem.W.Frag) (tl : TE) : TI := fun σ H R => tl σ H fun x H1 => ∃ a, x = .ref a ∧ (∃ xs, SqL K H1 a xs) ∧ R (Itl K a) H1
theorem pi_list {l : Expr} {tl : TE} (hl : PE X l tl) : PI X tg l (iList X.K tl) := by
  intro pins s σ H R I h
  refine thn (hl pins s σ H _ I h) fun v s1 ⟨x, H1, I1, r1, q1⟩ => ?_
  obtain ⟨a, e, ⟨xs, hq⟩, q⟩ := q1
  subst e
  cases r1
  obtain ⟨its, rv, p, hz⟩ := I1.list hq
  refine wpAny_pyIter_list p.isList ?_
  refine ⟨s1.heap.objs.size, [s1.heap.objs.size], _, _, H1, rfl, I1.kept (t' := s1.toks) fun b o e => Heap.get?_push_of_some _ e, turn_list a _, ⟨_, Heap.get?_push_size _ rfl, rfl, rfl⟩, fun b hb => ?_, q⟩
  have e : b = s1.heap.objs.size := by simpa using hb
  subst e
  exact I1.fpOk (Nat.le_refl _) (I1.hok.fresh (Nat.le_refl _))
/-- a range object just made, walked -/
theorem range_it {pins : List (Addr × Obj)} {σ : St} {H : Hp} {s : Shared} {R : It → Hp → Prop} {E : Value → Shared → Prop} {lo hi : Int} {t u v : Tok} {tk : Nat} (I : Inv X pins σ H s) (h1 : -(2 ^ 62) ≤ lo) (h2 : lo < 2 ^ 62) (h3 : -(2 ^ 62) ≤ hi) (h4 : hi < 2 ^ 62)
    (q : R (Itr lo (hi - lo).toNat) H) : wpAny (model X.prog X.w) X.A (pyIter (.ref s.heap.objs.size)) (PIE X pins σ tg R) E { s with heap := s.heap.push { cls := .type "range", data := .fields #[.int lo t, .int hi u, .int 1 v] }, toks := tk } := by
  refine wpAny_pyIter_range (IsRange.new ..) (small_one h1 h2 h3 h4) ?_
  have I1 : Inv X pins σ H { s with heap := s.heap.push { cls := .type "range", data := .fields #[.int lo t, .int hi u, .int 1 v] }, toks := tk } := I.kept fun b o e => Heap.get?_push_of_some _ e
  refine ⟨(s.heap.push { cls := .type "range", data := .fields #[.int lo t, .int hi u, .int 1 v] }).objs.size, [(s.heap.push { cls := .type "range", data := .fields #[.int lo t, .int hi u, .int 1 v] }).objs.size], _, _, H, rfl,
    I1.kept (t' := tk) fun b o e => Heap.get?_push_of_some _ e, turn_range _ lo (hi - lo).toNat, ?_, fun b hb => ?_, q⟩
  · have e1 : lo + ((0 : Nat) : Int) * 1 = lo := by simp
    have e2 : (((hi - lo).toNat : Nat) : Int) - ((0 : Nat) : Int) = Builtin.Range.rangeSize lo hi 1 := by rw [rangeSize_one]; split <;> omega
    show IsRangeIter _ _ (lo + ((0 : Nat) : Int) * 1) ((((hi - lo).toNat : Nat) : Int) - ((0 : Nat) : Int)) 1
    rw [e1, e2]
    exact Heap.get?_push_size _ rfl
  · have e : b = (s.heap.push { cls := .type "range", data := .fields #[.int lo t, .int hi u, .int 1 v] }).objs.size := by simpa using hb
    subst e
    exact I1.fpOk (Nat.le_refl _) (I1.hok.fresh (Nat.le_refl _))
def iRng1 (ta : TA) : TI := fun σ H R => ta σ H fun vs H1 => ∃ j : Int, vs = [.int j] ∧ -(2 ^ 62) ≤ j ∧ j < 2 ^ 62 ∧ R (Itr 0 j.toNat) H1
theorem pi_range1 {a : Expr} {ta : TA} {p pos : Pos} (hg : Gl X "range") (hm : X.mg "range" = none) (ha : PA X [a] ta) (hs : starEach [a] X.env = [(false, eval a X.env)] := by rfl) : PI X tg (.Call (.Name "range" p) [a] [] pos) (iRng1 ta) := by
  intro pins s σ H R I h
  refine Call_ (ld_blt I hg hm boot_range (PyProof.Rows.callWith_type1 (thn (ha pos pins s σ H _ I h) fun us s1 ⟨vs, H1, I1, r1, q1⟩ => ?_) hs rfl))
  obtain ⟨j, e, q1, q2, q⟩ := q1
  subst e
  cases r1 with
  | cons r rr =>
    cases rr
    obtain ⟨t, rfl⟩ := r
    exact call_range_1 (range_it I1 (by omega) (by omega) q1 q2 (by simpa using q))
/-- W: the invariant by the turn and a measure; N: what the body is to reach -/
def tFor (wi : TI) (g : TG) (tb : TS) : TS := fun D σ H => wi σ H fun J H1 => ∃ W : Nat → Nat → St → Hp → Prop, (∃ m, W 0 m σ H1) ∧ ∀ i m σ H, W i m σ H →
  (J.stop i H ∧ D.nx σ H) ∨ (J.go i H ∧ ∃ N : St → Hp → Prop, (∀ σ' H', N σ' H' → ∃ m', m' < m ∧ W (i + 1) m' σ' H') ∧ ∀ x H', J.yld i H x H' → g x σ H' fun σ2 H2 => tb { D with nx := N, ct := N, bk := D.nx } σ2 H2)
/-- the records at fp as they stand -/
def pinsAt (fp : List Addr) (h : Heap) : List (Addr × Obj) := fp.filterMap fun b => (h.get? b).map fun o => (b, o)
theorem mem_pinsAt {fp : List Addr} {h : Heap} {b : Addr} {o : Obj} (hb : b ∈ fp) (e : h.get? b = some o) : (b, o) ∈ pinsAt fp h := List.mem_filterMap.mpr ⟨b, hb, by rw [e]; rfl⟩
theorem of_pinsAt {fp : List Addr} {h : Heap} {p : Addr × Obj} (hp : p ∈ pinsAt fp h) : p.1 ∈ fp ∧ h.get? p.1 = some p.2 := by
  obtain ⟨b, hb, e⟩ := List.mem_filterMap.mp hp
  cases q : h.get? b with
  | none => rw [q] at e; cases e
  | some o =>
    rw [q] at e
    have e' : (b, o) = p := Option.some.inj e
    subst e'
    exact ⟨hb, q⟩
theorem Inv.pinned {pins : List (Addr × Obj)} {σ : St} {H : Hp} {s : Shared} {fp : List Addr} (I : Inv X pins σ H s) (hf : ∀ b ∈ fp, FpOk X pins H b) (ho : ∀ b ∈ fp, ∃ o, s.heap.get? b = some o ∧ ∀ v, o.data ≠ .cell v) : Inv X (pins ++ pinsAt fp s.heap) σ H s :=
  I.pins_of fun p hp => (List.mem_append.mp hp).elim (fun z => I.pin p (List.mem_append_right _ z)) fun z => by
    obtain ⟨hb, e⟩ := of_pinsAt z
    obtain ⟨f0, f1, f2, _⟩ := hf p.1 hb
    obtain ⟨o, e', d⟩ := ho p.1 hb
    rw [e] at e'; cases e'
    exact ⟨e, f0, f1, f2, d⟩
theorem Inv.unpinned {pins pl : List (Addr × Obj)} {σ : St} {H : Hp} {s : Shared} (I : Inv X (pins ++ pl) σ H s) : Inv X pins σ H s := I.pins_of fun p hp => I.pin p (List.mem_append_right _ (List.mem_append_left _ hp))
theorem ps_for {iter : Expr} {body : List Stmt} {wi : TI} {g : TG} {tb : TS} {pos : Pos} (hp : PassesOwn (model X.prog X.w) X.A X.env X.xe) (hc : X.calm = true) (hi : PI X tg iter wi) (hg : PG X tg g) (hb : PSs X body tb)
    (hs : ∀ x, foldedSetIterable iter X.env x = pure x := by intro _; rfl) : PS X (.For tg iter body [] pos) (tFor wi g tb) := by
  intro pins s σ H D I h
  refine wpAny_For (thn (hi pins s σ H _ I h) fun v s1 h1 => thn h1 fun itv s2 h2 => ?_) hs
  obtain ⟨it, fp, tn, J, H2, e, I2, T, st2, f2, W, ⟨m0, w0⟩, turn⟩ := h2
  subst e
  -- what stays true of the iterator's objects through the loop
  have stat : ∀ {H' : Hp}, (∀ b ∈ fp, H' b = none) → ∀ b ∈ fp, FpOk X pins H' b := fun hn b hb => ⟨hn b hb, (f2 b hb).2⟩
  refine codeAny_forLoop_any (fun n s' => ∃ i σ' H', Inv X pins σ' H' s' ∧ tn i s'.heap ∧ (∀ b ∈ fp, H' b = none) ∧ W i n σ' H') ?_ m0 ⟨0, σ, H2, I2, st2, fun b hb => (f2 b hb).1, w0⟩
  rintro n s3 ⟨i, σ3, H3, I3, st3, fr3, w3⟩
  rcases turn i n σ3 H3 w3 with ⟨stop, qn⟩ | ⟨go, N, hN, step⟩
  · refine wpAny_passesOwn hp (thn (T.done X rfl rfl rfl hc i pins s3 σ3 H3 X.xe I3 (stat fr3) st3 stop) fun r s4 ⟨hr, I4⟩ => ?_)
    subst hr
    exact wpAny_execs_nil ⟨σ3, H3, I4, qn⟩
  · refine wpAny_passesOwn hp (thn (T.item X rfl rfl rfl hc i pins s3 σ3 H3 X.xe I3 (stat fr3) st3 go) fun r s4 ⟨u, hr, h4⟩ => ?_)
    subst hr
    refine wpAny_passesOwn hp (thn h4 fun _ s5 ⟨x, H5, I5, r5, y5, st5, fr5⟩ => ?_)
    have I5' := I5.pinned (stat fr5) (T.obj _ _ st5)
    refine wpAny_passesOwn hp (thn (hg _ s5 σ3 H5 x u _ I5' r5 (step x H5 y5)) fun _ s6 ⟨σ6, H6, I6, q6⟩ => ?_)
    refine wpAny_passesOwn hp (thn (hb _ s6 σ6 H6 _ I6 q6) fun f s7 q7 => ?_)
    have again : ∀ {σ7 : St} {H7 : Hp}, Inv X (pins ++ pinsAt fp s5.heap) σ7 H7 s7 → N σ7 H7 → ∃ m, m < n ∧ ∃ i σ' H', Inv X pins σ' H' s7 ∧ tn i s7.heap ∧ (∀ b ∈ fp, H' b = none) ∧ W i m σ' H' := fun {σ7 H7} I7 n7 => by
      obtain ⟨m', hm, w7⟩ := hN σ7 H7 n7
      refine ⟨m', hm, i + 1, σ7, H7, I7.unpinned, T.keep _ _ _ st5 fun b hb o e => (I7.pin (b, o) (List.mem_append_right _ (List.mem_append_right _ (mem_pinsAt hb e)))).1, fun b hb => ?_, w7⟩
      obtain ⟨o, e, d⟩ := T.obj _ _ st5 b hb
      exact (I7.pin (b, o) (List.mem_append_right _ (List.mem_append_right _ (mem_pinsAt hb e)))).2.1
    cases f with
    | next => obtain ⟨σ7, H7, I7, n7⟩ := q7; exact again I7 n7
    | cont => obtain ⟨σ7, H7, I7, n7⟩ := q7; exact again I7 n7
    | brk => obtain ⟨σ7, H7, I7, q7⟩ := q7; exact ⟨σ7, H7, I7.unpinned, q7⟩
    | ret v => obtain ⟨x7, σ7, H7, I7, r7, q7⟩ := q7; exact ⟨x7, σ7, H7, I7.unpinned, r7, q7⟩
end
/-- over a list that the body leaves as it is -/
theorem for_list {K : PySem.W.Frag} {a : Addr} {xs : List V} {g : TG} {tb : TS} {D : Ends} {σ : St} {H : Hp} (Pv : Nat → St → Hp → Prop) (h0 : Pv 0 σ H) (hl : ∀ i σ H, i ≤ xs.length → Pv i σ H → SqL K H a xs)
    (hs : ∀ i x σ H, xs[i]? = some x → Pv i σ H → g x σ H fun σ2 H2 => tb { D with nx := Pv (i + 1), ct := Pv (i + 1), bk := D.nx } σ2 H2) (hd : ∀ σ H, Pv xs.length σ H → D.nx σ H) :
    ∃ W : Nat → Nat → St → Hp → Prop, (∃ m, W 0 m σ H) ∧ ∀ i m σ H, W i m σ H →
      ((Itl K a).stop i H ∧ D.nx σ H) ∨ ((Itl K a).go i H ∧ ∃ N : St → Hp → Prop, (∀ σ' H', N σ' H' → ∃ m', m' < m ∧ W (i + 1) m' σ' H') ∧ ∀ x H', (Itl K a).yld i H x H' → g x σ H' fun σ2 H2 => tb { D with nx := N, ct := N, bk := D.nx } σ2 H2) := by
  refine ⟨fun i m σ H => m = xs.length - i ∧ i ≤ xs.length ∧ Pv i σ H, ⟨xs.length, by simp, Nat.zero_le _, h0⟩, ?_⟩
  rintro i m σ H ⟨rfl, hi, p⟩
  have q := hl i σ H hi p
  by_cases hlt : i < xs.length
  · refine .inr ⟨⟨xs, xs[i], q, by simp [hlt]⟩, Pv (i + 1), fun σ' H' p' => ⟨xs.length - (i + 1), by omega, rfl, hlt, p'⟩, fun x H' y => ?_⟩
    obtain ⟨e, y⟩ := y
    subst e
    exact hs i x σ _ (y xs q) p
  · have e : i = xs.length := by omega
    subst e
    exact .inl ⟨⟨xs, q, Nat.le_refl _⟩, hd σ H p⟩
theorem for_range {lo : Int} {n : Nat} {g : TG} {tb : TS} {D : Ends} {σ : St} {H : Hp} (Pv : Nat → St → Hp → Prop) (h0 : Pv 0 σ H)
    (hs : ∀ i σ H, i < n → Pv i σ H → g (.int (lo + i)) σ H fun σ2 H2 => tb { D with nx := Pv (i + 1), ct := Pv (i + 1), bk := D.nx } σ2 H2) (hd : ∀ σ H, Pv n σ H → D.nx σ H) :
    ∃ W : Nat → Nat → St → Hp → Prop, (∃ m, W 0 m σ H) ∧ ∀ i m σ H, W i m σ H →
      ((Itr lo n).stop i H ∧ D.nx σ H) ∨ ((Itr lo n).go i H ∧ ∃ N : St → Hp → Prop, (∀ σ' H', N σ' H' → ∃ m', m' < m ∧ W (i + 1) m' σ' H') ∧ ∀ x H', (Itr lo n).yld i H x H' → g x σ H' fun σ2 H2 => tb { D with nx := N, ct := N, bk := D.nx } σ2 H2) := by
  refine ⟨fun i m σ H => m = n - i ∧ i ≤ n ∧ Pv i σ H, ⟨n, by simp, Nat.zero_le _, h0⟩, ?_⟩
  rintro i m σ H ⟨rfl, hi, p⟩
  by_cases hlt : i < n
  · refine .inr ⟨hlt, Pv (i + 1), fun σ' H' p' => ⟨n - (i + 1), by omega, rfl, hlt, p'⟩, fun x H' y => ?_⟩
    obtain ⟨e, y⟩ := y
    subst e y
    exact hs i σ _ hlt p
  · have e : i = n := by omega
    subst e
    exact .inl ⟨Nat.le_refl _, hd σ H p⟩
end L2
namespace L2
open PySem PySem.Spec PyProof.Rows
abbrev R2 := V → V → Hp → VK → Prop
/-- a two-place operation on values: f is binaryOp op, inplaceOp op or compareOp op -/
def OpR (X : Cx) (f : Value → Value → Sem Value) (r : R2) : Prop :=
  ∀ (pins : List (Addr × Obj)) (s : Shared) (σ : St) (H : Hp) (x y : V) (v u : Value) (Q : VK), Inv X pins σ H s → RelV x v → RelV y u → r x y H Q →
    wpAny (model X.prog X.w) X.A (f v u) (EP X pins σ Q) X.xe s
/-- a one-place operation -/
def UnR (X : Cx) (f : Value → Sem Value) (r : V → Hp → VK → Prop) : Prop :=
  ∀ (pins : List (Addr × Obj)) (s : Shared) (σ : St) (H : Hp) (x : V) (v : Value) (Q : VK), Inv X pins σ H s → RelV x v → r x H Q →
    wpAny (model X.prog X.w) X.A (f v) (EP X pins σ Q) X.xe s
/-- a call of a value that is known (a builtin, a type) with values -/
def CallR (X : Cx) (f : Value) (r : List V → Hp → VK → Prop) : Prop :=
  ∀ (pins : List (Addr × Obj)) (s : Shared) (σ : St) (H : Hp) (xs : List V) (us : List Value) (Q : VK), Inv X pins σ H s → Vals xs us → r xs H Q →
    wpAny (model X.prog X.w) X.A (call f us) (EP X pins σ Q) X.xe s
def tOp (r : R2) (ta tb : TE) : TE := fun σ H Q => ta σ H fun x H1 => tb σ H1 fun y H2 => r x y H2 Q
def tUn (r : V → Hp → VK → Prop) (ta : TE) : TE := fun σ H Q => ta σ H fun x H1 => r x H1 Q
/-- ints in, under C, and a value out -/
def rI (C : Int → Int → Prop) (g : Int → Int → V) : R2 := fun x y H Q => ∃ i j, x = .int i ∧ y = .int j ∧ C i j ∧ Q (g i j) H
def rI0 (g : Int → Int → V) : R2 := fun x y H Q => ∃ i j, x = .int i ∧ y = .int j ∧ Q (g i j) H
def rU (g : Int → V) : V → Hp → VK → Prop := fun x H Q => ∃ i, x = .int i ∧ Q (g i) H
section
variable {X : Cx} {a b c : Expr} {ta tb tc : TE} {pos : Pos}
theorem binT (ha : PE X a ta) (hb : PE X b tb) {pins : List (Addr × Obj)} {s : Shared} {σ : St} {H : Hp} {R : V → V → Hp → Prop} (I : Inv X pins σ H s)
    (h : ta σ H fun x H1 => tb σ H1 fun y H2 => R x y H2) {Q : Value → Shared → Prop} {f : Value → Value → Sem Value}
    (hf : ∀ v u s2 x y H2, Inv X pins σ H2 s2 → RelV x v → RelV y u → R x y H2 → wpAny (model X.prog X.w) X.A (f v u) Q X.xe s2) :
    wpAny (model X.prog X.w) X.A (eval a X.env) (fun v s₁ => wpAny (model X.prog X.w) X.A (eval b X.env) (fun u s₂ => wpAny (model X.prog X.w) X.A (f v u) Q X.xe s₂) X.xe s₁) X.xe s := by
  refine thn (ha pins s σ H _ I h) fun v s1 ⟨x, H1, I1, r1, q1⟩ => ?_
  refine thn (hb pins s1 σ H1 _ I1 q1) fun u s2 ⟨y, H2, I2, r2, q2⟩ => ?_
  exact hf v u s2 x y H2 I2 r1 r2 q2
theorem pe_op {op : Operator} {r : R2} (ho : OpR X (binaryOp op) r) (ha : PE X a ta) (hb : PE X b tb) : PE X (.BinOp a op b pos) (tOp r ta tb) := by
  intro pins s σ H Q I h
  exact wpAny_BinOp (binT ha hb I h fun v u s2 x y H2 I2 rx ry q => ho pins s2 σ H2 x y v u Q I2 rx ry q)
theorem pe_un {op : UnaryOp} {r : V → Hp → VK → Prop} (ho : UnR X (unaryOp op) r) (ha : PE X a ta) : PE X (.UnaryOp op a pos) (tUn r ta) := by
  intro pins s σ H Q I h
  exact UnaryOp_ (thn (ha pins s σ H _ I h) fun v s1 ⟨x, H1, I1, r1, q1⟩ => ho pins s1 σ H1 x v Q I1 r1 q1)
theorem opI {f : Value → Value → Sem Value} {C : Int → Int → Prop} {g : Int → Int → Int}
    (rule : ∀ (i j : Int) (t u : Tok) (s : Shared) (Q : Value → Shared → Prop) (E : Value → Shared → Prop), C i j → Q (.int (g i j) s.toks) { s with toks := s.toks + 1 } → wpAny (model X.prog X.w) X.A (f (.int i t) (.int j u)) Q E s) :
    OpR X f (rI C fun i j => .int (g i j)) := by
  intro pins s σ H x y v u Q I rx ry h
  obtain ⟨i, j, rfl, rfl, hc, q⟩ := h
  obtain ⟨t, rfl⟩ := rx
  obtain ⟨t', rfl⟩ := ry
  exact rule i j t t' s _ _ hc ⟨.int (g i j), H, I.tok _, ⟨_, rfl⟩, q⟩
theorem opI0 {f : Value → Value → Sem Value} {g : Int → Int → Int}
    (rule : ∀ (i j : Int) (t u : Tok) (s : Shared) (Q : Value → Shared → Prop) (E : Value → Shared → Prop), Q (.int (g i j) s.toks) { s with toks := s.toks + 1 } → wpAny (model X.prog X.w) X.A (f (.int i t) (.int j u)) Q E s) :
    OpR X f (rI0 fun i j => .int (g i j)) := by
  intro pins s σ H x y v u Q I rx ry h
  obtain ⟨i, j, rfl, rfl, q⟩ := h
  obtain ⟨t, rfl⟩ := rx
  obtain ⟨t', rfl⟩ := ry
  exact rule i j t t' s _ _ ⟨.int (g i j), H, I.tok _, ⟨_, rfl⟩, q⟩
theorem opB0 {f : Value → Value → Sem Value} {g : Int → Int → Bool}
    (rule : ∀ (i j : Int) (t u : Tok) (s : Shared) (Q : Value → Shared → Prop) (E : Value → Shared → Prop), Q (.bool (g i j)) s → wpAny (model X.prog X.w) X.A (f (.int i t) (.int j u)) Q E s) :
    OpR X f (rI0 fun i j => .bl (g i j)) := by
  intro pins s σ H x y v u Q I rx ry h
  obtain ⟨i, j, rfl, rfl, q⟩ := h
  obtain ⟨t, rfl⟩ := rx
  obtain ⟨t', rfl⟩ := ry
  exact rule i j t t' s _ _ ⟨.bl (g i j), H, I, rfl, q⟩
def CDiv (i j : Int) : Prop := 0 < j ∧ j < 1073741824
def CMul (i j : Int) : Prop := (-(2 ^ 64) < i ∧ i < 2 ^ 64) ∨ (-(2 ^ 64) < j ∧ j < 2 ^ 64)
theorem CMul.ok {i j : Int} (h : CMul i j) : IntMulOk i j := by
  rcases h with ⟨h1, h2⟩ | ⟨h1, h2⟩
  · exact .of_left (intBits_le_64 h1 h2)
  · exact .of_right (intBits_le_64 h1 h2)
theorem op_add : OpR X (binaryOp .Add) (rI0 fun i j => .int (i + j)) := opI0 fun _ _ _ _ _ _ _ q => add_int q
theorem op_sub : OpR X (binaryOp .Sub) (rI0 fun i j => .int (i - j)) := opI0 fun _ _ _ _ _ _ _ q => sub_int q
theorem op_mul : OpR X (binaryOp .Mult) (rI CMul fun i j => .int (i * j)) := opI fun _ _ _ _ _ _ _ hc q => mul_int q hc.ok
/-- // by a positive divisor -/
theorem op_fdiv : OpR X (binaryOp .FloorDiv) (rI CDiv fun i j => .int (i / j)) := opI fun i j _ _ _ _ _ hc q => by
  have h1 : (0 : Int) < j := hc.1
  have h2 : j < 1073741824 := hc.2
  exact floordiv_int (by omega) (by rw [Int.fdiv_eq_ediv_of_nonneg i (by omega)]; exact q) (.inl (PyProof.noPylong_small (by omega)))
theorem unI {f : Value → Sem Value} {g : Int → Int}
    (rule : ∀ (i : Int) (t : Tok) (s : Shared) (Q : Value → Shared → Prop) (E : Value → Shared → Prop), Q (.int (g i) s.toks) { s with toks := s.toks + 1 } → wpAny (model X.prog X.w) X.A (f (.int i t)) Q E s) :
    UnR X f (rU fun i => .int (g i)) := by
  intro pins s σ H x v Q I rx h
  obtain ⟨i, rfl, q⟩ := h
  obtain ⟨t, rfl⟩ := rx
  exact rule i t s _ _ ⟨.int (g i), H, I.tok _, ⟨_, rfl⟩, q⟩
theorem un_neg : UnR X (unaryOp .USub) (rU fun i => .int (-i)) := unI fun _ _ _ _ _ q => neg_int q
end
/-- the scalars that == tells apart as data does -/
def scal : V → V → Bool
  | .non, .non => true | .non, .int _ => true | .int _, .non => true | .non, .bl _ => true | .bl _, .non => true | .non, .str _ => true | .str _, .non => true
  | .int _, .int _ => true | .bl _, .bl _ => true | .str _, .str _ => true | .byt _, .byt _ => true
  | .int _, .str _ => true | .str _, .int _ => true | .bl _, .str _ => true | .str _, .bl _ => true
  | _, _ => false
def rEq : R2 := fun x y H Q => scal x y = true ∧ Q (.bl (decide (x = y))) H
def rNe : R2 := fun x y H Q => scal x y = true ∧ Q (.bl (!decide (x = y))) H
theorem dec_int {i j : Int} : decide (V.int i = V.int j) = (i == j) := by
  rw [Bool.eq_iff_iff]
  simp
theorem dec_bl {i j : Bool} : decide (V.bl i = V.bl j) = (i == j) := by
  rw [Bool.eq_iff_iff]
  simp
theorem dec_str {i j : Str} : decide (V.str i = V.str j) = (i == j) := by
  rw [Bool.eq_iff_iff]
  simp
theorem dec_byt {i j : Array UInt8} : decide (V.byt i = V.byt j) = (i.toList == j.toList) := by
  rw [Bool.eq_iff_iff]
  cases i
  cases j
  simp
section
variable {X : Cx} {a b c : Expr} {ta tb tc : TE} {pos : Pos}
theorem fin_bl {pins : List (Addr × Obj)} {σ : St} {H : Hp} {s : Shared} {Q : VK} {k k' : Bool} (I : Inv X pins σ H s) (q : Q (.bl k) H) (e : k = k') : EP X pins σ Q (.bool k') s := by
  subst e
  exact ⟨.bl k, H, I, rfl, q⟩
theorem op_eq : OpR X (compareOp .Eq) rEq := by
  intro pins s σ H x y v u Q I rx ry h
  obtain ⟨hs, q⟩ := h
  cases x with
  | non =>
    cases rx
    cases y with
    | non => cases ry; exact PySem.EqNone.eq_none_none (fin_bl I q (by simp))
    | bl j => cases ry; exact PySem.EqNone.eq_none_bool (fin_bl I q (by simp))
    | int j => obtain ⟨t', rfl⟩ := ry; exact PySem.EqNone.eq_none_int (fin_bl I q (by simp))
    | str j => obtain ⟨t', rfl⟩ := ry; exact PySem.EqNone.eq_none_str (fin_bl I q (by simp))
    | _ => exact absurd (show false = true from hs) Bool.false_ne_true
  | bl i =>
    cases rx
    cases y with
    | non => cases ry; exact PySem.EqNone.eq_bool_none (fin_bl I q (by simp))
    | bl j => cases ry; exact eq_bool (fin_bl I q dec_bl)
    | str j => obtain ⟨t', rfl⟩ := ry; exact PySem.EqMixed.eq_bool_str (fin_bl I q (by simp))
    | _ => exact absurd (show false = true from hs) Bool.false_ne_true
  | int i =>
    obtain ⟨t, rfl⟩ := rx
    cases y with
    | non => cases ry; exact PySem.EqNone.eq_int_none (fin_bl I q (by simp))
    | int j => obtain ⟨t', rfl⟩ := ry; exact eq_int (fin_bl I q dec_int)
    | str j => obtain ⟨t', rfl⟩ := ry; exact PySem.EqMixed.eq_int_str (fin_bl I q (by simp))
    | _ => exact absurd (show false = true from hs) Bool.false_ne_true
  | str i =>
    obtain ⟨t, rfl⟩ := rx
    cases y with
    | non => cases ry; exact PySem.EqNone.eq_str_none (fin_bl I q (by simp))
    | bl j => cases ry; exact PySem.EqMixed.eq_str_bool (fin_bl I q (by simp))
    | int j => obtain ⟨t', rfl⟩ := ry; exact PySem.EqMixed.eq_str_int (fin_bl I q (by simp))
    | str j => obtain ⟨t', rfl⟩ := ry; exact eq_str (fin_bl I q dec_str)
    | _ => exact absurd (show false = true from hs) Bool.false_ne_true
  | byt i =>
    obtain ⟨t, rfl⟩ := rx
    cases y with
    | byt j => obtain ⟨t', rfl⟩ := ry; exact PySem.W.eq_bytes (fin_bl I q dec_byt)
    | _ => exact absurd (show false = true from hs) Bool.false_ne_true
  | _ => cases y <;> exact absurd (show false = true from hs) Bool.false_ne_true
theorem op_ne : OpR X (compareOp .NotEq) rNe := by
  intro pins s σ H x y v u Q I rx ry h
  obtain ⟨hs, q⟩ := h
  cases x with
  | non =>
    cases rx
    cases y with
    | non => cases ry; exact PySem.EqNone.ne_none_none (fin_bl I q (by simp))
    | bl j => cases ry; exact PySem.EqNone.ne_none_bool (fin_bl I q (by simp))
    | int j => obtain ⟨t', rfl⟩ := ry; exact PySem.EqNone.ne_none_int (fin_bl I q (by simp))
    | str j => obtain ⟨t', rfl⟩ := ry; exact PySem.EqNone.ne_none_str (fin_bl I q (by simp))
    | _ => exact absurd (show false = true from hs) Bool.false_ne_true
  | bl i =>
    cases rx
    cases y with
    | non => cases ry; exact PySem.EqNone.ne_bool_none (fin_bl I q (by simp))
    | bl j => cases ry; exact ne_bool (fin_bl I q (congrArg not dec_bl))
    | str j => obtain ⟨t', rfl⟩ := ry; exact PySem.EqMixed.ne_bool_str (fin_bl I q (by simp))
    | _ => exact absurd (show false = true from hs) Bool.false_ne_true
  | int i =>
    obtain ⟨t, rfl⟩ := rx
    cases y with
    | non => cases ry; exact PySem.EqNone.ne_int_none (fin_bl I q (by simp))
    | int j => obtain ⟨t', rfl⟩ := ry; exact ne_int (fin_bl I q (congrArg not dec_int))
    | str j => obtain ⟨t', rfl⟩ := ry; exact PySem.EqMixed.ne_int_str (fin_bl I q (by simp))
    | _ => exact absurd (show false = true from hs) Bool.false_ne_true
  | str i =>
    obtain ⟨t, rfl⟩ := rx
    cases y with
    | non => cases ry; exact PySem.EqNone.ne_str_none (fin_bl I q (by simp))
    | bl j => cases ry; exact PySem.EqMixed.ne_str_bool (fin_bl I q (by simp))
    | int j => obtain ⟨t', rfl⟩ := ry; exact PySem.EqMixed.ne_str_int (fin_bl I q (by simp))
    | str j => obtain ⟨t', rfl⟩ := ry; exact ne_str (fin_bl I q (congrArg not dec_str))
    | _ => exact absurd (show false = true from hs) Bool.false_ne_true
  | byt i =>
    obtain ⟨t, rfl⟩ := rx
    cases y with
    | byt j => obtain ⟨t', rfl⟩ := ry; exact PySem.W.ne_bytes (fin_bl I q (congrArg not dec_byt))
    | _ => exact absurd (show false = true from hs) Bool.false_ne_true
  | _ => cases y <;> exact absurd (show false = true from hs) Bool.false_ne_true
theorem op_lt : OpR X (compareOp .Lt) (rI0 fun i j => .bl (decide (i < j))) := opB0 fun _ _ _ _ _ _ _ q => lt_int q
theorem op_gt : OpR X (compareOp .Gt) (rI0 fun i j => .bl (decide (j < i))) := opB0 fun _ _ _ _ _ _ _ q => gt_int q
theorem op_ge : OpR X (compareOp .GtE) (rI0 fun i j => .bl (decide (j ≤ i))) := opB0 fun _ _ _ _ _ _ _ q => ge_int q
theorem nomark (b : Expr) {op : CmpOp} (h : op ≠ .In := by decide) (h2 : op ≠ .NotIn := by decide) : behindInMarks op b = false := by
  have e1 : (op == CmpOp.In) = false := by cases op <;> first | rfl | exact absurd rfl h
  have e2 : (op == CmpOp.NotIn) = false := by cases op <;> first | rfl | exact absurd rfl h2
  cases b <;> simp [behindInMarks, e1, e2]
/-- a comparison as a value; hm: nomark b, or (for in, not in) by with_unfolding_all rfl -/
theorem pe_cmpR {op : CmpOp} {r : R2} (ho : OpR X (compareOp op) r) (ha : PE X a ta) (hb : PE X b tb) (hm : behindInMarks op b = false) : PE X (.Compare a [op] [b] pos) (tOp r ta tb) := by
  intro pins s σ H Q I h
  exact wpAny_Compare1 (binT ha hb I h fun v u s2 x y H2 I2 rx ry q => ho pins s2 σ H2 x y v u Q I2 rx ry q) hm
/-- a reading of a value as a test -/
def tTest (t : TE) : TT := fun σ H Q => t σ H fun x H' => ∃ k, x = .bl k ∧ Q k H'
theorem pt_cmpR {op : CmpOp} {r : R2} (ho : OpR X (compareOp op) r) (ha : PE X a ta) (hb : PE X b tb) (hm : behindInMarks op b = false) : PT X (.Compare a [op] [b] pos) (tTest (tOp r ta tb)) := by
  intro pins s σ H Q I h
  refine wpAny_isTrue_Compare1 (thn (ha pins s σ H _ I h) fun v s1 ⟨x, H1, I1, r1, q1⟩ => thn (hb pins s1 σ H1 _ I1 q1) fun u s2 ⟨y, H2, I2, r2, q2⟩ =>
    thn (ho pins s2 σ H2 x y v u _ I2 r1 r2 q2) fun c s3 ⟨z, H3, I3, r3, k, e, q3⟩ => ?_) hm
  subst e
  cases r3
  exact wpAny_truthy_bool ⟨H3, I3, q3⟩
theorem line63 : (sizeLine : Nat) < 2 ^ 63 := by rw [sizeLine_eq]; decide
theorem vals1 {x : V} {us : List Value} (r : Vals [x] us) : ∃ u, us = [u] ∧ RelV x u := by
  cases r with
  | cons r1 r2 => cases r2; exact ⟨_, rfl, r1⟩
end
end L2
namespace L2
open PySem PySem.Spec PyProof.Rows
section
variable {prog : Program} {w : World} {A : Around} {E : Value → Shared → Prop} {s : Shared} {K : PySem.W.Frag} {x dx C f : Addr} {mA : Str → Option Value} {name : Str} {v : Value}
end
section
variable {P : Program} {w : World} {H H' : Hp} {h h' : Heap} {a C dx : Addr} {fs fs' : List (Str × V)}
end
section
variable {X : Cx} {pins : List (Addr × Obj)} {σ : St} {H : Hp} {s : Shared} {a C dx : Addr} {fs : List (Str × V)} {f : Str} {v : V} {A : Around} {E : Value → Shared → Prop}
end
section
variable {X : Cx} {o e value : Expr} {f : Str} {pos pos' tpos : Pos} {ta tv : TE}
end
section
variable {X : Cx} {pins : List (Addr × Obj)} {σ : St} {H : Hp} {s : Shared} {A : Around} {E : Value → Shared → Prop} {Q : Value → Shared → Prop} {c : Value} {b : Bool}
end
end L2
namespace L2
open PySem PySem.Spec PyProof.Rows
structure Room (k : Nat) (A : Around) : Prop where
  hd : A.handled = none
  dp : A.depth + 3 * k + 5 < recursionLimit
  un : A.units + 16 * k + 200 < cLine
theorem Room.mono {j k : Nat} {A : Around} (r : Room k A) (h : j ≤ k) : Room j A := ⟨r.hd, by have := r.dp; omega, by have := r.un; omega⟩
theorem Room.deeper {k : Nat} {A : Around} (r : Room (k + 1) A) (env : Env) : Room k (A.deeper env) :=
  ⟨r.hd, by have := r.dp; show A.depth + 1 + 3 * k + 5 < _; omega, by have := r.un; show A.units + 3 + 16 * k + 200 < _; omega⟩
theorem Room.depth {k : Nat} {A : Around} (r : Room k A) : A.depth < recursionLimit := by have := r.dp; omega
theorem Room.units {k : Nat} {A : Around} (r : Room k A) : A.units + 64 < cLine := by have := r.un; omega
def tNil : TA := fun _ H Q => Q [] H
def tCons (ta : TE) (tr : TA) : TA := fun σ H Q => ta σ H fun x H1 => tr σ H1 fun xs H2 => Q (x :: xs) H2
section
variable {X : Cx} {e : Expr} {es : List Expr} {te : TE} {t : TA} {pos : Pos}
theorem pa_nil : PA X [] tNil := fun _ _ _ _ H Q I h => Calls.spliced_nil ⟨[], H, I, .nil, h⟩
theorem pa_cons (ha : PE X e te) (hr : PA X es t) (hs : starEach (e :: es) X.env = (false, eval e X.env) :: starEach es X.env := by rfl) : PA X (e :: es) (tCons te t) := by
  intro pos pins s σ H Q I h
  rw [hs]
  show wpAny _ _ (spliced ((false, eval e X.env) :: backTo pos (starEach es X.env))) _ _ s
  refine Calls.spliced_cons (thn (ha pins s σ H _ I h) fun u s1 ⟨x, H1, I1, r1, q1⟩ => ?_)
  exact thn (hr pos pins s1 σ H1 _ I1 q1) fun us s2 ⟨xs, H2, I2, r2, q2⟩ => ⟨x :: xs, H2, I2, .cons r1 r2, q2⟩
/-- a tuple, a list of written items -/
def tTup (t : TA) : TE := fun σ H Q => t σ H fun xs H1 => xs.length ≤ sizeLine ∧ ∀ p, H1 p = none → Q (.ref p) (upd H1 p (.tup xs))
def tLst (t : TA) : TE := fun σ H Q => t σ H fun xs H1 => xs.length ≤ sizeLine ∧ ∀ p, H1 p = none → Q (.ref p) (upd H1 p (.lst xs))
theorem pe_tup {x1} (h : PA X es t) : PE X (.Tuple es x1 pos) (tTup t) := by
  intro pins s σ H Q I hq
  refine wpAny_Tuple_spliced (thn (h pos pins s σ H _ I hq) fun us s1 ⟨xs, H1, I1, r, z, q⟩ => ⟨by rw [← r.length]; exact z, ?_⟩)
  have hf : H1 s1.heap.objs.size = none := I1.hok.fresh (Nat.le_refl _)
  refine ⟨.ref s1.heap.objs.size, upd H1 s1.heap.objs.size (.tup xs), I1.laid (t' := s1.toks) (fun b u e => Heap.get?_push_of_some _ e) (Nat.le_refl _) ?_, rfl, q _ hf⟩
  exact ⟨z, us, r, ⟨_, Heap.get?_push_size _ rfl, rfl, _, rfl⟩⟩
theorem pe_lst (h : PA X es t) : PE X (.List es pos) (tLst t) := by
  intro pins s σ H Q I hq
  refine wpAny_List_spliced (thn (h pos pins s σ H _ I hq) fun us s1 ⟨xs, H1, I1, r, z, q⟩ => ⟨by rw [← r.length]; exact z, ?_⟩)
  have hf : H1 s1.heap.objs.size = none := I1.hok.fresh (Nat.le_refl _)
  refine ⟨.ref s1.heap.objs.size, upd H1 s1.heap.objs.size (.lst xs), I1.laid (t' := s1.toks) (fun b u e => Heap.get?_push_of_some _ e) (Nat.le_refl _) ?_, rfl, q _ hf⟩
  exact ⟨z, us, 0, r, Heap.get?_push_size _ rfl⟩
end
/-- a def's promise: the bound arguments in the parameters' order, the heap, the wanted end, the wanted exception -/
abbrev Sp := List V → Hp → VK → XK → Prop
/-- how an exception lies behind a call (file 08 gives it): the callers' frames, abstract heap and state ahead of the call, the wish, the exception, the state -/
abbrev CXT := List Env → Hp → Shared → XK → Value → Shared → Prop
/-- the state at a call -/
structure Env0 (P : Program) (w : World) (K : PySem.W.Frag) (mg : Str → Option Value) (base : Heap) (A : Around) (outer : List Env) (s : Shared) (H : Hp) : Prop where
  frames : A.frames = some outer
  mod : Mod K mg base
  bs : ∀ b o, base.get? b = some o → s.heap.get? b = some o ∧ H b = none
  bsz : base.objs.size ≤ s.heap.objs.size
  funs : s.heap.FunFrames base outer
  frf : ∀ b ∈ frs outer, H b = none
  hok : HOk P w H s.heap
  bare : AllBare s.gens
/-- a call's end -/
def CE (outer : List Env) (P : Program) (w : World) (H : Hp) (s : Shared) (Q : VK) (u : Value) (s' : Shared) : Prop :=
  ∃ v H', s'.os = s.os ∧ AllBare s'.gens ∧ Un (frs outer) [] H H' s.heap s'.heap ∧ HOk P w H' s'.heap ∧ RelV v u ∧ Q v H'
def CR (CX : CXT) (outer : List Env) (P : Program) (w : World) (H : Hp) (s : Shared) (Q : VK) (E : XK) (r : Result) (s' : Shared) : Prop :=
  match r with
  | .ok (.ret u) => CE outer P w H s Q u s'
  | .ok _ => False
  | .error e => CX outer H s E e s'
structure FnOk (P : Program) (w : World) (K : PySem.W.Frag) (mg : Str → Option Value) (base : Heap) (CX : CXT) (k : Nat) (f : Addr) (fd : FuncData) (ps : List Str) (sp : Sp) : Prop where
  len : ∀ vs H Q E, sp vs H Q E → vs.length = ps.length
  run : ∀ (A : Around) (outer : List Env) (s : Shared) (H : Hp) (args : Args) (us : List Value) (vs : List V) (Q : VK) (E : XK), Room k A → Env0 P w K mg base A outer s H → BindsTo s fd args (ps.zip us) → Vals vs us → sp vs H Q E →
    codeAny (model P w) A (.call (.ref f) args) (CR CX outer P w H s Q E) s
section
variable {X : Cx} {pins : List (Addr × Obj)} {σ : St} {H : Hp} {s s' : Shared}
/-- from a body: what a callee wants -/
theorem Inv.env0 (I : Inv X pins σ H s) : Env0 X.prog X.w X.K X.mg X.base X.A X.stack s H :=
  ⟨I.ok.frames, I.ok.mod, I.bs, Nat.le_trans I.ok.bsz I.sz, I.stack, I.stkFree, I.hok, I.bare⟩
/-- behind a call -/
theorem Inv.after {Q : VK} {u : Value} (I : Inv X pins σ H s) (h : CE X.stack X.prog X.w H s Q u s') : EP X pins σ Q u s' := by
  obtain ⟨v, H', os, bare, un, hok, r, q⟩ := h
  obtain ⟨hh, g, d, t, os'⟩ := s'
  obtain rfl : os' = s.os := os
  exact ⟨v, H', I.call (h' := hh) (g' := g) (d' := d) (t' := t) (ch := []) un hok bare (fun b z => absurd z (by simp)), r, q⟩
end
/-- f(..): the written arguments, then the defaults dvs; E: what is wanted of an exception -/
def tCall (sp : Sp) (dvs : List V) (E : XK) (t : TA) : TE := fun σ H Q => t σ H fun vs H1 => sp (vs ++ dvs) H1 Q E
/-- how the parameters are bound: us the positional arguments, kw the keywords' values by name, ds the defaults that fill up -/
def Binds (K : PySem.W.Frag) (fd : FuncData) (ps : List Str) (ds : List Value) : Prop :=
  ∀ (s : Shared) (us : List Value), K.In s.heap → (us ++ ds).length = ps.length → BindsTo s fd ⟨us, []⟩ (ps.zip (us ++ ds))
/-- every parameter is given -/
theorem Binds.all {K : PySem.W.Frag} {fd : FuncData} {ps : List Str} (h : ∀ us : List Value, us.length = ps.length → bindArgs fd ⟨us, []⟩ = pure (ps.zip us)) : Binds K fd ps [] := fun s us _ hl => by
  rw [List.append_nil] at hl ⊢
  exact .of_eq (h us hl)
/-- an exception of a callee reaches what this body wants of exceptions -/
def Passes (CX : CXT) (X : Cx) (E : XK) : Prop := ∀ (pins : List (Addr × Obj)) (σ : St) (H : Hp) (s : Shared) (e : Value) (s' : Shared), Inv X pins σ H s → CX X.stack H s E e s' → X.xe e s'
section
variable {X : Cx} {CX : CXT} {k : Nat} {f C : Addr} {fd : FuncData} {ps : List Str} {sp : Sp} {dvs : List V} {ds : List Value} {E : XK} {x m : Str} {p pos apos : Pos} {e o : Expr} {es : List Expr} {ta : TE} {t : TA}
/-- the callee runs -/
theorem run_fn {pins : List (Addr × Obj)} {σ : St} {H : Hp} {s : Shared} {Q : VK} {us : List Value} {vs : List V} (F : FnOk X.prog X.w X.K X.mg X.base CX k f fd ps sp) (hr : Room k X.A) (hb : Binds X.K fd ps ds) (hd : Vals dvs ds) (hx : Passes CX X E)
    (I : Inv X pins σ H s) (r : Vals vs us) (h : sp (vs ++ dvs) H Q E) : wpAny (model X.prog X.w) X.A (call (.ref f) us) (EP X pins σ Q) X.xe s := by
  have r2 : Vals (vs ++ dvs) (us ++ ds) := r.append hd
  have hl : (us ++ ds).length = ps.length := by rw [← r2.length]; exact F.len _ _ _ _ h
  refine wpAny_call (codeAny_mono (F.run X.A X.stack s H ⟨us, []⟩ (us ++ ds) (vs ++ dvs) Q E hr I.env0 (hb s us I.kIn hl) r2 h) fun r s' hq => ?_)
  cases r with
  | error e => exact hx pins σ H s e s' I hq
  | ok fl =>
    cases fl with
    | ret u => exact I.after hq
    | next => exact False.elim hq
    | brk => exact False.elim hq
    | cont => exact False.elim hq
theorem pe_call (F : FnOk X.prog X.w X.K X.mg X.base CX k f fd ps sp) (hr : Room k X.A) (hg : Gl X x) (hm : X.mg x = some (.ref f)) (hk : PySem.W.keepIn X.K (.ref f) = true) (hb : Binds X.K fd ps ds) (hd : Vals dvs ds) (hx : Passes CX X E)
    (ha : PA X (e :: es) t) (hdb : (x == ("__debug__" : Str)) = false := by decide) (he : starEach (e :: es) X.env = (false, eval e X.env) :: starEach es X.env := by rfl) (hpl : (backTo pos (starEach es X.env)).any (·.1) = false := by rfl) :
    PE X (.Call (.Name x p) (e :: es) [] pos) (tCall sp dvs E t) := by
  intro pins s σ H Q I h
  refine wpAny_Call_Name_kw (ld_glob I hg hm ?_ hdb)
  refine PySem.W.callWith_K (h₀ := X.base) I.ok.mod.kin hk (thn (ha pos pins s σ H _ I h) fun us s1 ⟨vs, H1, I1, r, q⟩ => ⟨I1.kIn, ?_⟩) he hpl
  exact run_fn F hr hb hd hx I1 r q
end
/-- the values of the keywords, from the left -/
def PK (X : Cx) (kws : List Keyword) (t : TA) : Prop :=
  ∀ (pos : Pos) (pins : List (Addr × Obj)) (s : Shared) (σ : St) (H : Hp) (Q : List V → Hp → Prop), Inv X pins σ H s → t σ H Q → wpAny (model X.prog X.w) X.A (evalAll ((backToKw pos (keywordEach kws X.env)).map (·.2))) (AP X pins σ Q) X.xe s
section
variable {X : Cx} {CX : CXT} {k : Nat} {f C : Addr} {fd : FuncData} {ps ks : List Str} {sp : Sp} {E : XK} {x m : Str} {p pos apos kpos : Pos} {e o : Expr} {es : List Expr} {kws : List Keyword} {te ta : TE} {t tk : TA} {nm : Option Str}
theorem pk_nil : PK X [] tNil := fun _ _ _ _ H Q I h => wpAny_evalAll_nil ⟨[], H, I, .nil, h⟩
theorem pk_cons (ha : PE X e te) (hr : PK X kws t) : PK X (⟨nm, e, kpos⟩ :: kws) (tCons te t) := by
  intro pos pins s σ H Q I h
  show wpAny _ _ (evalAll ((do let v ← eval e X.env; standAt pos; pure v) :: (backToKw pos (keywordEach kws X.env)).map (·.2))) _ _ s
  refine wpAny_evalAll_cons (wpAny_bind (thn (ha pins s σ H _ I h) fun u s1 ⟨x, H1, I1, r1, q1⟩ => wpAny_bind (wpAny_standAt (wpAny_pure ?_))))
  exact thn (hr pos pins s1 σ H1 _ I1 q1) fun us s2 ⟨xs, H2, I2, r2, q2⟩ => ⟨x :: xs, H2, I2, .cons r1 r2, q2⟩
variable {g : List Value → List Value → List Value} {gV : List V → List V → List V}
end
/-- names: the parameters first -/
structure FnScope (N P : List Str) (sc : Scope) : Prop where
  kind : sc.kind = .function
  co : sc.isCoroutine = false
  gen : sc.isGenerator = false
  nd : N.Nodup
  pre : N.take P.length = P
  par : ∀ x ∈ P, sc.names.lookup x = some .local ∨ sc.names.lookup x = some .cell
  nofree : ∀ y ∈ sc.names, y.2 ≠ .free
theorem bindL_out {kindOf : Str → Option NameKind} {x : Str} : ∀ {binds : List (Str × Value)} {m : Str → Option Value}, (∀ v, (x, v) ∉ binds) → bindL kindOf binds m x = m x
  | [], _, _ => rfl
  | (n, v) :: r, m, h => by
    unfold bindL
    rw [bindL_out fun w hw => h w (List.mem_cons_of_mem _ hw)]
    split
    · have : x ≠ n := by rintro rfl; exact h v List.mem_cons_self
      simp [this]
    · rfl
theorem bindC_out {kindOf : Str → Option NameKind} {x : Str} : ∀ {binds : List (Str × Value)} {m : Str → Option Value}, (∀ v, (x, v) ∉ binds) → bindC kindOf binds m x = m x
  | [], _, _ => rfl
  | (n, v) :: r, m, h => by
    unfold bindC
    rw [bindC_out fun w hw => h w (List.mem_cons_of_mem _ hw)]
    split
    · rfl
    · have : x ≠ n := by rintro rfl; exact h v List.mem_cons_self
      simp [this]
theorem bindL_get {kindOf : Str → Option NameKind} {x : Str} {v : Value} : ∀ {P : List Str} {vs : List Value} {i : Nat} {m : Str → Option Value}, P.Nodup → P[i]? = some x → vs[i]? = some v → kindOf x = some .local →
    bindL kindOf (P.zip vs) m x = some v
  | [], _, _, _, _, h, _, _ => by simp at h
  | _ :: _, [], _, _, _, _, h, _ => by simp at h
  | p :: P, w :: vs, 0, m, nd, h1, h2, hk => by
    simp at h1 h2; subst h1; subst h2
    show bindL kindOf ((p, w) :: P.zip vs) m p = _
    unfold bindL
    rw [bindL_out fun v hv => (List.nodup_cons.mp nd).1 (List.of_mem_zip hv).1, if_pos hk]
    simp
  | p :: P, w :: vs, i + 1, m, nd, h1, h2, hk => by
    show bindL kindOf ((p, w) :: P.zip vs) m x = _
    unfold bindL
    exact bindL_get (i := i) (List.nodup_cons.mp nd).2 (by simpa using h1) (by simpa using h2) hk
theorem bindC_get {kindOf : Str → Option NameKind} {x : Str} {v : Value} : ∀ {P : List Str} {vs : List Value} {i : Nat} {m : Str → Option Value}, P.Nodup → P[i]? = some x → vs[i]? = some v → kindOf x ≠ some .local →
    bindC kindOf (P.zip vs) m x = some v
  | [], _, _, _, _, h, _, _ => by simp at h
  | _ :: _, [], _, _, _, _, h, _ => by simp at h
  | p :: P, w :: vs, 0, m, nd, h1, h2, hk => by
    simp at h1 h2; subst h1; subst h2
    show bindC kindOf ((p, w) :: P.zip vs) m p = _
    unfold bindC
    rw [bindC_out fun v hv => (List.nodup_cons.mp nd).1 (List.of_mem_zip hv).1, if_neg hk]
    simp
  | p :: P, w :: vs, i + 1, m, nd, h1, h2, hk => by
    show bindC kindOf ((p, w) :: P.zip vs) m x = _
    unfold bindC
    exact bindC_get (i := i) (List.nodup_cons.mp nd).2 (by simpa using h1) (by simpa using h2) hk
/-- the names' values at the entry -/
def start (N : List Str) (vs : List V) : St := vs.map some ++ List.replicate (N.length - vs.length) none
/-- the context of a def's body, at its entry; an exception leaves the frame, then lies as CX says -/
def cxOf (CX : CXT) (P : Program) (w : World) (K : PySem.W.Frag) (mg : Str → Option Value) (base : Heap) (N : List Str) (qual : Str) (scope : Scope) (f : Addr) (cd : Value) (A : Around) (outer : List Env) (s : Shared) (H : Hp) (E : XK) : Cx where
  prog := P
  w := w
  K := K
  mg := mg
  base := base
  A := A.deeper (envOfC qual scope s.heap.objs.size f cd)
  N := N
  s_0 := s
  H_0 := H
  env := envOfC qual scope s.heap.objs.size f cd
  outer := outer
  stack := envOfC qual scope s.heap.objs.size f cd :: outer
  ex := []
  calm := true
  fn := fun _ => true
  pn := []
  xe := fun e s' => wpAny (model P w) (A.deeper (envOfC qual scope s.heap.objs.size f cd)) (leaving (envOfC qual scope s.heap.objs.size f cd) e) (fun _ s'' => CX outer H s E e s'') (fun e' s'' => CX outer H s E e' s'') s'
theorem cell_has {sc : Scope} {n : Nat} {x : Str} (h : sc.names.lookup x = some .cell) : ∃ c, (cellsFrom n sc.names []).lookup x = some c := by
  have q := PySem.W.cellsFrom_some sc.names n [] (.inl h)
  exact Option.isSome_iff_exists.mp q
theorem inv_start {CX : CXT} {P : Program} {w : World} {K : PySem.W.Frag} {mg : Str → Option Value} {base : Heap} {N ps : List Str} {qual : Str} {scope : Scope} {f : Addr} {cd : Value} {A : Around} {outer : List Env} {s s1 : Shared} {H : Hp} {E : XK} {us : List Value} {vs : List V}
    (S : FnScope N ps scope) (hd : A.handled = none) (e0 : Env0 P w K mg base A outer s H) (hl : vs.length = ps.length) (r : Vals vs us)
    (x : InCallC s s.heap.objs.size (bindL (envOfC qual scope s.heap.objs.size f cd).kindOf (ps.zip us) fun _ => none) (cellsFrom (s.heap.objs.size + 1) scope.names []) (bindC (envOfC qual scope s.heap.objs.size f cd).kindOf (ps.zip us) fun _ => none) s1) :
    Inv (cxOf CX P w K mg base N qual scope f cd A outer s H E) [] (start N vs) H s1 := by
  have hpl : ps.length ≤ N.length := by have := congrArg List.length S.pre; rw [List.length_take] at this; omega
  obtain ⟨h1, tk, rfl, hk⟩ := x.done
  have noA : ∀ b : Addr, b ∉ (cxOf CX P w K mg base N qual scope f cd A outer s H E).ex := fun b z => absurd (show b ∈ ([] : List Addr) from z) (by simp)
  refine ⟨⟨e0.mod, S.kind, rfl, rfl, Nat.le_refl _, fun y z c h1 h2 => ?_, fun y hy => ?_, fun y c _ h => ?_, fun _ => hd, Around.frames_deeper e0.frames, .inr ⟨rfl, rfl⟩, fun b z => absurd z (noA b), e0.bs, e0.bsz, fun b _ _ => noA b, fun b z => absurd z (noA b), e0.funs, e0.frf⟩,
    rfl, e0.bare, Un.kept hk, ⟨_, x.toInCall.ns, fun i y v h1 h2 h3 => ?_⟩, fun y c h => ⟨_, x.cell y c h⟩, e0.hok.fresh (Nat.le_refl _), fun y c h => ?_, fun p hp => absurd (show p ∈ ([] : List (Addr × Obj)) from hp) (by simp), e0.hok.kept hk, ?_⟩
  · exact name_of_addr x.apart (PySem.mem_of_lookup h1) (PySem.mem_of_lookup h2)
  · have hy : scope.names.lookup y = some .cell ∨ scope.names.lookup y = some .free := hy
    rcases hy with hy | hy
    · exact cell_has hy
    · exact absurd rfl (S.nofree _ (PySem.mem_of_lookup hy))
  · exact Nat.le_of_lt (x.above y c (PySem.mem_of_lookup h))
  · have hi : i < vs.length := by
      unfold start at h2
      by_cases hi : i < vs.length
      · exact hi
      · rw [List.getElem?_append_right (by simpa using hi)] at h2
        rw [List.getElem?_replicate] at h2
        split at h2 <;> cases h2
    have ha : vs[i]? = some v := by
      unfold start at h2
      rw [List.getElem?_append_left (by simpa using hi), List.getElem?_map] at h2
      cases e : vs[i]? with
      | none => rw [e] at h2; cases h2
      | some a => rw [e] at h2; cases h2; rfl
    obtain ⟨u, hu, rv⟩ := r.get ha
    have hp : ps[i]? = some y := by
      rw [← S.pre, List.getElem?_take_of_lt (by omega)]; exact h1
    have ndP : ps.Nodup := by rw [← S.pre]; exact S.nd.sublist (List.take_sublist _ _)
    refine ⟨u, rv, ?_⟩
    rcases S.par y (List.mem_of_getElem? hp) with k | k
    · exact .inl ⟨k, bindL_get ndP hp hu k⟩
    · obtain ⟨c, e⟩ := cell_has (n := s.heap.objs.size + 1) k
      refine .inr ⟨.inl k, c, e, ?_⟩
      have q := x.cell y c e
      rw [bindC_get ndP hp hu (by show scope.names.lookup y ≠ _; rw [k]; decide)] at q
      exact q
  · exact e0.hok.fresh (Nat.le_of_lt (x.above y c (PySem.mem_of_lookup h)))
  · unfold start
    show _ = N.length
    rw [List.length_append, List.length_map, List.length_replicate]
    omega
/-- THE RULE: a def (or a method) of the text, by its body. The body's reading t is chosen for each entry; it is run at the parameters' values -/
theorem fn_of {CX : CXT} {P : Program} {w : World} {K : PySem.W.Frag} {mg : Str → Option Value} {base : Heap} {k : Nat} {f : Addr} {name qual : Str} {params : Arguments} {body : List Stmt} {scope : Scope} {dV kV doc pm cdv ct oc : Value} {an od : Option Addr}
    {osl : Array (Option Value)} {N ps : List Str} {sp : Sp} (lk : K.lookup f = some ⟨oc, od, .func (PySem.W.fnOf name qual params body scope dV kV doc pm an cdv ct), osl⟩) (hcd : PySem.W.codeIn K cdv qual = true) (S : FnScope N ps scope)
    (len : ∀ vs H Q E, sp vs H Q E → vs.length = ps.length)
    (hbody : ∀ (A : Around) (outer : List Env) (s : Shared) (H : Hp) (vs : List V) (Q : VK) (E : XK), Room k (A.deeper (envOfC qual scope s.heap.objs.size f cdv)) → sp vs H Q E →
      ∃ t, PSs (cxOf CX P w K mg base N qual scope f cdv A outer s H E) body t ∧ t { nx := fun _ H' => Q .non H', rt := Q } (start N vs) H) :
    FnOk P w K mg base CX (k + 1) f (PySem.W.fnOf name qual params body scope dV kV doc pm an cdv ct) ps sp := by
  refine ⟨len, fun A outer s H args us vs Q E hr e0 hb r hsp => ?_⟩
  have hl := len _ _ _ _ hsp
  have KX : K.In s.heap := e0.mod.kin.keeps fun b o e => (e0.bs b o e).1
  have lim : s.heap.NoLimit := e0.mod.nolimit.keeps fun b o e => (e0.bs b o e).1
  have hkind : ∀ y ∈ ps.zip us, scope.names.lookup y.1 = some .local ∨ (scope.names.lookup y.1 = some .cell ∧ ((cellsFrom (s.heap.objs.size + 1) scope.names []).lookup y.1).isSome = true) := fun ⟨n, v⟩ hy => by
    rcases S.par n (List.of_mem_zip hy).1 with q | q
    · exact .inl q
    · exact .inr ⟨q, PySem.W.cellsFrom_some _ _ _ (.inl q)⟩
  refine codeAny_call_function hr.depth (KX _ _ lk) rfl S.co S.gen rfl (PySem.W.codeRec_of KX hcd) (hb _ _ _ _ ?_)
  refine wpAny_newFunctionEnv_cells S.kind hkind fun env he s1 x => ?_
  subst he
  refine ⟨lim.keeps x.toInCall.keep, codeAny_func ?_⟩
  obtain ⟨t, ht, hq⟩ := hbody A outer s H vs Q E (hr.deeper _) hsp
  have I : Inv (cxOf CX P w K mg base N qual scope f cdv A outer s H E) [] (start N vs) H s1 := inv_start S hr.hd e0 hl r x
  refine wpAny_mono (ht [] s1 (start N vs) H _ I hq) (fun fl s' hs => ?_) fun e s' hs => hs
  have fin : ∀ {σ' : St} {H' : Hp} {v : V} {u : Value}, Inv (cxOf CX P w K mg base N qual scope f cdv A outer s H E) [] σ' H' s' → RelV v u → Q v H' → CE outer P w H s Q u s' :=
    fun {σ' H' v u} J rv q => ⟨v, H', J.os, J.bare, J.base, J.hok, rv, q⟩
  cases fl with
  | ret u =>
    obtain ⟨v, σ', H', J, rv, q⟩ := hs
    exact fin J rv q
  | next =>
    obtain ⟨σ', H', J, q⟩ := hs
    exact fin (v := V.non) (u := Value.none) J rfl q
  | brk =>
    obtain ⟨_, _, _, q⟩ := hs
    exact False.elim q
  | cont =>
    obtain ⟨_, _, _, q⟩ := hs
    exact False.elim q
end L2
namespace L2
open PySem PySem.Spec PyProof.Rows
section
variable {X : Cx} {x : Str} {p pos : Pos} {e : Expr} {es : List Expr} {t : TA} {id T : String} {r : List V → Hp → VK → Prop}
def tCB (r : List V → Hp → VK → Prop) (t : TA) : TE := fun σ H Q => t σ H fun vs H1 => r vs H1 Q
/-- f(e, ..), f a built-in function -/
theorem pe_callB (hc : CallR X (.builtin id) r) (hg : Gl X x) (hm : X.mg x = none) (hv : bootBuiltins x = some (.builtin id)) (ha : PA X (e :: es) t) (hn : x ≠ "__name__" := by decide) (hdb : (x == ("__debug__" : Str)) = false := by decide)
    (he : starEach (e :: es) X.env = (false, eval e X.env) :: starEach es X.env := by rfl) (hpl : (backTo pos (starEach es X.env)).any (·.1) = false := by rfl) : PE X (.Call (.Name x p) (e :: es) [] pos) (tCB r t) := by
  intro pins s σ H Q I h
  refine wpAny_Call_Name_kw (ld_blt I hg hm hv ?_ hn hdb)
  exact PyProof.Rows.callWith_builtin1 (thn (ha pos pins s σ H _ I h) fun us s1 ⟨vs, H1, I1, r1, q1⟩ => hc pins s1 σ H1 vs us Q I1 r1 q1) he hpl
/-- T(e, ..), T a built-in type -/
theorem pe_callTy (hc : CallR X (.type T) r) (hg : Gl X x) (hm : X.mg x = none) (hv : bootBuiltins x = some (.type T)) (ha : PA X (e :: es) t) (hn : x ≠ "__name__" := by decide) (hdb : (x == ("__debug__" : Str)) = false := by decide)
    (he : starEach (e :: es) X.env = (false, eval e X.env) :: starEach es X.env := by rfl) (hpl : (backTo pos (starEach es X.env)).any (·.1) = false := by rfl) : PE X (.Call (.Name x p) (e :: es) [] pos) (tCB r t) := by
  intro pins s σ H Q I h
  refine wpAny_Call_Name_kw (ld_blt I hg hm hv ?_ hn hdb)
  exact PyProof.Rows.callWith_type1 (thn (ha pos pins s σ H _ I h) fun us s1 ⟨vs, H1, I1, r1, q1⟩ => hc pins s1 σ H1 vs us Q I1 r1 q1) he hpl
end
end L2
namespace HT
open PySem PyProof.Rows
section
open PySem.SeqAt
open PySem.AutoSeq1 (wpAny_loadPart')
open PySem.MeetsSeq PySem.MeetsSeq2 PySem.MeetsSeq3
end
section
variable {prog : Program} {w : World} {A : Around} {E : Value → Shared → Prop} {s : Shared}
/-- a slice's bound as a place among n (d where it is left out) -/
def sIx (n d : Nat) : Option Int → Nat
  | none => d
  | some v => if v < 0 then (v + (n : Int)).toNat else min v.toNat n
theorem sIx_none (n d : Nat) : sIx n d none = d := rfl
theorem sIx_nat (n d k : Nat) : sIx n d (some (k : Int)) = min k n := by
  show (if (k : Int) < 0 then ((k : Int) + (n : Int)).toNat else min (k : Int).toNat n) = min k n
  rw [if_neg (by omega), Int.toNat_natCast]
end
end HT
namespace L2
open PySem PySem.Spec PyProof.Rows
abbrev TO := St → Hp → (Option Int → Hp → Prop) → Prop
/-- a slice's part (left out, or an int) -/
def PO (X : Cx) (e : Option Expr) (t : TO) : Prop :=
  ∀ (pins : List (Addr × Obj)) (s : Shared) (σ : St) (H : Hp) (Q : Option Int → Hp → Prop), Inv X pins σ H s → t σ H Q →
    wpAny (model X.prog X.w) X.A (evalPart e X.env) (fun u s' => ∃ o H', Inv X pins σ H' s' ∧ IsPart u o ∧ Q o H') X.xe s
def tNoPart : TO := fun _ H Q => Q none H
def tPart (t : TE) : TO := fun σ H Q => t σ H fun x H1 => ∃ i, x = .int i ∧ Q (some i) H1
section
variable {X : Cx} {e : Expr} {te : TE} {lo hi : Option Expr} {tl th : TO} {pos p2 : Pos}
theorem po_none : PO X none tNoPart := by
  intro pins s σ H Q I h
  rw [evalPart_none]
  exact wpAny_pure ⟨none, H, I, .none, h⟩
theorem po_some (h : PE X e te) : PO X (some e) (tPart te) := by
  intro pins s σ H Q I hw
  rw [evalPart_some]
  refine thn (h pins s σ H _ I hw) fun u s1 ⟨x, H1, I1, r1, q1⟩ => ?_
  obtain ⟨i, rfl, q⟩ := q1
  obtain ⟨t, rfl⟩ := r1
  exact ⟨some i, H1, I1, .int i t, q⟩
/-- what a slice of a value is, by values: the slice object stands at sl -/
def SlR (X : Cx) (r : V → Option Int → Option Int → Hp → VK → Prop) : Prop :=
  ∀ (pins : List (Addr × Obj)) (s : Shared) (σ : St) (H : Hp) (x : V) (v vl vu : Value) (lo hi : Option Int) (sl : Addr) (Q : VK), Inv X pins σ H s → RelV x v → s.heap.IsSliceOf sl vl vu .none → IsPart vl lo → IsPart vu hi → r x lo hi H Q →
    ∃ T id, typeLookup (.type T) "__getitem__" = pure (some (.builtin id)) ∧ s.TypeIs v T ∧ wpAny (model X.prog X.w) X.A (getItem v (.ref sl)) (EP X pins σ Q) X.xe s
def tSl (r : V → Option Int → Option Int → Hp → VK → Prop) (te : TE) (tl th : TO) : TE := fun σ H Q => te σ H fun x H1 => tl σ H1 fun l H2 => th σ H2 fun u H3 => r x l u H3 Q
/-- a[lo:hi], any a -/
theorem pe_slice {r : V → Option Int → Option Int → Hp → VK → Prop} (hr : SlR X r) (he : PE X e te) (hl : PO X lo tl) (hu : PO X hi th) : PE X (.Subscript e (.Slice lo hi none p2) pos) (tSl r te tl th) := by
  intro pins s σ H Q I h
  refine Subscript_ (thn (he pins s σ H _ I h) fun v s1 ⟨x, H1, I1, r1, q1⟩ => ?_)
  refine wpAny_Slice (thn (hl pins s1 σ H1 _ I1 q1) fun vl s2 ⟨l, H2, I2, pl, q2⟩ => thn (hu pins s2 σ H2 _ I2 q2) fun vu s3 ⟨u, H3, I3, pu, q3⟩ => ?_)
  rw [evalPart_none]
  refine wpAny_pure ?_
  have I4 : Inv X pins σ H3 { s3 with heap := s3.heap.push { cls := .type "slice", data := .fields #[vl, vu, .none] } } := I3.kept (t' := s3.toks) fun b ob q => Heap.get?_push_of_some _ q
  obtain ⟨T, id, hT, ht, hg⟩ := hr pins { s3 with heap := s3.heap.push { cls := .type "slice", data := .fields #[vl, vu, .none] } } σ H3 x v vl vu l u s3.heap.objs.size Q I4 r1 (Heap.IsSliceOf.new ..) pl pu q3
  show wpAny (model X.prog X.w) X.A (subscriptTail e (.Slice lo hi none p2) v (.ref s3.heap.objs.size)) (EP X pins σ Q) X.xe { s3 with heap := s3.heap.push { cls := .type "slice", data := .fields #[vl, vu, .none] } }
  exact tail_any (ops := [.ref s3.heap.objs.size, v]) ht hT hg (by with_unfolding_all rfl)
/-- the items of xs[lo:hi] -/
def cutV (xs : List V) (lo hi : Option Int) : List V := (xs.drop (HT.sIx xs.length 0 lo)).take (HT.sIx xs.length xs.length hi - HT.sIx xs.length 0 lo)
theorem cutV_length (xs : List V) (lo hi : Option Int) : (cutV xs lo hi).length ≤ xs.length := by
  unfold cutV
  rw [List.length_take, List.length_drop]
  omega
end
end L2
namespace L2
open PySem PySem.Spec PyProof.Rows
/-- the place that an index of any sign means -/
def ixN (n : Nat) (i : Int) : Option Nat := if 0 ≤ i then (if i < n then some i.toNat else none) else if -(n : Int) ≤ i then some (i + n).toNat else none
def atI {α : Type} (xs : List α) (i : Int) : Option α := (ixN xs.length i).bind fun j => xs[j]?
theorem ixN_seq {n : Nat} {i : Int} {j : Nat} (h : ixN n i = some j) : seqIndex? i n = some j ∧ j < n ∧ -(n : Int) ≤ i ∧ i < n := by
  unfold ixN at h
  by_cases h0 : 0 ≤ i
  · rw [if_pos h0] at h
    by_cases h1 : i < n
    · rw [if_pos h1] at h
      have e : i.toNat = j := Option.some.inj h
      exact ⟨by rw [seqIndex_of h0 h1, e], by omega, by omega, h1⟩
    · rw [if_neg h1] at h; cases h
  · rw [if_neg h0] at h
    by_cases h1 : -(n : Int) ≤ i
    · rw [if_pos h1] at h
      have e : (i + n).toNat = j := Option.some.inj h
      exact ⟨by rw [seqIndex_neg (by omega) h1, e], by omega, h1, by omega⟩
    · rw [if_neg h1] at h; cases h
theorem atI_get {α : Type} {xs : List α} {i : Int} {v : α} (h : atI xs i = some v) : ∃ j, seqIndex? i xs.length = some j ∧ xs[j]? = some v ∧ j < xs.length ∧ -(xs.length : Int) ≤ i ∧ i < xs.length := by
  unfold atI at h
  cases e : ixN xs.length i with
  | none => rw [e] at h; cases h
  | some j =>
    rw [e] at h
    obtain ⟨h1, h2, h3, h4⟩ := ixN_seq e
    exact ⟨j, h1, h, h2, h3, h4⟩
theorem atI_nat {α : Type} {xs : List α} {j : Nat} {v : α} (h : xs[j]? = some v) : atI xs (j : Int) = some v := by
  have hj : j < xs.length := (List.getElem?_eq_some_iff.mp h).1
  have e : ixN xs.length (j : Int) = some j := by
    unfold ixN
    rw [if_pos (by omega), if_pos (by omega)]; simp
  unfold atI; rw [e]; exact h
theorem atI_last {α : Type} (xs : List α) (v : α) : atI (xs ++ [v]) (-1) = some v := by
  have hl : (xs ++ [v]).length = xs.length + 1 := by simp
  have e : ixN (xs ++ [v]).length (-1) = some xs.length := by
    unfold ixN
    rw [hl, if_neg (by decide), if_pos (by omega)]
    congr 1
    omega
  unfold atI
  rw [e]
  show (xs ++ [v])[xs.length]? = some v
  simp
/-- what stands as an index of a plain subscript -/
def PlainIx (b : Expr) : Prop := ∀ o i, subscripted b false o i = operate [o, i] (getItem o i)
/-- a subscript by values -/
def IxR (X : Cx) (r : R2) : Prop :=
  ∀ (value slice : Expr) (pins : List (Addr × Obj)) (s : Shared) (σ : St) (H : Hp) (x y : V) (v u : Value) (Q : VK), Inv X pins σ H s → RelV x v → RelV y u → r x y H Q →
    subscripted slice false v u = operate [v, u] (getItem v u) → wpAny (model X.prog X.w) X.A (subscriptTail value slice v u) (EP X pins σ Q) X.xe s
/-- a call of a builtin's method by values: the receiver, the arguments -/
def MtR (X : Cx) (id : String) (r : V → List V → Hp → VK → Prop) : Prop :=
  ∀ (pins : List (Addr × Obj)) (s : Shared) (σ : St) (H : Hp) (x : V) (xs : List V) (v : Value) (us : List Value) (Q : VK), Inv X pins σ H s → RelV x v → Vals xs us → r x xs H Q →
    wpAny (model X.prog X.w) X.A (call (.builtin id) (v :: us)) (EP X pins σ Q) X.xe s
section
variable {X : Cx} {a b : Expr} {ta tb : TE} {pos : Pos}
/-- a[b] -/
theorem pe_ix {r : R2} (hr : IxR X r) (ha : PE X a ta) (hb : PE X b tb) (hs : PlainIx b) : PE X (.Subscript a b pos) (tOp r ta tb) := by
  intro pins s σ H Q I h
  exact Subscript_ (binT ha hb I h fun v u s2 x y H2 I2 rx ry q => hr a b pins s2 σ H2 x y v u Q I2 rx ry q (hs _ _))
def rIxL (K : PySem.W.Frag) : R2 := fun x y H Q => ∃ p xs i v, x = .ref p ∧ y = .int i ∧ SqL K H p xs ∧ atI xs i = some v ∧ Q v H
def rIxT (K : PySem.W.Frag) : R2 := fun x y H Q => ∃ p xs i v, x = .ref p ∧ y = .int i ∧ SqT K H p xs ∧ atI xs i = some v ∧ Q v H
theorem ix_list : IxR X (rIxL X.K) := by
  intro value slice pins s σ H x y v u Q I rx ry h hs
  obtain ⟨p, xs, i, z, rfl, rfl, hq, he, q⟩ := h
  cases rx
  obtain ⟨t, rfl⟩ := ry
  obtain ⟨its, r, pl, hz⟩ := I.list hq
  obtain ⟨j, h1, h2, h3, h4, h5⟩ := atI_get he
  obtain ⟨w, ew, rw'⟩ := r.get h2
  have hl := r.length
  have hn := line63
  have fin : EP X pins σ Q w s := ⟨z, H, I, rw', q⟩
  by_cases h0 : 0 ≤ i
  · have hj : i.toNat = j := by
      rw [seqIndex_of h0 h5] at h1
      exact Option.some.inj h1
    exact item_listR pl.isList h0 (by omega) (by rw [hj]; simpa using ew) fin hs
  · have hj : (i + (its.toArray.size : Int)).toNat = j := by
      rw [seqIndex_neg (by omega) h4] at h1
      rw [List.size_toArray, ← hl]
      exact Option.some.inj h1
    exact subscriptTail_builtinR (x := w) pl.isList.typeIs slot_list_getitem.lookup
      (wpAny_getItem_list_neg (Q := fun r s' => r = w ∧ EP X pins σ Q r s') pl.isList (by omega) (by rw [List.size_toArray] <;> omega) (by omega) (by rw [hj]; simpa using ew) ⟨rfl, fin⟩) hs
theorem ix_tup : IxR X (rIxT X.K) := by
  intro value slice pins s σ H x y v u Q I rx ry h hs
  obtain ⟨p, xs, i, z, rfl, rfl, hq, he, q⟩ := h
  cases rx
  obtain ⟨t, rfl⟩ := ry
  obtain ⟨its, r, pl, hz⟩ := I.tuple hq
  obtain ⟨j, h1, h2, h3, h4, h5⟩ := atI_get he
  obtain ⟨w, ew, rw'⟩ := r.get h2
  have hl := r.length
  have hn := line63
  have fin : EP X pins σ Q w s := ⟨z, H, I, rw', q⟩
  exact subscriptTail_builtinR (x := w) pl.typeIs slot_tuple_getitem.lookup
    (getItem_tuple (j := j) (Q := fun r s' => r = w ∧ EP X pins σ Q r s') pl (by omega) (by omega) (by rw [List.size_toArray, ← hl]; exact h1) (by simpa using ew) ⟨rfl, fin⟩) hs
/-- the list's object behind a store -/
theorem mapSeq_set (its : List Value) (n j : Nat) (u : Value) : Obj.mapSeq (·.setIfInBounds j u) { cls := .type "list", data := .seq its.toArray n } = { cls := .type "list", data := .seq (its.set j u).toArray n } := by
  simp [Obj.mapSeq]
theorem Inv.lst {pins : List (Addr × Obj)} {σ : St} {H : Hp} {s : Shared} {p : Addr} {xs : List V} (I : Inv X pins σ H s) (h : H p = some (.lst xs)) :
    ∃ (its : List Value) (n : Nat), Vals xs its ∧ s.heap.get? p = some { cls := .type "list", data := .seq its.toArray n } ∧ xs.length ≤ sizeLine := by
  obtain ⟨z, its, n, r, e⟩ := I.hok p _ h
  exact ⟨its, n, r, e, z⟩
/-- the list at p is written by an update of its object -/
theorem Inv.lstUpd {pins : List (Addr × Obj)} {σ : St} {H : Hp} {s : Shared} {p : Addr} {xs ys : List V} {its its' : List Value} {n n' : Nat} {f : Obj → Obj} (I : Inv X pins σ H s) (h : H p = some (.lst xs))
    (ho : s.heap.get? p = some { cls := .type "list", data := .seq its.toArray n }) (hf : f { cls := .type "list", data := .seq its.toArray n } = { cls := .type "list", data := .seq its'.toArray n' }) (r : Vals ys its') (hz : ys.length ≤ sizeLine) (t : Nat) :
    Inv X pins σ (upd H p (.lst ys)) { s with heap := s.heap.update p f, toks := t } := by
  have e : (s.heap.update p f).get? p = some { cls := .type "list", data := .seq its'.toArray n' } := by
    rw [Heap.get?_update_self f ho (by rw [hf] <;> rfl), hf]
  refine I.write (x := p) (e := p) (by rw [h]; trivial) (.inl rfl) (fun b u hb q => (Heap.get?_update_other _ _ (Ne.symm hb)).trans q) ⟨_, e⟩ ?_
  exact ⟨hz, its', n', r, e⟩
def rSetL : V → V → V → Hp → (Hp → Prop) → Prop := fun o i v H Q => ∃ p xs k j, o = .ref p ∧ i = .int k ∧ H p = some (.lst xs) ∧ ixN xs.length k = some j ∧ Q (upd H p (.lst (xs.set j v)))
theorem set_list : PSet X rSetL := by
  intro pins s σ H o i v ov iv u Q I ro ri rv h
  obtain ⟨p, xs, k, j, rfl, rfl, hp, hj, q⟩ := h
  cases ro
  obtain ⟨t, rfl⟩ := ri
  obtain ⟨its, n, r, ho, hz⟩ := I.lst hp
  obtain ⟨h1, h2, h3, h4⟩ := ixN_seq hj
  have hl := r.length
  have hn := line63
  have I' : Inv X pins σ (upd H p (.lst (xs.set j v))) { s with heap := s.heap.update p (Obj.mapSeq (·.setIfInBounds j u)) } :=
    I.lstUpd hp ho (mapSeq_set its n j u) (r.set rv j) (by rw [List.length_set]; exact hz) s.toks
  by_cases h0 : 0 ≤ k
  · have hk : k.toNat = j := by
      rw [seqIndex_of h0 h4] at h1
      exact Option.some.inj h1
    exact PySem.W.ki_setAt ho h0 (by omega) (by rw [List.size_toArray, ← hl]; exact h4) (by rw [hk]; exact ⟨_, I', q⟩)
  · have hk : (k + (its.toArray.size : Int)).toNat = j := by
      rw [seqIndex_neg (by omega) h3] at h1
      rw [List.size_toArray, ← hl]
      exact Option.some.inj h1
    exact PySem.W.ki_setBack ho (by omega) (by rw [List.size_toArray, ← hl]; exact h3) (by omega) (by rw [hk]; exact ⟨_, I', q⟩)
theorem slice_bounds (lo hi : Option Int) (n : Nat) : (sliceBounds lo hi none n).1 = ((HT.sIx n 0 lo : Nat) : Int) ∧ (sliceBounds lo hi none n).2.1 = ((HT.sIx n n hi : Nat) : Int) ∧ (sliceBounds lo hi none n).2.2 = 1 := by
  refine ⟨?_, ?_, rfl⟩
  · cases lo with
    | none => simp [sliceBounds, HT.sIx]
    | some i =>
      simp only [sliceBounds, HT.sIx, Option.getD_none, show (1 : Int) > 0 by decide, if_true]
      by_cases h : i < 0
      · simp only [h, if_true] <;> omega
      · simp only [h, if_false] <;> omega
  · cases hi with
    | none => simp [sliceBounds, HT.sIx]
    | some i =>
      simp only [sliceBounds, HT.sIx, Option.getD_none, show (1 : Int) > 0 by decide, if_true]
      by_cases h : i < 0
      · simp only [h, if_true] <;> omega
      · simp only [h, if_false] <;> omega
theorem slicePick_cut (its : List Value) (lo hi : Option Int) : slicePick its.toArray lo hi none = ((its.drop (HT.sIx its.length 0 lo)).take (HT.sIx its.length its.length hi - HT.sIx its.length 0 lo)).toArray := by
  obtain ⟨h1, h2, h3⟩ := slice_bounds lo hi its.toArray.size
  unfold slicePick
  rw [h1, h2, h3]
  simp only [sliceRange_one, pick_run, List.size_toArray] <;> rfl
/-- xs[lo:hi] of a list: a new list -/
def rSlL (K : PySem.W.Frag) : V → Option Int → Option Int → Hp → VK → Prop := fun x lo hi H Q => ∃ a xs, x = .ref a ∧ SqL K H a xs ∧ ∀ p, H p = none → Q (.ref p) (upd H p (.lst (cutV xs lo hi)))
theorem sl_list : SlR X (rSlL X.K) := by
  intro pins s σ H x v vl vu lo hi sl Q I rx hs pl pu h
  obtain ⟨a, xs, rfl, hx, q⟩ := h
  cases rx
  obtain ⟨its, r, ht, hz⟩ := I.list hx
  have hlen := r.length
  refine ⟨"list", _, slot_list_getitem.lookup, ht.isList.typeIs, ?_⟩
  refine wpAny_getItem_list_slice ht.isList hs pl pu .none (by simp) ?_ (by rw [List.size_toArray] <;> omega)
  rw [slicePick_cut, ← hlen]
  refine ⟨.ref s.heap.objs.size, _, I.laid (t' := s.toks) (o := .lst (cutV xs lo hi)) (fun b ob q => Heap.get?_push_of_some _ q) (Nat.le_refl _) ?_, rfl, q _ (I.hok.fresh (Nat.le_refl _))⟩
  exact ⟨Nat.le_trans (cutV_length xs lo hi) hz, _, 0, (r.drop (HT.sIx xs.length 0 lo)).take (HT.sIx xs.length xs.length hi - HT.sIx xs.length 0 lo), Heap.get?_push_size _ rfl⟩
theorem call_len_seq : CallR X (.builtin "len") (fun xs H Q => ∃ p ys, xs = [.ref p] ∧ (SqL X.K H p ys ∨ SqT X.K H p ys) ∧ Q (.int ys.length) H) := by
  intro pins s σ H xs us Q I r h
  obtain ⟨p, ys, rfl, hq, q⟩ := h
  obtain ⟨u, rfl, rx⟩ := vals1 r
  cases rx
  have hn := line63
  rcases hq with hq | hq
  · obtain ⟨its, r', pl, hz⟩ := I.list hq
    have hlen := r'.length
    exact Calls.call_len_list pl.isList (by simp only [List.size_toArray] <;> omega) ⟨.int ys.length, H, I.tok _, ⟨s.toks + 1, by rw [List.size_toArray, hlen]⟩, q⟩
  · obtain ⟨its, r', pl, hz⟩ := I.tuple hq
    have hlen := r'.length
    exact len_tuple pl (by simp only [List.size_toArray] <;> omega) ⟨.int ys.length, H, I.tok _, ⟨s.toks + 1, by rw [List.size_toArray, hlen]⟩, q⟩
theorem call_list_of : CallR X (.type "list") (fun xs H Q => ∃ p ys, xs = [.ref p] ∧ (SqL X.K H p ys ∨ SqT X.K H p ys) ∧ ∀ l, H l = none → Q (.ref l) (upd H l (.lst ys))) := by
  intro pins s σ H xs us Q I r h
  obtain ⟨p, ys, rfl, hq, q⟩ := h
  obtain ⟨u, rfl, rx⟩ := vals1 r
  cases rx
  have fin : ∀ (its : List Value), Vals ys its → ys.length ≤ sizeLine → ∀ (h' : Heap) (c' : Nat), (∀ b o', s.heap.get? b = some o' → h'.get? b = some o') →
      h'.get? s.heap.objs.size = some { cls := .type "list", dict := none, data := .seq its.toArray c', slots := #[] } → EP X pins σ Q (.ref s.heap.objs.size) { s with heap := h' } := fun its r' hz h' c' kp e =>
    ⟨.ref s.heap.objs.size, _, I.laid (t' := s.toks) kp (Nat.le_refl _) (show ObjOk X.prog X.w _ h' _ (.lst ys) from ⟨hz, its, c', r', e⟩), rfl, q _ (I.hok.fresh (Nat.le_refl _))⟩
  rcases hq with hq | hq
  · obtain ⟨its, r', pl, hz⟩ := I.list hq
    have hlen := r'.length
    obtain ⟨o, ho, hc, n, hd⟩ := pl.isList
    exact call_list_seq p (.inl rfl) ho hc hd (fun h' c' kp e => fin its r' hz h' c' kp e) (by simp only [List.size_toArray] <;> omega)
  · obtain ⟨its, r', pl, hz⟩ := I.tuple hq
    have hlen := r'.length
    obtain ⟨o, ho, hc, n, hd⟩ := pl
    exact call_list_seq p (.inr rfl) ho hc hd (fun h' c' kp e => fin its r' hz h' c' kp e) (by simp only [List.size_toArray] <;> omega)
/-- the value is of that builtin type -/
def tyV (K : PySem.W.Frag) (T : String) (x : V) (H : Hp) : Prop := match x with
  | .str _ => T = "str"
  | .int _ => T = "int"
  | .ref p => (T = "list" ∧ ∃ xs, SqL K H p xs) ∨ (T = "tuple" ∧ ∃ o, K.lookup p = some o ∧ o.cls = .type "tuple" ∧ o.dict = none) ∨
      (T = "dict" ∧ ((∃ kvs, H p = some (.dK kvs)) ∨ ∃ kvs, H p = some (.dT kvs))) ∨ (T = "set" ∧ ∃ S n, H p = some (.set S n))
  | _ => False
theorem tyV_is {pins : List (Addr × Obj)} {σ : St} {H : Hp} {s : Shared} {T : String} {x : V} {v : Value} (I : Inv X pins σ H s) (r : RelV x v) (ty : tyV X.K T x H) :
    s.TypeIs v T ∧ ∀ a, v = .ref a → ∃ ob, s.heap.get? a = some ob ∧ ob.dict = none := by
  cases x with
  | str z =>
    obtain ⟨t, rfl⟩ := r
    cases (show T = "str" from ty)
    exact ⟨typeIs_str s z t, fun _ e => nomatch e⟩
  | int i =>
    obtain ⟨t, rfl⟩ := r
    cases (show T = "int" from ty)
    exact ⟨typeIs_int s i t, fun _ e => nomatch e⟩
  | ref p =>
    cases r
    rcases ty with ⟨rfl, xs, hq⟩ | ⟨rfl, o, hk, hc, hd⟩ | ⟨rfl, hk⟩ | ⟨rfl, S, n, hk⟩
    · obtain ⟨its, _, pl, _⟩ := I.list hq
      refine ⟨pl.isList.typeIs, fun a e => ?_⟩
      cases e
      obtain ⟨o, n, e, c, hd, _⟩ := pl
      exact ⟨o, e, hd⟩
    · refine ⟨⟨o, I.kIn p o hk, hc⟩, fun a e => ?_⟩
      cases e
      exact ⟨o, I.kIn _ o hk, hd⟩
    · have z : ∃ o, s.heap.get? p = some o ∧ o.ExactDict := by
        rcases hk with ⟨kvs, hk⟩ | ⟨kvs, hk⟩
        · obtain ⟨_, _, _, _, o, _, _, e, ex, _⟩ := I.hok p _ hk
          exact ⟨o, e, ex⟩
        · obtain ⟨_, _, _, _, o, _, _, e, ex, _⟩ := I.hok p _ hk
          exact ⟨o, e, ex⟩
      obtain ⟨o, e, ex⟩ := z
      refine ⟨⟨o, e, ex.1⟩, fun a e2 => ?_⟩
      cases e2
      exact ⟨o, e, ex.2.1⟩
    · obtain ⟨o, _, _, _, e, ex, _⟩ := I.hok p _ hk
      refine ⟨⟨o, e, ex.1⟩, fun a e2 => ?_⟩
      cases e2
      exact ⟨o, e, ex.2.1⟩
  | _ => exact False.elim ty
def tBM (K : PySem.W.Frag) (T : String) (r : V → List V → Hp → VK → Prop) (to : TE) (t : TA) : TE := fun σ H Q => to σ H fun x H1 => tyV K T x H1 ∧ t σ H1 fun xs H2 => r x xs H2 Q
variable {o e : Expr} {es : List Expr} {to : TE} {t : TA} {name : Str} {apos cpos : Pos} {T id : String} {r : V → List V → Hp → VK → Prop}
theorem pe_bm (pa : PlainAttrs T) (slot : Slot T name id) (hty : typeOf (.builtin id) = pure (.type "method_descriptor")) (hm : MtR X id r) (ho : PE X o to) (ha : PA X (e :: es) t)
    (hbase : attributeBase o name X.env (eval o X.env) = eval o X.env := by rfl)
    (hfew : ((backTo cpos (starEach (e :: es) X.env)).all (fun x => !x.1) && (backToKw cpos (keywordEach [] X.env)).all (fun x => x.1.isSome)
      && decide ((e :: es).length + ([] : List Keyword).length + (if ([] : List Keyword).isEmpty then 0 else 1) < 30)) = true := by rfl)
    (hline : (apos.endLine == cpos.line) = true := by rfl) (hs : starEach (e :: es) X.env = (false, eval e X.env) :: starEach es X.env := by rfl) (hplain : (backTo cpos (starEach es X.env)).any (·.1) = false := by rfl) :
    PE X (.Call (.Attribute o name apos) (e :: es) [] cpos) (tBM X.K T r to t) := by
  intro pins s σ H Q I h
  refine wpAny_Call_method_late hbase hfew hline rfl (thn (ho pins s σ H _ I h) fun v s1 ⟨x, H1, I1, r1, ty, q1⟩ => ?_)
  obtain ⟨h1, h2⟩ := tyV_is I1 r1 ty
  refine ⟨T, id, pa, slot, hty, h1, h2, ?_⟩
  have hA := ha cpos pins s1 σ H1 _ I1 q1
  rw [hs] at hA ⊢
  refine Calls.callWith_builtin (by show (false || (backTo cpos (starEach es X.env)).any (·.1)) = false; rw [hplain] <;> rfl) (Calls.evalArgs_plain ?_)
  exact thn hA fun us s2 ⟨vs, H2, I2, r2, q2⟩ => hm pins s2 σ H2 x vs v us Q I2 r1 r2 q2
/- xs.append(e), list.index on a module's tuple .. are MtR facts of 06m -/
end
end L2
namespace L2
open PySem PySem.Spec PyProof.Rows
def MtM (X : Cx) (id : String) (r : V → List V → Hp → VK → Prop) : Prop :=
  ∀ (pins : List (Addr × Obj)) (s : Shared) (σ : St) (H : Hp) (x : V) (xs : List V) (v : Value) (us : List Value) (Q : VK), Inv X pins σ H s → RelV x v → Vals xs us → r x xs H Q →
    wpAny (model X.prog X.w) X.A (call (.builtin id) (v :: us)) (EP X pins σ Q) X.xe s
theorem Vals.one : ∀ {x : V} {us : List Value}, Vals [x] us → ∃ u, us = [u] ∧ RelV x u
  | _, _, .cons r .nil => ⟨_, rfl, r⟩
theorem Vals.rep {xs : List V} {us : List Value} (h : Vals xs us) : ∀ k : Nat, Vals (List.replicate k xs).flatten (List.replicate k us).flatten
  | 0 => .nil
  | k + 1 => by
    rw [List.replicate_succ, List.replicate_succ, List.flatten_cons, List.flatten_cons]
    exact Vals.append h (Vals.rep h k)
theorem foldl_rep (its : List Value) : ∀ (k : Nat) (acc : List Value),
    List.foldl (fun x1 x2 => x1 ++ x2) acc.toArray (List.replicate k its.toArray) = (acc ++ (List.replicate k its).flatten).toArray
  | 0, acc => by simp
  | k + 1, acc => by
    have e : acc.toArray ++ its.toArray = (acc ++ its).toArray := by simp
    have e2 : (acc ++ its) ++ (List.replicate k its).flatten = acc ++ (List.replicate (k + 1) its).flatten := by
      rw [List.replicate_succ, List.flatten_cons, List.append_assoc]
    rw [← e2, ← foldl_rep its k (acc ++ its), ← e, List.replicate_succ, List.foldl_cons]
section
variable {X : Cx} {pins : List (Addr × Obj)} {σ : St} {H : Hp} {s : Shared} {l b : Addr} {xs ys zs : List V}
theorem Inv.lset {its its' : List Value} {n : Nat} {f : Array Value → Array Value} {t' : Nat} (I : Inv X pins σ H s) (hH : H l = some (.lst xs))
    (e : s.heap.get? l = some { cls := .type "list", data := .seq its.toArray n }) (hf : f its.toArray = its'.toArray) (hv : Vals ys its') (hz : ys.length ≤ sizeLine) :
    Inv X pins σ (upd H l (.lst ys)) { s with heap := s.heap.update l (Obj.mapSeq f), toks := t' } := by
  have q := PySem.IsL.update e f
  rw [hf] at q
  refine I.write (x := l) (e := l) (by rw [hH]; exact trivial) (.inl rfl) (fun b' u hb hu => (Heap.get?_update_other s.heap (Obj.mapSeq f) (Ne.symm hb)).trans hu) ⟨_, q⟩ ?_
  exact ⟨hz, its', _, hv, q⟩
theorem Inv.lnew {its : List Value} {t' : Nat} (I : Inv X pins σ H s) (hv : Vals ys its) (hz : ys.length ≤ sizeLine) :
    Inv X pins σ (upd H s.heap.objs.size (.lst ys)) { s with heap := s.heap.push { cls := .type "list", data := .seq its.toArray }, toks := t' } :=
  I.laid (fun _ _ q => Heap.get?_push_of_some _ q) (Nat.le_refl _) ⟨hz, its, 0, hv, Heap.get?_push_size _ rfl⟩
theorem Inv.fresh (I : Inv X pins σ H s) : H s.heap.objs.size = none := I.hok.fresh (Nat.le_refl _)
theorem Inv.lstM (I : Inv X pins σ H s) (hH : H l = some (.lst xs)) : xs.length ≤ sizeLine ∧ ∃ (its : List Value) (n : Nat), Vals xs its ∧ xs.length = its.length ∧ s.heap.get? l = some { cls := .type "list", data := .seq its.toArray n } := by
  obtain ⟨z, its, n, r, e⟩ := I.hok l _ hH
  exact ⟨z, its, n, r, r.length, e⟩
theorem notLongL {n : Nat} (h : n ≤ sizeLine) : Builtin.List.listTooLong n = false := by
  unfold Builtin.List.listTooLong
  exact decide_eq_false (by omega)
end
section
variable {X : Cx}
def rAppend : V → List V → Hp → VK → Prop := fun x vs H Q => ∃ l xs y, x = .ref l ∧ vs = [y] ∧ H l = some (.lst xs) ∧ xs.length < sizeLine ∧ Q .non (upd H l (.lst (xs ++ [y])))
theorem mt_append : MtM X "list.append" rAppend := by
  intro pins s σ H x vs v us Q I rx rv h
  obtain ⟨l, xs, y, rfl, rfl, hH, hz, q⟩ := h
  cases rx
  obtain ⟨u, rfl, ru⟩ := rv.one
  obtain ⟨z, its, n, r, hl, e⟩ := I.lstM hH
  refine call_meets F.slot_list_append ⟨_, e, rfl⟩ F.entry_list_append (F.args_list_append_2 _ _) (PySem.list_append l its.toArray n u (by rw [List.size_toArray]; omega)) ⟨e, ?_⟩
  refine ⟨.non, _, I.lset (its' := its ++ [u]) hH e (by simp) (r.append (.cons ru .nil)) ?_, rfl, q⟩
  rw [List.length_append, List.length_singleton]
  omega
def rExtend : V → List V → Hp → VK → Prop := fun x vs H Q => ∃ l b xs zs, x = .ref l ∧ vs = [.ref b] ∧ H l = some (.lst xs) ∧ H b = some (.lst zs) ∧ xs.length + zs.length ≤ sizeLine ∧ Q .non (upd H l (.lst (xs ++ zs)))
theorem mt_extend : MtM X "list.extend" rExtend := by
  intro pins s σ H x vs v us Q I rx rv h
  obtain ⟨l, b, xs, zs, rfl, rfl, hH, hB, hz, q⟩ := h
  cases rx
  obtain ⟨u, rfl, ru⟩ := rv.one
  cases ru
  obtain ⟨z, its, n, r, hl, e⟩ := I.lstM hH
  obtain ⟨z2, its2, n2, r2, hl2, e2⟩ := I.lstM hB
  have hsz : its.toArray.size + its2.toArray.size ≤ sizeLine := by rw [List.size_toArray, List.size_toArray]; omega
  have hlong : ¬ (!its.toArray.isEmpty && Builtin.List.listTooLong (its.toArray.size + its2.toArray.size)) = true := by
    rw [notLongL hsz, Bool.and_false]
    exact Bool.false_ne_true
  refine call_meets F.slot_list_extend ⟨_, e, rfl⟩ F.entry_list_extend (F.args_list_extend_2 _ _)
    (AutoSeq1.list_extend_list_list_0 l its.toArray n b its2.toArray n2 hlong (by rw [List.size_toArray]; omega) (by omega)) ⟨e, e2, ?_⟩
  refine ⟨.non, _, I.lset (its' := its ++ its2) hH e (by simp) (r.append r2) ?_, rfl, q⟩
  rw [List.length_append]
  omega
def rCat : R2 := fun x y H Q => ∃ l b xs zs, x = .ref l ∧ y = .ref b ∧ H l = some (.lst xs) ∧ H b = some (.lst zs) ∧ xs.length + zs.length ≤ sizeLine ∧ ∀ p, H p = none → Q (.ref p) (upd H p (.lst (xs ++ zs)))
theorem op_cat : OpR X (binaryOp .Add) rCat := by
  intro pins s σ H x y v u Q I rx ry h
  obtain ⟨l, b, xs, zs, rfl, rfl, hH, hB, hz, q⟩ := h
  cases rx
  cases ry
  obtain ⟨z, its, n, r, hl, e⟩ := I.lstM hH
  obtain ⟨z2, its2, n2, r2, hl2, e2⟩ := I.lstM hB
  refine PySem.P.add_list e e2 ?_ (by rw [List.size_toArray, List.size_toArray]; omega)
  have ea : its.toArray ++ its2.toArray = (its ++ its2).toArray := by simp
  rw [ea]
  exact ⟨.ref _, _, I.lnew (t' := s.toks) (r.append r2) (by rw [List.length_append]; omega), rfl, q _ I.fresh⟩
/-- a list times an int (a negative one is nothing) -/
def rRep : R2 := fun x y H Q => ∃ l k xs, x = .ref l ∧ y = .int k ∧ H l = some (.lst xs) ∧ -(2 ^ 63) ≤ k ∧ k < 2 ^ 63 ∧ xs.length * k.toNat ≤ sizeLine ∧
  ∀ p, H p = none → Q (.ref p) (upd H p (.lst (List.replicate k.toNat xs).flatten))
theorem len_rep {α : Type} (xs : List α) (k : Nat) : (List.replicate k xs).flatten.length = k * xs.length := by
  induction k with
  | zero => simp
  | succ k ih => rw [List.replicate_succ, List.flatten_cons, List.length_append, ih, Nat.succ_mul, Nat.add_comm]
theorem op_rep : OpR X (binaryOp .Mult) rRep := by
  intro pins s σ H x y v u Q I rx ry h
  obtain ⟨l, k, xs, rfl, rfl, hH, h1, h2, hz, q⟩ := h
  cases rx
  obtain ⟨t, rfl⟩ := ry
  obtain ⟨z, its, n, r, hl, e⟩ := I.lstM hH
  have hlen : its.toArray.size * k.toNat ≤ sizeLine := by rw [List.size_toArray, ← hl]; exact hz
  have hcap : ¬ its.toArray.size * k.toNat > (2 ^ 63 - 1) / 8 := by
    have : (sizeLine : Nat) ≤ (2 ^ 63 - 1) / 8 := by decide
    omega
  have hfit : ¬ (!Builtin.List.listFitsIndex k) = true := by
    rw [fitsIndex_both h1 h2]
    exact Bool.false_ne_true
  have hlong : ¬ Builtin.List.listTooLong (its.toArray.size * k.toNat) = true := by
    rw [notLongL hlen]
    exact Bool.false_ne_true
  have hnew : List.foldl (fun x1 x2 => x1 ++ x2) #[] (List.replicate (if its.toArray.isEmpty = true then 0 else k.toNat) its.toArray) = (List.replicate k.toNat its).flatten.toArray := by
    have f0 : ∀ m : Nat, List.foldl (fun x1 x2 => x1 ++ x2) #[] (List.replicate m its.toArray) = (List.replicate m its).flatten.toArray := fun m => by
      have := foldl_rep its m []
      rw [List.nil_append] at this
      exact this
    rw [f0]
    cases its with
    | nil => simp
    | cons a r' => rw [if_neg (by simp)]
  refine wpAny_binaryOp_repeat_ref (T := "list") (U := "int") (by decide) ⟨_, e, rfl⟩ (fun s' => typeIs_int s' k t) noFill_list_mul F.fills_int_mul F.slot_int_rmul repeat_list F.slot_int_index.lookup
    (call_meets F.slot_int_rmul (typeIs_int s k t) F.entry_int_rmul (F.args_int_rmul_2 _ _) (int___rmul___int_list k t l its.toArray n)
      ⟨e, rfl, ⟨_, e, rfl⟩, call_meets F.slot_list_mul ⟨_, e, rfl⟩ F.entry_list_mul (F.args_list_mul_2 _ _) (AutoListH.list___mul___list_int_3 l its.toArray n k t hfit hcap hlong) ⟨e, ?_⟩⟩)
  rw [hnew]
  exact ⟨.ref _, _, I.lnew (t' := s.toks) (r.rep k.toNat) (by rw [len_rep, Nat.mul_comm]; exact hz), rfl, q _ I.fresh⟩
end
section
variable {prog : Program} {w : World} {A : Around} {E : Value → Shared → Prop} {s : Shared}
end
section
variable {X : Cx}
end
end L2
namespace L2
open PySem PySem.Spec PyProof.Rows
theorem Vals.ints : ∀ {ns : List Int} {us : List Value}, Vals (ns.map V.int) us → IntsAre us ns
  | [], us, h => by
    rw [List.map_nil] at h
    cases h
    exact IntsAre.nil
  | n :: ns, us, h => by
    rw [List.map_cons] at h
    cases h with
    | cons r t =>
      obtain ⟨k, rfl⟩ := r
      exact IntsAre.cons n k (Vals.ints t)
theorem Vals.bls : ∀ {bs : List Bool} {us : List Value}, Vals (bs.map V.bl) us → us = bs.map Value.bool
  | [], us, h => by
    rw [List.map_nil] at h
    cases h
    rfl
  | b :: bs, us, h => by
    rw [List.map_cons] at h
    cases h with
    | cons r t =>
      cases r
      rw [Vals.bls t, List.map_cons]
theorem Vals.ref1 {a : Addr} {us : List Value} (r : Vals [V.ref a] us) : us = [Value.ref a] := by
  cases r with
  | cons r t =>
    cases t
    cases r
    rfl
section
variable {prog : Program} {w : World} {A : Around} {E : Value → Shared → Prop} {s : Shared} {l : Addr} {its : List Value} {ns : List Int} {Q : Value → Shared → Prop}
theorem sum_raw (hh : A.handled = none) (hl : s.heap.IsList l its.toArray) (hi : IntsAre its ns)
    (h : ∀ h' tk t', (∀ b o, s.heap.get? b = some o → h'.get? b = some o) → Q (.int ns.sum t') { s with heap := h', toks := tk }) : wpAny (model prog w) A (call (.builtin "sum") [.ref l]) Q E s := by
  obtain ⟨xs, e⟩ := hi.allInts.items
  have hn : numsOf (intItems xs).toList = ns := by rw [← e]; exact hi.numsOf
  rw [nums_intItems] at hn
  rw [e] at hl
  refine PySem.sum_intListG hh hl fun h' tk t' hk => ?_
  have := h h' tk t' hk
  rw [preSum_eq, List.take_of_length_le (by simp), hn]; exact this
theorem max_raw (hh : A.handled = none) (hl : s.heap.IsList l its.toArray) (hi : IntsAre its ns) (hne : 0 < ns.length)
    (h : ∀ h' tk M t', (∀ b o, s.heap.get? b = some o → h'.get? b = some o) → M ∈ ns → (∀ a, a ∈ ns → a ≤ M) → Q (.int M t') { s with heap := h', toks := tk }) : wpAny (model prog w) A (call (.builtin "max") [.ref l]) Q E s := by
  obtain ⟨xs, e⟩ := hi.allInts.items
  have hn : numsOf (intItems xs).toList = ns := by rw [← e]; exact hi.numsOf
  rw [nums_intItems] at hn
  subst hn
  rw [e] at hl
  have hsz : 0 < xs.size := by simpa using hne
  refine PySem.max_intList hh hl hsz fun v h' tk hv hk => ?_
  obtain ⟨t, rfl⟩ := intItems_at hv
  obtain ⟨h1, h2⟩ := argBest_gt (numAt xs) (xs.size - 1)
  refine h h' tk _ t hk ?_ fun a ha => ?_
  · rw [numAt_eq]; exact PySem.getD_mem (by rw [List.length_map, Array.length_toList]; omega)
  · obtain ⟨j, hj, rfl⟩ := mem_getD ha
    rw [List.length_map, Array.length_toList] at hj
    rw [← numAt_eq]; exact h2 j (by omega)
theorem min_raw (hh : A.handled = none) (hl : s.heap.IsList l its.toArray) (hi : IntsAre its ns) (hne : 0 < ns.length)
    (h : ∀ h' tk M t', (∀ b o, s.heap.get? b = some o → h'.get? b = some o) → M ∈ ns → (∀ a, a ∈ ns → M ≤ a) → Q (.int M t') { s with heap := h', toks := tk }) : wpAny (model prog w) A (call (.builtin "min") [.ref l]) Q E s := by
  obtain ⟨xs, e⟩ := hi.allInts.items
  have hn : numsOf (intItems xs).toList = ns := by rw [← e]; exact hi.numsOf
  rw [nums_intItems] at hn
  subst hn
  rw [e] at hl
  have hsz : 0 < xs.size := by simpa using hne
  refine PySem.min_intList hh hl hsz fun v h' tk hv hk => ?_
  obtain ⟨t, rfl⟩ := intItems_at hv
  obtain ⟨h1, h2⟩ := argBest_lt (numAt xs) (xs.size - 1)
  refine h h' tk _ t hk ?_ fun a ha => ?_
  · rw [numAt_eq]; exact PySem.getD_mem (by rw [List.length_map, Array.length_toList]; omega)
  · obtain ⟨j, hj, rfl⟩ := mem_getD ha
    rw [List.length_map, Array.length_toList] at hj
    rw [← numAt_eq]; exact h2 j (by omega)
end
section
variable {X : Cx}
/-- sum(xs) of a list of ints -/
def rSum (K : PySem.W.Frag) : List V → Hp → VK → Prop := fun vs H Q => ∃ (a : Addr) (ns : List Int), vs = [V.ref a] ∧ SqL K H a (ns.map V.int) ∧ Q (.int ns.sum) H
/-- max(xs), min(xs) of a list of ints -/
def rMax (K : PySem.W.Frag) : List V → Hp → VK → Prop := fun vs H Q => ∃ (a : Addr) (ns : List Int), vs = [V.ref a] ∧ SqL K H a (ns.map V.int) ∧ 0 < ns.length ∧ ∀ m, m ∈ ns → (∀ y, y ∈ ns → y ≤ m) → Q (.int m) H
def rMin (K : PySem.W.Frag) : List V → Hp → VK → Prop := fun vs H Q => ∃ (a : Addr) (ns : List Int), vs = [V.ref a] ∧ SqL K H a (ns.map V.int) ∧ 0 < ns.length ∧ ∀ m, m ∈ ns → (∀ y, y ∈ ns → m ≤ y) → Q (.int m) H
theorem cr_sum (hc : X.calm = true) : CallR X (.builtin "sum") (rSum X.K) := by
  intro pins s σ H vs us Q I r h
  obtain ⟨a, ns, rfl, hs, q⟩ := h
  obtain ⟨its, rv, hl, _⟩ := I.list hs
  rw [Vals.ref1 r]
  exact sum_raw (I.ok.hd hc) hl.isList rv.ints fun h' tk t' hk => ⟨.int _, H, I.kept hk, ⟨_, rfl⟩, q⟩
theorem cr_max (hc : X.calm = true) : CallR X (.builtin "max") (rMax X.K) := by
  intro pins s σ H vs us Q I r h
  obtain ⟨a, ns, rfl, hs, hne, q⟩ := h
  obtain ⟨its, rv, hl, _⟩ := I.list hs
  rw [Vals.ref1 r]
  exact max_raw (I.ok.hd hc) hl.isList rv.ints hne fun h' tk m t' hk h1 h2 => ⟨.int _, H, I.kept hk, ⟨_, rfl⟩, q m h1 h2⟩
theorem cr_min (hc : X.calm = true) : CallR X (.builtin "min") (rMin X.K) := by
  intro pins s σ H vs us Q I r h
  obtain ⟨a, ns, rfl, hs, hne, q⟩ := h
  obtain ⟨its, rv, hl, _⟩ := I.list hs
  rw [Vals.ref1 r]
  exact min_raw (I.ok.hd hc) hl.isList rv.ints hne fun h' tk m t' hk h1 h2 => ⟨.int _, H, I.kept hk, ⟨_, rfl⟩, q m h1 h2⟩
end
section
variable {X : Cx}
end
section
variable {X : Cx}
end
theorem iter_any {prog : Program} {w : World} {A : Around} {E : Value → Shared → Prop} {s : Shared} {l : Addr} {items : Array Value} {Q : Value → Shared → Prop} (hl : s.heap.IsList l items)
    (h : ∀ s₂ : Shared, s₂ = { s with heap := s.heap.push { cls := .type "list_iterator", data := .fields #[.ref l, .int 0 0] } } →
      (s₂.heap.IsListIter s.heap.objs.size l 0 ∧ s₂.heap.IsList l items) → l ≠ s.heap.objs.size → Q (.ref s.heap.objs.size) s₂) : wpAny (model prog w) A (pyIter (.ref l)) Q E s := by
  have hlt : l < s.heap.objs.size := by obtain ⟨_, e, _⟩ := hl; exact Heap.lt_size e
  exact wpAny_pyIter_list hl (h _ rfl ⟨⟨_, Heap.get?_push_size _ rfl, rfl, rfl⟩, hl.push _⟩ (Nat.ne_of_lt hlt))
theorem truth_bools {prog : Program} {w : World} {A : Around} {bs : List Bool} {its : List Value} (e : its = bs.map Value.bool) :
    TruthOf prog w A (fun i v => its.toArray[i]? = some v) (fun i => bs.getD i false) := fun i v s Q E hv hq => by
  have hv' : its[i]? = some v := by simpa using hv
  rw [e, List.getElem?_map] at hv'
  obtain ⟨b, hb, rfl⟩ := Option.map_eq_some_iff.mp hv'
  have hg : bs.getD i false = b := by rw [List.getD_eq_getElem?_getD, hb] <;> rfl
  have hq' : Q (bs.getD i false) s := hq
  rw [hg] at hq'
  exact wpAny_truthy_bool hq'
theorem any_range : ∀ bs : List Bool, (List.range bs.length).any (fun i => bs.getD i false) = bs.any id
  | [] => rfl
  | b :: bs => by
    rw [List.length_cons, List.range_succ_eq_map, List.any_cons, List.any_map, List.any_cons, ← any_range bs]
    all_goals rfl
section
variable {X : Cx}
def rAny (K : PySem.W.Frag) : List V → Hp → VK → Prop := fun vs H Q => ∃ (a : Addr) (bs : List Bool), vs = [V.ref a] ∧ SqL K H a (bs.map V.bl) ∧ Q (.bl (bs.any id)) H
theorem cr_any (hc : X.calm = true) : CallR X (.builtin "any") (rAny X.K) := by
  intro pins s σ H vs us Q I r h
  obtain ⟨a, bs, rfl, hs, q⟩ := h
  obtain ⟨its, rv, hl, _⟩ := I.list hs
  rw [Vals.ref1 r]
  have hb := rv.bls
  refine call_any_walk (iter_any hl.isList fun s₂ e2 st hne => ?_)
  subst e2
  refine ⟨_, _, _, _, _, _, _, rfl, Walks.list (A := X.A.in1) (I.ok.hd hc) _ a hne its.toArray, st, truth_bools hb, fun h' tk hk => ?_⟩
  refine ⟨.bl _, H, I.kept fun b o eo => hk b o (fun hmem => ?_) (Heap.get?_push_of_some _ eo), ?_, q⟩
  · rcases List.mem_cons.mp hmem with e1 | hmem
    · exact absurd (e1 ▸ Heap.lt_size eo) (Nat.lt_irrefl _)
    · cases hmem
  · show Value.bool _ = Value.bool _
    rw [← any_range, hb, List.size_toArray, List.length_map]
end
mutual
inductive Dp (K : PySem.W.Frag) (H : Hp) : V → PyData → Prop
  | non : Dp K H .non .none
  | bl (b : Bool) : Dp K H (.bl b) (.bool b)
  | int (i : Int) : Dp K H (.int i) (.int i)
  | str (x : Str) : Dp K H (.str x) (.str x)
  | lst {a : Addr} {xs : List V} {ds : List PyData} : SqL K H a xs → DpAll K H xs ds → Dp K H (.ref a) (.list ds)
  | tup {a : Addr} {xs : List V} {ds : List PyData} : SqT K H a xs → DpAll K H xs ds → Dp K H (.ref a) (.tuple ds)
inductive DpAll (K : PySem.W.Frag) (H : Hp) : List V → List PyData → Prop
  | nil : DpAll K H [] []
  | cons {v : V} {vs : List V} {d : PyData} {ds : List PyData} : Dp K H v d → DpAll K H vs ds → DpAll K H (v :: vs) (d :: ds)
end
section
variable {X : Cx} {pins : List (Addr × Obj)} {σ : St} {H : Hp} {s : Shared}
mutual
theorem Dp.reads (I : Inv X pins σ H s) : ∀ (d : PyData) (v : V) (u : Value), Dp X.K H v d → RelV v u → ∃ as, Reads s.heap u d as
  | .none, _, _, h, r => by
    cases h
    cases r
    exact ⟨_, Reads.none⟩
  | .bool b, _, _, h, r => by
    cases h
    cases r
    exact ⟨_, Reads.bool b⟩
  | .int i, _, _, h, r => by
    cases h
    obtain ⟨t, rfl⟩ := r
    exact ⟨_, Reads.int i t⟩
  | .str x, _, _, h, r => by
    cases h
    obtain ⟨t, rfl⟩ := r
    exact ⟨_, Reads.str x t⟩
  | .list ds, _, _, h, r => by
    cases h with
    | lst hs ha =>
      cases r
      obtain ⟨its, rv, ⟨o, n, ho, hc, _, hd⟩, _⟩ := I.list hs
      obtain ⟨as, hr⟩ := Dp.readsAll I ds _ its ha rv
      exact ⟨_, Reads.list ho hc hd hr⟩
  | .tuple ds, _, _, h, r => by
    cases h with
    | tup hs ha =>
      cases r
      obtain ⟨its, rv, ⟨o, ho, hc, n, hd⟩, _⟩ := I.tuple hs
      obtain ⟨as, hr⟩ := Dp.readsAll I ds _ its ha rv
      exact ⟨_, Reads.tuple ho hc hd hr⟩
  | .dict _, _, _, h, _ => by cases h
theorem Dp.readsAll (I : Inv X pins σ H s) : ∀ (ds : List PyData) (vs : List V) (us : List Value), DpAll X.K H vs ds → Vals vs us → ∃ as, ReadsAll s.heap us ds as
  | [], _, _, h, r => by
    cases h
    cases r
    exact ⟨_, ReadsAll.nil⟩
  | d :: ds, _, _, h, r => by
    cases h with
    | cons h1 h2 =>
      cases r with
      | cons r1 r2 =>
        obtain ⟨as, q1⟩ := Dp.reads I d _ _ h1 r1
        obtain ⟨bs, q2⟩ := Dp.readsAll I ds _ _ h2 r2
        exact ⟨_, ReadsAll.cons q1 q2⟩
end
end
section
variable {X : Cx}
def rEqD (K : PySem.W.Frag) : R2 := fun x y H Q => ∃ d e, Dp K H x d ∧ Dp K H y e ∧ SeqAt.shaped d = true ∧ SeqAt.shaped e = true ∧ Q (.bl (PyData.eqv d e)) H
theorem op_eqD (hu : X.A.units + 64 < cLine) : OpR X (compareOp .Eq) (rEqD X.K) := by
  intro pins s σ H x y v u Q I rx ry h
  obtain ⟨d, e, hd, he, sd, se, q⟩ := h
  obtain ⟨as, r1⟩ := Dp.reads I d x v hd rx
  obtain ⟨bs, r2⟩ := Dp.reads I e y u he ry
  exact SeqAt.compareEq_shaped r1 r2 sd se hu ⟨.bl _, H, I, rfl, q⟩
end
end L2
namespace L2
open PySem PySem.Spec PyProof.Rows
abbrev CellAt (h : Heap) (c : Addr) (v : Option Value) : Prop := h.IsCell c v
def relS (scope sc : Scope) : Scope :=
  { scope with names := scope.names.map fun (n, k) => if (k == .free && sc.kind == .function && sc.names.lookup n == some .cell) then (n, .cell) else (n, k) }
def cloFrom (cells : List (Str × Addr)) : List (Str × NameKind) → List (Str × Addr) → List (Str × Addr)
  | [], acc => acc
  | (n, k) :: r, acc => if k == .free then cloFrom cells r ((n, (cells.lookup n).getD 0) :: acc) else cloFrom cells r acc
theorem closure_loop (env : Env) (f : Str × NameKind → List (Str × Addr) → Sem (ForInStep (List (Str × Addr))))
    (hf : ∀ n k c, f (n, k) c = if k == .free then (do let a ← cellOf env n; pure (.yield ((n, a) :: c))) else pure (.yield c)) :
    ∀ (names : List (Str × NameKind)) (acc : List (Str × Addr)), (∀ y ∈ names, y.2 = .free → ∃ c, env.cells.lookup y.1 = some c) → forIn names acc f = pure (cloFrom env.cells names acc)
  | [], acc, _ => by rw [List.forIn_nil]; rfl
  | (n, k) :: r, acc, h => by
    rw [List.forIn_cons, hf]
    have ih := fun acc => closure_loop env f hf r acc fun y hy => h y (List.mem_cons_of_mem _ hy)
    unfold cloFrom
    by_cases hk : (k == NameKind.free) = true
    · rw [if_pos hk, if_pos hk]
      obtain ⟨c, hc⟩ := h (n, k) List.mem_cons_self (by simpa using hk)
      have e : cellOf env n = pure c := by unfold cellOf; rw [hc]
      rw [e]
      have e2 : (env.cells.lookup n).getD 0 = c := by rw [hc]; rfl
      rw [e2]
      exact ih _
    · rw [if_neg hk, if_neg hk]
      exact ih _
theorem closure_ok {scope : Scope} {env : Env} (h : ∀ y ∈ scope.names, y.2 = .free → ∃ c, env.cells.lookup y.1 = some c) : closureFor scope env = pure (cloFrom env.cells scope.names []) := by
  simp only [closureFor]
  rw [closure_loop env _ (fun n k c => rfl) scope.names [] h]
  rfl
theorem mem_lookup {α : Type} : ∀ {l : List (Str × α)} {n : Str} {c : α}, (n, c) ∈ l → ∃ c', l.lookup n = some c'
  | (k, v) :: r, n, c, h => by
    rw [List.lookup_cons]
    cases hb : n == k with
    | true => exact ⟨_, rfl⟩
    | false =>
      rcases List.mem_cons.mp h with e | h
      · cases e; simp at hb
      · exact mem_lookup h
theorem cloFrom_mem {cells : List (Str × Addr)} : ∀ {names : List (Str × NameKind)} {acc : List (Str × Addr)} {n : Str} {c : Addr}, (n, c) ∈ cloFrom cells names acc → (n, c) ∈ acc ∨ ((n, .free) ∈ names ∧ c = (cells.lookup n).getD 0)
  | [], _, _, _, h => .inl h
  | (m, k) :: r, acc, n, c, h => by
    unfold cloFrom at h
    split at h
    · rename_i hk
      have hk : k = .free := by simpa using hk
      rcases cloFrom_mem h with h | ⟨h1, h2⟩
      · rcases List.mem_cons.mp h with e | h
        · cases e; exact .inr ⟨hk ▸ List.mem_cons_self, rfl⟩
        · exact .inl h
      · exact .inr ⟨List.mem_cons_of_mem _ h1, h2⟩
    · rcases cloFrom_mem h with h | ⟨h1, h2⟩
      · exact .inl h
      · exact .inr ⟨List.mem_cons_of_mem _ h1, h2⟩
theorem cloFrom_acc {cells : List (Str × Addr)} : ∀ {names : List (Str × NameKind)} {acc : List (Str × Addr)} {p : Str × Addr}, p ∈ acc → p ∈ cloFrom cells names acc
  | [], _, _, h => h
  | (m, k) :: r, acc, p, h => by
    unfold cloFrom
    split
    · exact cloFrom_acc (List.mem_cons_of_mem _ h)
    · exact cloFrom_acc h
theorem cloFrom_has {cells : List (Str × Addr)} : ∀ {names : List (Str × NameKind)} {acc : List (Str × Addr)} {n : Str}, (n, .free) ∈ names → (n, (cells.lookup n).getD 0) ∈ cloFrom cells names acc
  | (m, k) :: r, acc, n, h => by
    unfold cloFrom
    rcases List.mem_cons.mp h with e | h
    · cases e
      exact cloFrom_acc List.mem_cons_self
    · split
      · exact cloFrom_has h
      · exact cloFrom_has h
theorem cells_mem : ∀ {names : List (Str × NameKind)} {h : Heap} {acc : List (Str × Addr)} {x : Str} {c : Addr}, (x, c) ∈ cellsFrom h.objs.size names acc →
    (x, c) ∈ acc ∨ ((x, .cell) ∈ names ∧ h.objs.size ≤ c ∧ CellAt (pushCells h names) c none)
  | [], _, _, _, _, h => .inl h
  | (n, k) :: r, h, acc, x, c, hm => by
    unfold cellsFrom at hm
    unfold pushCells
    split at hm
    · rename_i hk
      rw [if_pos hk]
      have hk : k = .cell := by simpa using hk
      rw [← Heap.size_push h { cls := .type "cell", data := .cell none }] at hm
      rcases cells_mem hm with hm | ⟨h1, h2, h3⟩
      · rcases List.mem_cons.mp hm with e | hm
        · cases e
          exact .inr ⟨hk ▸ List.mem_cons_self, Nat.le_refl _, _, pushCells_keeps r _ _ _ (Heap.get?_push_size _ rfl), rfl⟩
        · exact .inl hm
      · rw [Heap.size_push] at h2
        exact .inr ⟨List.mem_cons_of_mem _ h1, Nat.le_of_succ_le h2, h3⟩
    · rename_i hk
      rw [if_neg hk]
      rcases cells_mem hm with hm | ⟨h1, h2, h3⟩
      · exact .inl hm
      · exact .inr ⟨List.mem_cons_of_mem _ h1, h2, h3⟩
theorem cells_acc : ∀ {names : List (Str × NameKind)} {n : Nat} {acc : List (Str × Addr)} {p : Str × Addr}, p ∈ acc → p ∈ cellsFrom n names acc
  | [], _, _, _, h => h
  | (m, k) :: r, n, acc, p, h => by
    unfold cellsFrom
    split
    · exact cells_acc (List.mem_cons_of_mem _ h)
    · exact cells_acc h
theorem cells_has : ∀ {names : List (Str × NameKind)} {n : Nat} {acc : List (Str × Addr)} {x : Str}, (x, .cell) ∈ names → ∃ c, (x, c) ∈ cellsFrom n names acc
  | (m, k) :: r, n, acc, x, h => by
    unfold cellsFrom
    rcases List.mem_cons.mp h with e | h
    · cases e
      exact ⟨n, cells_acc List.mem_cons_self⟩
    · split
      · exact cells_has h
      · exact cells_has h
theorem cells_inj : ∀ {names : List (Str × NameKind)} {h : Heap} {acc : List (Str × Addr)} {x y : Str} {c : Addr}, (∀ p ∈ acc, p.2 < h.objs.size) → (∀ x y c, (x, c) ∈ acc → (y, c) ∈ acc → x = y) →
    (x, c) ∈ cellsFrom h.objs.size names acc → (y, c) ∈ cellsFrom h.objs.size names acc → x = y
  | [], _, _, _, _, _, _, hi, h1, h2 => hi _ _ _ h1 h2
  | (n, k) :: r, h, acc, x, y, c, hl, hi, h1, h2 => by
    unfold cellsFrom at h1 h2
    split at h1
    · rename_i hk
      rw [if_pos hk] at h2
      rw [← Heap.size_push h { cls := .type "cell", data := .cell none }] at h1 h2
      refine cells_inj (h := h.push _) (fun p hp => ?_) (fun x y c a b => ?_) h1 h2
      · rw [Heap.size_push]
        rcases List.mem_cons.mp hp with rfl | hp
        · exact Nat.lt_succ_self _
        · exact Nat.lt_succ_of_lt (hl p hp)
      · rcases List.mem_cons.mp a with e | a <;> rcases List.mem_cons.mp b with e' | b
        · cases e; cases e'; rfl
        · cases e; exact absurd (hl _ b) (Nat.lt_irrefl _)
        · cases e'; exact absurd (hl _ a) (Nat.lt_irrefl _)
        · exact hi _ _ _ a b
    · rename_i hk
      rw [if_neg hk] at h2
      exact cells_inj hl hi h1 h2
theorem newEnv_comp {M : Model} {A : Around} {E : Value → Shared → Prop} {s : Shared} {scope : Scope} {globals : Addr} {closure : List (Str × Addr)} {qual : Str} {func : Option Addr} {code : Value} {around : Env} {builtins : Addr} {Q : Env → Shared → Prop}
    (h : Q (newEnv scope s.heap.objs.size globals (cellsFrom (s.heap.objs.size + 1) scope.names closure) qual func code (some around) builtins)
      { s with heap := pushCells (s.heap.push { cls := .type "dict", data := .dict #[] }) scope.names }) :
    wpAny M A (newFunctionEnv scope globals closure [] qual func code (some around) builtins) Q E s := by
  simp only [newFunctionEnv, Option.isSome_some, if_true]
  refine wpAny_bind (wpAny_alloc ?_)
  refine wpAny_bind (wpAny_layCells _ (fun n k c => rfl) scope.names closure _ _ ?_)
  rw [show ({ s with heap := s.heap.push { cls := .type "dict", data := .dict #[] } } : Shared).heap.objs.size = s.heap.objs.size + 1 from Heap.size_push ..]
  rw [List.forIn_nil]
  exact wpAny_bind (wpAny_pure (wpAny_pure h))
/-- every name of the written scope, in the scope that runs -/
theorem lookup_relS {sc : Scope} : ∀ {names : List (Str × NameKind)} {x : Str} {k : NameKind},
    (names.map fun (n, k) => if (k == NameKind.free && sc.kind == .function && sc.names.lookup n == some .cell) then (n, NameKind.cell) else (n, k)).lookup x = some k →
    ∃ k', names.lookup x = some k' ∧ (k = k' ∨ (k' = .free ∧ k = .cell))
  | [], _, _, h => by simp at h
  | (n, k₀) :: r, x, k, h => by
    have ih := @lookup_relS sc r x k
    have h' : List.lookup x ((if (k₀ == NameKind.free && sc.kind == .function && sc.names.lookup n == some .cell) = true then (n, NameKind.cell) else (n, k₀)) :: (r.map _)) = some k := h
    cases hx : x == n with
    | true =>
      simp only [List.lookup_cons, hx]
      by_cases hc : (k₀ == NameKind.free && sc.kind == .function && sc.names.lookup n == some .cell) = true
      · rw [if_pos hc] at h'
        simp only [List.lookup_cons, hx] at h'
        cases h'
        simp only [Bool.and_eq_true, beq_iff_eq] at hc
        exact ⟨k₀, rfl, .inr ⟨hc.1.1, rfl⟩⟩
      · rw [if_neg hc] at h'
        simp only [List.lookup_cons, hx] at h'
        cases h'
        exact ⟨_, rfl, .inl rfl⟩
    | false =>
      simp only [List.lookup_cons, hx]
      by_cases hc : (k₀ == NameKind.free && sc.kind == .function && sc.names.lookup n == some .cell) = true
      · rw [if_pos hc] at h'
        simp only [List.lookup_cons, hx] at h'
        exact ih h'
      · rw [if_neg hc] at h'
        simp only [List.lookup_cons, hx] at h'
        exact ih h'
/-- the names of a comprehension's block: its own (with their places in N), or captured -/
structure BlkOk (N : List Str) (sc scope : Scope) (own : List (Str × Nat)) : Prop where
  kind : scope.kind = .function
  uniq : ∀ y ∈ scope.names, scope.names.lookup y.1 = some y.2
  ix : ∀ p ∈ own, N[p.2]? = some p.1
  free : ∀ y ∈ scope.names, y.2 = .free → sc.names.lookup y.1 = some .cell ∨ sc.names.lookup y.1 = some .free
  own : ∀ y ∈ scope.names, y.2 = .local ∨ y.2 = .cell → y.1 ∈ own.map (·.1) ∨ y.1 ∉ N
/-- the slots of the block's own names forgotten -/
def wipe (σ : St) : List Nat → St
  | [] => σ
  | v :: vs => (wipe σ vs).set v none
theorem wipe_length (σ : St) : ∀ vs : List Nat, (wipe σ vs).length = σ.length
  | [] => rfl
  | v :: vs => by unfold wipe; rw [List.length_set, wipe_length σ vs]
theorem wipe_some {σ : St} {i : Nat} {x : V} : ∀ {vs : List Nat}, (wipe σ vs)[i]? = some (some x) → σ[i]? = some (some x) ∧ i ∉ vs
  | [], h => ⟨h, by simp⟩
  | v :: vs, h => by
    unfold wipe at h
    by_cases hi : v = i
    · subst hi
      by_cases hv : v < (wipe σ vs).length
      · rw [List.getElem?_set_self hv] at h; cases h
      · rw [List.getElem?_eq_none (by simpa using hv)] at h; cases h
    · rw [List.getElem?_set_ne hi] at h
      obtain ⟨h1, h2⟩ := wipe_some h
      exact ⟨h1, by simp only [List.mem_cons, not_or]; exact ⟨fun e => hi e.symm, h2⟩⟩
/-- the context of a block that starts at s, its iterator's objects at fp -/
abbrev Cx.blk (X : Cx) (s : Shared) (H : Hp) (scope : Scope) (cenv : Env) (fp : List Addr) : Cx := { X with s_0 := s, H_0 := H, env := cenv, outer := X.stack, ex := fp, fn := fun x => scope.names.lookup x == some .cell, pn := [], xe := fun _ _ => False }
section
variable {X : Cx} {pins : List (Addr × Obj)} {σ : St} {H : Hp} {s : Shared}
theorem block_start {scope : Scope} {own : List (Str × Nat)} {fp : List Addr} (I : Inv X pins σ H s) (ok : BlkOk X.N X.env.scope scope own) (hN : X.N.Nodup) (hfp : ∀ b ∈ fp, FpOk X pins H b ∧ b < s.heap.objs.size) :
    Inv (X.blk s H scope (compEnvC scope (cellsFrom (s.heap.objs.size + 1) scope.names (cloFrom X.env.cells scope.names [])) s.heap.objs.size X.env) fp) [] (wipe σ (own.map (·.2))) H { s with heap := pushCells (s.heap.push { cls := .type "dict", data := .dict #[] }) scope.names } := by
  have hfree : ∀ y ∈ scope.names, y.2 = .free → ∃ c, X.env.cells.lookup y.1 = some c := fun y hy e => by
    rcases ok.free y hy e with k | k
    · exact I.ok.has _ (.inl k)
    · exact I.ok.has _ (.inr k)
  generalize hcenv : compEnvC scope (cellsFrom (s.heap.objs.size + 1) scope.names (cloFrom X.env.cells scope.names [])) s.heap.objs.size X.env = cenv
  have kp : ∀ b o, s.heap.get? b = some o → (pushCells (s.heap.push { cls := .type "dict", data := .dict #[] }) scope.names).get? b = some o := fun b o e => pushCells_keeps _ _ _ _ (Heap.get?_push_of_some _ e)
  have hL : cenv.locals = s.heap.objs.size := by rw [← hcenv]; rfl
  have hcl : cenv.cells = cellsFrom (s.heap.objs.size + 1) scope.names (cloFrom X.env.cells scope.names []) := by rw [← hcenv]; rfl
  have hsc : cenv.scope = relS scope X.env.scope := by rw [← hcenv]; rfl
  rw [← Heap.size_push s.heap { cls := .type "dict", data := .dict #[] }] at hcl
  have cm : ∀ {y c}, (y, c) ∈ cloFrom X.env.cells scope.names [] → X.env.cells.lookup y = some c ∧ c < s.heap.objs.size := fun {y c} hm => by
    rcases cloFrom_mem hm with hm | ⟨h1, rfl⟩
    · cases hm
    · obtain ⟨c, hc⟩ := hfree _ h1 rfl
      rw [hc]
      obtain ⟨w, z⟩ := I.cell _ _ hc
      exact ⟨rfl, z.lt⟩
  have mem : ∀ {y c}, cenv.cells.lookup y = some c → (X.env.cells.lookup y = some c ∧ c < s.heap.objs.size) ∨ (s.heap.objs.size + 1 ≤ c ∧ CellAt (pushCells (s.heap.push { cls := .type "dict", data := .dict #[] }) scope.names) c none) := fun {y c} e => by
    rw [hcl] at e
    rcases cells_mem (PySem.mem_of_lookup e) with hm | ⟨_, h2, h3⟩
    · exact .inl (cm hm)
    · rw [Heap.size_push] at h2; exact .inr ⟨h2, h3⟩
  have look : ∀ {y}, scope.names.lookup y = some .free → ∃ c, cenv.cells.lookup y = some c ∧ X.env.cells.lookup y = some c := fun {y} hl => by
    have hy : (y, NameKind.free) ∈ scope.names := PySem.mem_of_lookup hl
    obtain ⟨c', e'⟩ := mem_lookup (cells_acc (names := scope.names) (n := (s.heap.push { cls := .type "dict", data := .dict #[] }).objs.size) (cloFrom_has (cells := X.env.cells) (acc := []) hy))
    rw [← hcl] at e'
    refine ⟨c', e', ?_⟩
    rw [hcl] at e'
    rcases cells_mem (PySem.mem_of_lookup e') with hm | ⟨h1, _, _⟩
    · exact (cm hm).1
    · have := ok.uniq _ h1
      rw [hl] at this; cases this
  have okB : (X.blk s H scope cenv fp).Ok := by
    refine ⟨I.ok.mod, by show cenv.scope.kind = _; rw [hsc]; exact ok.kind, by show cenv.globals = _; rw [← hcenv]; exact I.ok.glob, by show cenv.builtins = _; rw [← hcenv]; exact I.ok.blt, by show s.heap.objs.size ≤ cenv.locals; rw [hL]; exact Nat.le_refl _,
      fun y z c e1 e2 => ?_, fun y hy => ?_, fun y c z e => ?_, I.ok.hd, I.ok.frames, .inl rfl, fun b hb => ⟨?_, fun y c e z => ?_⟩, I.bs, Nat.le_trans I.ok.bsz I.sz, fun b o e hb => ?_, fun b hb z => ?_, I.stack, I.stkFree⟩
    · have e1 : cenv.cells.lookup y = some c := e1
      have e2 : cenv.cells.lookup z = some c := e2
      rw [hcl] at e1 e2
      refine cells_inj (fun p hp => ?_) (fun y z c a b => I.ok.inj y z c (cm a).1 (cm b).1) (PySem.mem_of_lookup e1) (PySem.mem_of_lookup e2)
      rw [Heap.size_push]
      exact Nat.lt_succ_of_lt (cm (y := p.1) (c := p.2) hp).2
    · show ∃ c, cenv.cells.lookup y = some c
      have key : ∀ k, cenv.kindOf y = some k → (k = .cell ∨ k = .free) → ∃ c, cenv.cells.lookup y = some c := fun k hk hk' => by
        unfold Env.kindOf at hk
        rw [hsc] at hk
        obtain ⟨k', e, r⟩ := lookup_relS hk
        have : k' = .cell ∨ k' = .free := by
          rcases r with rfl | ⟨rfl, _⟩
          · exact hk'
          · exact .inr rfl
        rcases this with rfl | rfl
        · obtain ⟨c, hm⟩ := cells_has (n := (s.heap.push { cls := .type "dict", data := .dict #[] }).objs.size) (acc := cloFrom X.env.cells scope.names []) (PySem.mem_of_lookup e)
          obtain ⟨c', e'⟩ := mem_lookup hm
          exact ⟨c', by rw [hcl]; exact e'⟩
        · obtain ⟨c, h1, _⟩ := look e
          exact ⟨c, h1⟩
      rcases hy with hy | hy
      · exact key _ hy (.inl rfl)
      · exact key _ hy (.inr rfl)
    · have z : (scope.names.lookup y == some NameKind.cell) = true := z
      have z : scope.names.lookup y = some .cell := by simpa using z
      have e : cenv.cells.lookup y = some c := e
      rw [hcl] at e
      rcases cells_mem (PySem.mem_of_lookup e) with hm | ⟨_, h2, _⟩
      · rcases cloFrom_mem hm with hm | ⟨h1, _⟩
        · cases hm
        · have q := ok.uniq _ h1
          rw [z] at q; cases q
      · rw [Heap.size_push] at h2
        exact Nat.le_of_succ_le h2
    · show b ≠ cenv.locals
      rw [hL]; exact Nat.ne_of_lt (hfp b hb).2
    · have e : cenv.cells.lookup y = some c := e
      rcases mem e with ⟨h1, _⟩ | ⟨h1, _⟩
      · exact (hfp b hb).1.2.2.2.2.1 y c h1 z
      · have h2 : s.heap.objs.size + 1 ≤ b := by rw [← z]; exact h1
        exact absurd (Nat.lt_of_lt_of_le (hfp b hb).2 (Nat.le_of_succ_le h2)) (Nat.lt_irrefl _)
    · rcases (hfp b hb).1.2.2.2.1 with z | z
      · exact I.ok.noex b o e z
      · exact absurd (Nat.lt_of_lt_of_le (Heap.lt_size e) (Nat.le_trans I.ok.bsz z)) (Nat.lt_irrefl _)
    · rcases List.mem_cons.mp (I.stkSub b z) with z | z
      · exact (hfp b hb).1.2.1 z
      · exact (hfp b hb).1.2.2.1 z
  refine ⟨okB, rfl, I.bare, Un.kept kp, ⟨fun _ => none, ?_, fun i y av e1 e2 e3 => ?_⟩, fun y c e => ?_, ?_, fun y c e => ?_, fun p hp => ?_, I.hok.kept kp, by rw [wipe_length]; exact I.len⟩
  · show Heap.Ns _ cenv.locals _
    rw [hL]
    exact Heap.Ns.keeps (Heap.Ns.new ..) fun b o e => pushCells_keeps _ _ _ _ e
  · obtain ⟨e2, hne⟩ := wipe_some e2
    have hfr : scope.names.lookup y = some .free ∧ (cenv.kindOf y = some .cell ∨ cenv.kindOf y = some .free) := by
      have key : ∀ k, cenv.scope.names.lookup y = some k → k = .local ∨ k = .cell ∨ k = .free → scope.names.lookup y = some .free ∧ (cenv.kindOf y = some .cell ∨ cenv.kindOf y = some .free) := fun k hk hk' => by
        have hk0 := hk
        rw [hsc] at hk
        obtain ⟨k', e, r⟩ := lookup_relS hk
        have no : ¬ (k' = .local ∨ k' = .cell) := fun hh => by
          rcases ok.own _ (PySem.mem_of_lookup e) hh with e' | e'
          · obtain ⟨p, hp, hpy⟩ := List.mem_map.mp e'
            have e3 := ok.ix p hp
            have : p.1 = y := hpy
            rw [this] at e3
            exact hne (List.mem_map.mpr ⟨p, hp, nodup_ix hN e3 e1⟩)
          · exact e' (List.mem_of_getElem? e1)
        rcases r with rfl | ⟨rfl, rfl⟩
        · rcases hk' with rfl | rfl | rfl
          · exact absurd (.inl rfl) no
          · exact absurd (.inr rfl) no
          · exact ⟨e, .inr hk0⟩
        · exact ⟨e, .inl hk0⟩
      have e3 : Vis cenv.scope y := e3
      rcases e3 with e3 | e3 | e3
      · exact key _ e3 (.inl rfl)
      · exact key _ e3 (.inr (.inl rfl))
      · exact key _ e3 (.inr (.inr rfl))
    obtain ⟨m, hn, hl⟩ := I.loc
    have hvis : Vis X.env.scope y := (ok.free _ (PySem.mem_of_lookup hfr.1) rfl).elim (fun k => .inr (.inl k)) (fun k => .inr (.inr k))
    obtain ⟨w, r, q⟩ := hl i y av e1 e2 hvis
    refine ⟨w, r, .inr ⟨hfr.2, ?_⟩⟩
    obtain ⟨c, h1, h2⟩ := look hfr.1
    rcases q with ⟨k, _⟩ | ⟨_, c', e', z⟩
    · have k : X.env.scope.names.lookup y = some .local := k
      rcases ok.free _ (PySem.mem_of_lookup hfr.1) rfl with k' | k' <;> rw [show X.env.scope.names.lookup y = _ from k'] at k <;> cases k
    · rw [h2] at e'; cases e'
      exact ⟨c, h1, z.keeps kp⟩
  · have e : cenv.cells.lookup y = some c := e
    rcases mem e with ⟨h1, _⟩ | ⟨_, z⟩
    · obtain ⟨w, z⟩ := I.cell y c h1
      exact ⟨w, z.keeps kp⟩
    · exact ⟨_, z⟩
  · show H cenv.locals = none
    rw [hL]; exact I.hok.fresh (Nat.le_refl _)
  · have e : cenv.cells.lookup y = some c := e
    rcases mem e with ⟨h1, _⟩ | ⟨h1, _⟩
    · exact I.freeC y c h1
    · exact I.hok.fresh (Nat.le_of_succ_le h1)
  · exact absurd (show p ∈ ([] : List (Addr × Obj)) ++ [] from hp) (by simp)
/-- an item appended to a tracked list -/
theorem app_ok {E : Value → Shared → Prop} {D : Addr} {xs : List V} {y : V} {v : Value} {Q : Value → Shared → Prop} (I : Inv X pins σ H s) (hD : H D = some (.lst xs)) (hz : xs.length < sizeLine) (r : RelV y v)
    (h : ∀ s', Inv X pins σ (upd H D (.lst (xs ++ [y]))) s' → Q .none s') : wpAny (model X.prog X.w) X.A (call (.builtin "list.append") [.ref D, v]) Q E s := by
  obtain ⟨hz', its, n, ri, e⟩ := I.hok D _ hD
  have hl := ri.length
  refine append_at (hsz := by rw [List.size_toArray]; omega) e fun h' sb ho' => ?_
  refine h { s with heap := h' } (I.write (t' := s.toks) (by rw [hD]; trivial) (.inl rfl) (fun b u hb q => (sb.2 b hb).trans q) ⟨_, ho'⟩ ⟨by rw [List.length_append]; exact hz, its ++ [v], n + 1, ri.append (.cons r .nil), ?_⟩)
  rw [ho']
  simp
/-- a clause's tests -/
def PTs (X : Cx) (ifs : List Expr) (t : TT) : Prop :=
  ∀ (pins : List (Addr × Obj)) (s : Shared) (σ : St) (H : Hp) (Q : Bool → Hp → Prop), Inv X pins σ H s → t σ H Q →
    wpAny (model X.prog X.w) X.A (forIn ifs true fun c r => if r = true then do let ok ← isTrue c X.env (eval c X.env); pure (ForInStep.yield ok) else pure (ForInStep.yield r)) (TP X pins σ Q) X.xe s
def tYes : TT := fun _ H Q => Q true H
theorem pts_nil : PTs X [] tYes := fun _ _ _ H _ I h => wpAny_tests_nil ⟨H, I, h⟩
end
theorem thnF {α : Type} {t : Sem α} {Q Q' : α → Shared → Prop} {M : Model} {A : Around} {E : Value → Shared → Prop} {s : Shared} (h : wpAny M A t Q (fun _ _ => False) s) (hQ : ∀ a s, Q a s → Q' a s) : wpAny M A t Q' E s := wpAny_mono h hQ fun _ _ z => False.elim z
/-- the loop of a list comprehension's block, the target of any form (codeAny_compLoop_tests asks a target that no tuple goes to; statement and proof follow it, PyProof/CompMap.lean:41-61, with the step letOwnedTupleGo kept) -/
theorem compLoop_any {prog : Program} {w : World} {A : Around} {R : Result → Shared → Prop} {s : Shared} {elt target iter : Expr} {ifs : List Expr} {scope : Scope} {pos : Pos} {it acc : Value} {env : Env} (I : Nat → Shared → Prop)
    (turn : ∀ n s, I n s → wpAny (model prog w) A (pyNext it) (fun r s₁ => match r with
      | none => R (.ok .next) s₁
      | some v => wpAny (model prog w) A (letOwnedTupleGo target it v) (fun _ s₁' => wpAny (model prog w) A (assign target env v) (fun _ s₂ =>
          wpAny (model prog w) A (forIn ifs true fun c r => if r = true then do let ok ← isTrue c env (eval c env); pure (ForInStep.yield ok) else pure (ForInStep.yield r)) (fun ok s₃ =>
            if ok = true then wpAny (model prog w) A (eval elt env) (fun x s₄ =>
              wpAny (model prog w) A (call (.builtin "list.append") [acc, x]) (fun _ s₅ => ∃ m, m < n ∧ I m s₅) (notedBy (model prog w) A env fun e s' => R (.error e) s') s₄) (notedBy (model prog w) A env fun e s' => R (.error e) s') s₃
            else ∃ m, m < n ∧ I m s₃) (notedBy (model prog w) A env fun e s' => R (.error e) s') s₂) (notedBy (model prog w) A env fun e s' => R (.error e) s') s₁') (notedBy (model prog w) A env fun e s' => R (.error e) s') s₁) (notedBy (model prog w) A env fun e s' => R (.error e) s') s)
    (n : Nat) (h : I n s) :
    codeAny (model prog w) A (.compLoop (.ListComp elt [⟨target, iter, ifs, 0⟩] scope pos) 0 it acc env) R s := by
  refine codeAny_loop rfl I (fun n s hI => ?_) n h
  show wpAny _ A ((compTurn (.ListComp elt [⟨target, iter, ifs, 0⟩] scope pos) 0 it acc env).onRaise (fun x => do noteFrame x env; theTreesLotGoes x)) _ _ s
  refine wpAny_noted ?_
  rw [compTurn_list]
  refine wpAny_bind (wpAny_standAt (wpAny_bind (wpAny_mono (turn n s hI) (fun r s₁ h₁ => ?_) fun _ _ h' => h')))
  cases r with
  | none => exact wpAny_pure h₁
  | some v =>
    refine wpAny_bind (wpAny_mono h₁ (fun _ s₁' h₁' => ?_) fun _ _ h' => h')
    refine wpAny_bind (wpAny_mono h₁' (fun _ s₂ h₂ => wpAny_bind (wpAny_mono h₂ (fun ok s₃ h₃ => ?_) fun _ _ h' => h')) fun _ _ h' => h')
    cases ok with
    | false => exact wpAny_pure ⟨rfl, h₃⟩
    | true =>
      exact wpAny_bind (wpAny_bind (wpAny_mono h₃ (fun x s₄ h₄ => wpAny_bind (wpAny_mono h₄ (fun _ s₅ h₅ => wpAny_pure (wpAny_pure ⟨rfl, h₅⟩)) fun _ _ h' => h')) fun _ _ h' => h'))
section
variable {X : Cx}
/-- [elt for target in iter if ..]: D the new list; W by the turn and a measure, Nx what a turn is to reach -/
def tLc (wi : TI) (g : TG) (tt : TT) (te : TE) (vs : List Nat) : TE := fun σ H Q => wi σ H fun J H1 => ∀ D, H1 D = none → ∃ W : Nat → Nat → Hp → Prop, (∃ m, W 0 m (upd H1 D (.lst []))) ∧ ∀ i m H, W i m H →
  (J.stop i H ∧ Q (.ref D) H) ∨ (J.go i H ∧ ∃ Nx : Hp → Prop, (∀ H', Nx H' → ∃ m', m' < m ∧ W (i + 1) m' H') ∧ ∀ x H', J.yld i H x H' → g x (wipe σ vs) H' fun σ2 H2 => wipe σ2 vs = wipe σ vs ∧ tt σ2 H2 fun b H3 =>
    if b = true then te σ2 H3 fun y H4 => ∃ acc, H4 D = some (.lst acc) ∧ acc.length < sizeLine ∧ Nx (upd H4 D (.lst (acc ++ [y]))) else Nx H3)
theorem lc_core {pins : List (Addr × Obj)} {s : Shared} {σ : St} {H : Hp} {Q : VK} {elt tg iter : Expr} {ifs : List Expr} {scope : Scope} {own : List (Str × Nat)} {pos pos' : Pos} {wi : TI} {g : TG} {tt : TT} {te : TE} {use : Option (Value → Sem Unit)} {Qf : Value → Shared → Prop}
    (hc : X.calm = true) (hN : X.N.Nodup) (I : Inv X pins σ H s) (hi : PI X tg iter wi) (ok : BlkOk X.N X.env.scope scope own)
    (hg : ∀ (s : Shared) (H : Hp) (C : Addr) (cl : List (Str × Addr)) (fp : List Addr), PG (X.blk s H scope (compEnvC scope cl C X.env) fp) tg g) (ht : ∀ (s : Shared) (H : Hp) (C : Addr) (cl : List (Str × Addr)) (fp : List Addr), PTs (X.blk s H scope (compEnvC scope cl C X.env) fp) ifs tt)
    (he : ∀ (s : Shared) (H : Hp) (C : Addr) (cl : List (Str × Addr)) (fp : List Addr), PE (X.blk s H scope (compEnvC scope cl C X.env) fp) elt te) (hs : ∀ x, foldedSetIterable iter X.env x = pure x)
    (h : tLc wi g tt te (own.map (·.2)) σ H Q)
    (hRR : ∀ D C s' m H', Inv X pins σ H' s' → Q (.ref D) H' → s'.heap.Ns C m → FpOk X pins H' C → compPost (model X.prog X.w) X.A X.xe use Qf (.ref D) C (.ok .next) s') :
    wpAny (model X.prog X.w) X.A (comprehension (.ListComp elt [⟨tg, iter, ifs, 0⟩] scope pos) scope X.env pos' (newList []) false (eval iter X.env) use) Qf X.xe s := by
  have hfree : ∀ y ∈ scope.names, y.2 = .free → ∃ c, X.env.cells.lookup y.1 = some c := fun y hy e => by
    rcases ok.free y hy e with k | k
    · exact I.ok.has _ (.inl k)
    · exact I.ok.has _ (.inr k)
  refine wpAny_comprehension_free (use := use) rfl hs (closure_ok hfree) ok.kind (fun y hy e => by rw [ok.uniq y hy, e])
    (thn (hi pins s σ H _ I h) fun xv s1 hx => thn hx fun itv s2 h2 => ?_)
  obtain ⟨it, fp, tn, J, H2, e, I2, T, st2, f2, q⟩ := h2
  subst e
  refine wpAny_newObj_type (newEnv_comp ?_) (by show 0 ≤ sizeLine; decide)
  generalize hD : s2.heap.objs.size = D
  have hDn : H2 D = none := I2.hok.fresh (Nat.le_of_eq hD)
  obtain ⟨W, ⟨m0, w0⟩, turn⟩ := q D hDn
  -- the new list
  generalize hs3 : ({ s2 with heap := s2.heap.push { cls := .type "list", data := .seq ([] : List Value).toArray } } : Shared) = s3
  have I3 : Inv X pins σ (upd H2 D (.lst [])) s3 := by
    rw [← hs3]
    refine I2.laid (t' := s2.toks) (fun b o e => Heap.get?_push_of_some _ e) (Nat.le_of_eq hD) ⟨Nat.zero_le _, [], 0, .nil, ?_⟩
    rw [← hD]
    exact Heap.get?_push_size _ rfl
  have h3 : s3.heap = s2.heap.push { cls := .type "list", data := .seq ([] : List Value).toArray } := by rw [← hs3]
  have sz : ∀ b ∈ fp, b < s2.heap.objs.size := fun b hb => by
    obtain ⟨o, e, _⟩ := T.obj _ _ st2 b hb
    exact Heap.lt_size e
  have f3 : ∀ b ∈ fp, FpOk X pins (upd H2 D (.lst [])) b ∧ b < s3.heap.objs.size := fun b hb => by
    have hlt := sz b hb
    refine ⟨⟨?_, (f2 b hb).2⟩, by rw [h3, Heap.size_push]; exact Nat.lt_succ_of_lt hlt⟩
    rw [upd_ne (by rw [← hD]; exact Nat.ne_of_lt hlt)]
    exact (f2 b hb).1
  have st3 : tn 0 s3.heap := T.keep _ _ _ st2 fun b _ o e => by rw [h3]; exact Heap.get?_push_of_some _ e
  have I4 := block_start I3 ok hN f3
  have pg := hg s3 (upd H2 D (.lst [])) s3.heap.objs.size (cellsFrom (s3.heap.objs.size + 1) scope.names (cloFrom X.env.cells scope.names [])) fp
  have pt := ht s3 (upd H2 D (.lst [])) s3.heap.objs.size (cellsFrom (s3.heap.objs.size + 1) scope.names (cloFrom X.env.cells scope.names [])) fp
  have pe := he s3 (upd H2 D (.lst [])) s3.heap.objs.size (cellsFrom (s3.heap.objs.size + 1) scope.names (cloFrom X.env.cells scope.names [])) fp
  show codeAny _ _ (.compStart (.ListComp elt [⟨tg, iter, ifs, 0⟩] scope pos) 0 (.ref it) (.ref D) (compEnvC scope (cellsFrom (s3.heap.objs.size + 1) scope.names (cloFrom X.env.cells scope.names [])) s3.heap.objs.size X.env)) (compPost (model X.prog X.w) X.A X.xe use Qf (.ref D) s3.heap.objs.size) { s3 with heap := pushCells (s3.heap.push { cls := .type "dict", data := .dict #[] }) scope.names }
  have nfp : ∀ b ∈ fp, (upd H2 D (.lst [])) b = none := fun b hb => (f3 b hb).1.1
  generalize hce : compEnvC scope (cellsFrom (s3.heap.objs.size + 1) scope.names (cloFrom X.env.cells scope.names [])) s3.heap.objs.size X.env = ce at I4 pg pt pe ⊢
  have cL : ce.locals = s3.heap.objs.size := by subst hce; rfl
  generalize hH3 : upd H2 D (.lst []) = H3 at I3 I4 pg pt pe w0 nfp f3
  generalize hs4 : ({ s3 with heap := pushCells (s3.heap.push { cls := .type "dict", data := .dict #[] }) scope.names } : Shared) = s4 at I4 ⊢
  have st4 : tn 0 s4.heap := T.keep _ _ _ st3 fun b _ o e => by rw [← hs4]; exact pushCells_keeps _ _ _ _ (Heap.get?_push_of_some _ e)
  have stat : ∀ {σ' : St} {H' : Hp} {s' : Shared}, Inv (X.blk s3 H3 scope ce fp) [] σ' H' s' → (∀ b ∈ fp, H' b = none) → ∀ b ∈ fp, FpOk (X.blk s3 H3 scope ce fp) [] H' b := fun {σ' H' s'} I' hn b hb =>
    ⟨hn b hb, (I'.ok.exf b hb).1, I'.ok.exfs b hb, .inl hb, fun x c e => (I'.ok.exf b hb).2 x c e, fun p hp => absurd (show p ∈ ([] : List (Addr × Obj)) ++ [] from hp) (by simp)⟩
  have loop : codeAny (model X.prog X.w) X.A (.compLoop (.ListComp elt [⟨tg, iter, ifs, 0⟩] scope pos) 0 (.ref it) (.ref D) ce) (compPost (model X.prog X.w) X.A X.xe use Qf (.ref D) s3.heap.objs.size) s4 := by
    refine compLoop_any (fun n s' => ∃ i H', Inv (X.blk s3 H3 scope ce fp) [] (wipe σ (own.map (·.2))) H' s' ∧ tn i s'.heap ∧ (∀ b ∈ fp, H' b = none) ∧ W i n H') ?_ m0 ⟨0, H3, I4, st4, nfp, w0⟩
    rintro n s5 ⟨i, H5, I5, st5, n5, w5⟩
    rcases turn i n H5 w5 with ⟨stop, qq⟩ | ⟨go, Nx, hNx, step⟩
    · have td := T.done (X.blk s3 H3 scope ce fp) rfl rfl rfl hc i [] s5 _ H5 (fun _ _ => False) I5 (stat I5 n5) st5 stop
      refine thnF td fun r s6 ⟨hr, I6⟩ => ?_
      subst hr
      -- back in the def's context
      have I7 : Inv X pins σ H5 s6 := I3.call' (ch := fp) I6.os I6.base I6.hok I6.bare fun b hb => ⟨(f3 b hb).1.2.2.2.1, (f3 b hb).1.2.1, (f3 b hb).1.2.2.2.2.1, (f3 b hb).1.2.2.2.2.2⟩
      have nC : H5 s3.heap.objs.size = none := by
        have z : H5 ce.locals = none := I6.free
        rw [cL] at z
        exact z
      obtain ⟨m, hn, _⟩ := I6.loc
      have hn : s6.heap.Ns ce.locals m := hn
      rw [cL] at hn
      exact hRR D s3.heap.objs.size s6 m H5 I7 qq hn (I3.fpOk (Nat.le_refl _) nC)
    · have ti := T.item (X.blk s3 H3 scope ce fp) rfl rfl rfl hc i [] s5 _ H5 (fun _ _ => False) I5 (stat I5 n5) st5 go
      refine thnF ti fun r s6 ⟨u, hr, h6⟩ => ?_
      subst hr
      refine thnF h6 fun _ s7 ⟨x, H7, I7, r7, y7, st7, n7⟩ => ?_
      have I7' := I7.pinned (stat I7 n7) (T.obj _ _ st7)
      refine thnF (pg _ s7 _ H7 x u _ I7' r7 (step x H7 y7)) fun _ s8 ⟨σ8, H8, I8, hw8, q8⟩ => ?_
      refine thnF (pt _ s8 σ8 H8 _ I8 q8) fun b s9 ⟨H9, I9, q9⟩ => ?_
      -- the turn's end
      have fin : ∀ {s' : Shared} {H' : Hp}, Inv (X.blk s3 H3 scope ce fp) ([] ++ pinsAt fp s7.heap) σ8 H' s' → Nx H' → ∃ m, m < n ∧ ∃ i H', Inv (X.blk s3 H3 scope ce fp) [] (wipe σ (own.map (·.2))) H' s' ∧ tn i s'.heap ∧ (∀ b ∈ fp, H' b = none) ∧ W i m H' := fun {s' H'} I' nx => by
        obtain ⟨m', hm, w'⟩ := hNx H' nx
        have pin' : ∀ b ∈ fp, ∀ o, s7.heap.get? b = some o → s'.heap.get? b = some o ∧ H' b = none := fun b hb o e =>
          let z := I'.pin (b, o) (List.mem_append_right _ (List.mem_append_right _ (mem_pinsAt hb e)))
          ⟨z.1, z.2.1⟩
        have hl : (wipe σ (own.map (·.2))).length = σ8.length := by rw [← hw8, wipe_length]
        refine ⟨m', hm, i + 1, H', (I'.unpinned (pins := [])).weak hl (fun j v e => ?_), T.keep _ _ _ st7 fun b hb o e => (pin' b hb o e).1, fun b hb => ?_, w'⟩
        · rw [← hw8] at e
          exact (wipe_some e).1
        · obtain ⟨o, e, _⟩ := T.obj _ _ st7 b hb
          exact (pin' b hb o e).2
      cases b with
      | false =>
        simp only [Bool.false_eq_true, if_false] at q9 ⊢
        exact fin I9 q9
      | true =>
        simp only [if_true] at q9 ⊢
        refine thnF (pe _ s9 σ8 H9 _ I9 q9) fun z s10 ⟨yv, H10, I10, r10, acc, hD10, hz10, nx⟩ => ?_
        exact app_ok (X := X.blk s3 H3 scope ce fp) I10 hD10 hz10 r10 fun s11 I11 => fin I11 nx
  exact codeAny_compStart_list loop (T.self X.A 0 _ _ _ st4 loop)
/-- as a value -/
theorem pe_lc {elt tg iter : Expr} {ifs : List Expr} {scope : Scope} {own : List (Str × Nat)} {pos : Pos} {wi : TI} {g : TG} {tt : TT} {te : TE} (hc : X.calm = true) (hN : X.N.Nodup) (hi : PI X tg iter wi) (ok : BlkOk X.N X.env.scope scope own)
    (hg : ∀ (s : Shared) (H : Hp) (C : Addr) (cl : List (Str × Addr)) (fp : List Addr), PG (X.blk s H scope (compEnvC scope cl C X.env) fp) tg g) (ht : ∀ (s : Shared) (H : Hp) (C : Addr) (cl : List (Str × Addr)) (fp : List Addr), PTs (X.blk s H scope (compEnvC scope cl C X.env) fp) ifs tt)
    (he : ∀ (s : Shared) (H : Hp) (C : Addr) (cl : List (Str × Addr)) (fp : List Addr), PE (X.blk s H scope (compEnvC scope cl C X.env) fp) elt te) (hs : ∀ x, foldedSetIterable iter X.env x = pure x := by intro _; rfl) :
    PE X (.ListComp elt [⟨tg, iter, ifs, 0⟩] scope pos) (tLc wi g tt te (own.map (·.2))) := by
  intro pins s σ H Q I h
  rw [eval_ListComp]
  refine lc_core hc hN I hi ok hg ht he hs h fun D C s' m H' I' q hn f => ⟨m, hn, fun h'' sb => ?_⟩
  obtain ⟨f0, f1, f2, f3, f4, f5⟩ := f
  exact ⟨.ref D, H', I'.turned (t' := s'.toks) (fun b o hb e => (sb.2 b hb).trans e) f0 f1 f3 f4 f5, rfl, q⟩
end
/-- over a range: Pv by the turn and the heap (the new list at D within) -/
theorem lc_range {lo : Int} {n : Nat} {g : TG} {tt : TT} {te : TE} {vs : List Nat} {σ : St} {H1 : Hp} {D : Addr} {Qd : Hp → Prop} (Pv : Nat → Hp → Prop) (h0 : Pv 0 (upd H1 D (.lst [])))
    (hs : ∀ i H, i < n → Pv i H → g (.int (lo + i)) (wipe σ vs) H fun σ2 H2 => wipe σ2 vs = wipe σ vs ∧ tt σ2 H2 fun b H3 =>
      if b = true then te σ2 H3 fun y H4 => ∃ acc, H4 D = some (.lst acc) ∧ acc.length < sizeLine ∧ Pv (i + 1) (upd H4 D (.lst (acc ++ [y]))) else Pv (i + 1) H3) (hd : ∀ H, Pv n H → Qd H) :
    ∃ W : Nat → Nat → Hp → Prop, (∃ m, W 0 m (upd H1 D (.lst []))) ∧ ∀ i m H, W i m H →
      ((Itr lo n).stop i H ∧ Qd H) ∨ ((Itr lo n).go i H ∧ ∃ Nx : Hp → Prop, (∀ H', Nx H' → ∃ m', m' < m ∧ W (i + 1) m' H') ∧ ∀ x H', (Itr lo n).yld i H x H' → g x (wipe σ vs) H' fun σ2 H2 => wipe σ2 vs = wipe σ vs ∧ tt σ2 H2 fun b H3 =>
        if b = true then te σ2 H3 fun y H4 => ∃ acc, H4 D = some (.lst acc) ∧ acc.length < sizeLine ∧ Nx (upd H4 D (.lst (acc ++ [y]))) else Nx H3) := by
  refine ⟨fun i m H => m = n - i ∧ i ≤ n ∧ Pv i H, ⟨n, by simp, Nat.zero_le _, h0⟩, ?_⟩
  rintro i m H ⟨rfl, hi, p⟩
  by_cases hlt : i < n
  · refine .inr ⟨hlt, Pv (i + 1), fun H' p' => ⟨n - (i + 1), by omega, rfl, hlt, p'⟩, fun x H' y => ?_⟩
    obtain ⟨e, y⟩ := y
    subst e y
    exact hs i _ hlt p
  · have e : i = n := by omega
    subst e
    exact .inl ⟨Nat.le_refl _, hd H p⟩
/-- over a list that the block leaves as it is -/
theorem lc_list {K : PySem.W.Frag} {a : Addr} {xs : List V} {g : TG} {tt : TT} {te : TE} {vs : List Nat} {σ : St} {H1 : Hp} {D : Addr} {Qd : Hp → Prop} (Pv : Nat → Hp → Prop) (h0 : Pv 0 (upd H1 D (.lst []))) (hl : ∀ i H, i ≤ xs.length → Pv i H → SqL K H a xs)
    (hs : ∀ i x H, xs[i]? = some x → Pv i H → g x (wipe σ vs) H fun σ2 H2 => wipe σ2 vs = wipe σ vs ∧ tt σ2 H2 fun b H3 =>
      if b = true then te σ2 H3 fun y H4 => ∃ acc, H4 D = some (.lst acc) ∧ acc.length < sizeLine ∧ Pv (i + 1) (upd H4 D (.lst (acc ++ [y]))) else Pv (i + 1) H3) (hd : ∀ H, Pv xs.length H → Qd H) :
    ∃ W : Nat → Nat → Hp → Prop, (∃ m, W 0 m (upd H1 D (.lst []))) ∧ ∀ i m H, W i m H →
      ((Itl K a).stop i H ∧ Qd H) ∨ ((Itl K a).go i H ∧ ∃ Nx : Hp → Prop, (∀ H', Nx H' → ∃ m', m' < m ∧ W (i + 1) m' H') ∧ ∀ x H', (Itl K a).yld i H x H' → g x (wipe σ vs) H' fun σ2 H2 => wipe σ2 vs = wipe σ vs ∧ tt σ2 H2 fun b H3 =>
        if b = true then te σ2 H3 fun y H4 => ∃ acc, H4 D = some (.lst acc) ∧ acc.length < sizeLine ∧ Nx (upd H4 D (.lst (acc ++ [y]))) else Nx H3) := by
  refine ⟨fun i m H => m = xs.length - i ∧ i ≤ xs.length ∧ Pv i H, ⟨xs.length, by simp, Nat.zero_le _, h0⟩, ?_⟩
  rintro i m H ⟨rfl, hi, p⟩
  have q := hl i H hi p
  by_cases hlt : i < xs.length
  · refine .inr ⟨⟨xs, xs[i], q, by simp [hlt]⟩, Pv (i + 1), fun H' p' => ⟨xs.length - (i + 1), by omega, rfl, hlt, p'⟩, fun x H' y => ?_⟩
    obtain ⟨e, y⟩ := y
    subst e
    exact hs i x _ (y xs q) p
  · have e : i = xs.length := by omega
    subst e
    exact .inl ⟨⟨xs, q, Nat.le_refl _⟩, hd H p⟩
def blkC (N : List Str) (sc scope : Scope) (own : List (Str × Nat)) : Bool :=
  (match scope.kind with | .function => true | _ => false) && (scope.names.all fun y => decide (scope.names.lookup y.1 = some y.2)) && (own.all fun p => decide (N[p.2]? = some p.1)) &&
    (scope.names.all fun y => match y.2 with
      | .free => (match sc.names.lookup y.1 with | some .cell => true | some .free => true | _ => false)
      | .local => decide (y.1 ∈ own.map (·.1)) || decide (y.1 ∉ N)
      | .cell => decide (y.1 ∈ own.map (·.1)) || decide (y.1 ∉ N)
      | _ => true)
theorem blkOk_by {N : List Str} {sc scope : Scope} {own : List (Str × Nat)} (h : blkC N sc scope own = true) : BlkOk N sc scope own := by
  unfold blkC at h
  simp only [Bool.and_eq_true, List.all_eq_true, decide_eq_true_eq] at h
  obtain ⟨⟨⟨h1, h2⟩, h3⟩, h4⟩ := h
  refine ⟨?_, h2, h3, fun y hy e => ?_, fun y hy e => ?_⟩
  · split at h1
    · assumption
    · cases h1
  · have q := h4 y hy
    simp only [e] at q
    split at q <;> first | exact .inl (by assumption) | exact .inr (by assumption) | cases q
  · have q := h4 y hy
    rcases e with e | e <;> (simp only [e, Bool.or_eq_true, decide_eq_true_eq] at q; exact q)
end L2
namespace L2
open PySem PySem.Spec PyProof.Rows
section
variable {prog : Program} {w : World} {A : Around} {R : Result → Shared → Prop} {s : Shared} {elt t0 i0 t1 i1 : Expr} {ifs0 ifs1 : List Expr} {scope : Scope} {pos : Pos} {it acc : Value} {env : Env}
end
section
variable {X : Cx}
end
end L2
namespace L2
open PySem PySem.Spec PyProof.Rows
section
variable {κ : Type} [DecidableEq κ]
end
section
variable {P : Program} {w : World} {H : Hp} {h : Heap} {a : Addr}
end
section
variable {X : Cx} {pins : List (Addr × Obj)} {σ : St} {H : Hp} {s : Shared} {a : Addr} {y v : V} {u r : Value} {o : Option V} {A : Around} {E : Value → Shared → Prop}
end
section
variable {X : Cx} {pins : List (Addr × Obj)} {σ : St} {H : Hp} {s : Shared} {a : Addr} {kvs : List (Key × V)} {k : Key} {u : Value} {A : Around} {E : Value → Shared → Prop}
end
section
variable {X : Cx} {o i e value : Expr} {pos pos' tpos : Pos} {td ty tv : TE}
end
section
variable {X : Cx} {pos : Pos}
end
section
variable {X : Cx} {pins : List (Addr × Obj)} {σ : St} {H : Hp} {s : Shared} {a : Addr} {y d : V} {u r : Value} {o : Option V} {A : Around} {E : Value → Shared → Prop}
end
section
variable {X : Cx} {o e f : Expr} {apos cpos : Pos} {td ty tx : TE}
end
section
variable {X : Cx} {pins : List (Addr × Obj)} {σ : St} {H : Hp} {s : Shared} {a : Addr} {kvs : List (Key × V)} {A : Around} {E : Value → Shared → Prop}
end
section
variable {X : Cx} {pins : List (Addr × Obj)} {σ : St} {H : Hp} {s : Shared} {a : Addr} {y : V} {u : Value} {A : Around} {E : Value → Shared → Prop}
end
end L2
namespace L2
open PySem PySem.Spec PyProof.Rows
section
variable {prog : Program} {w : World} {A : Around} {E : Value → Shared → Prop}
end
section
variable {X : Cx}
end
end L2
namespace L2
open PySem PySem.Spec PyProof.Rows
section
variable {X : Cx} {pins : List (Addr × Obj)} {σ : St} {H : Hp} {s : Shared} {h' : Heap}
/-- several records of ours have turned -/
theorem Inv.turnedL {t' : Nat} {ch : List Addr} (I : Inv X pins σ H s) (k : ∀ b o, b ∉ ch → s.heap.get? b = some o → h'.get? b = some o) (hf : ∀ b ∈ ch, FpOk X pins H b) : Inv X pins σ H { s with heap := h', toks := t' } := by
  have nit : ∀ b u, H b = some u → b ∉ ch := fun b u e z => by
    have q := (hf b z).1
    rw [q] at e; cases e
  refine I.step (g' := s.gens) (d' := s.drawn) (ch := ch) (fun b hb => ⟨(hf b hb).2.2.2.1, (hf b hb).2.1, (hf b hb).2.2.2.2.1, (hf b hb).2.2.2.2.2⟩) (fun b o _ _ hc e _ => k b o hc e) (fun b o _ _ hc e _ => ⟨o.slots, k b o hc e⟩)
    (fun _ _ _ _ n => n) (fun b o hc e => ⟨o, k b o hc e⟩) (fun _ _ e => e) (fun _ _ _ e => e) (fun b ps e => ⟨#[], by rw [e]; simp⟩) (fun m hm => ?_) (fun b u e => ?_) I.bare
  · obtain ⟨o, es, ep, ho, r⟩ := hm
    exact ⟨o, es, ep, k _ o (fun z => (hf _ z).2.1 rfl) ho, r⟩
  · refine (I.hok b u e).stay (fun c v hc q => k c v ?_ q) (fun _ q => q) fun _ _ q => q
    rcases hc with z | z
    · rw [z]; exact nit b u e
    · exact nit c _ z
/-- .. and one new object is laid -/
theorem Inv.turnedNew {t' : Nat} {ch : List Addr} {T : Addr} {ob : HO} (I : Inv X pins σ H s) (k : ∀ b o, b ∉ ch → s.heap.get? b = some o → h'.get? b = some o) (hf : ∀ b ∈ ch, FpOk X pins H b) (hT : s.heap.objs.size ≤ T)
    (new : ObjOk X.prog X.w (upd H T ob) h' T ob) : Inv X pins σ (upd H T ob) { s with heap := h', toks := t' } := by
  have hn : H T = none := I.hok.fresh hT
  have nit : ∀ b u, H b = some u → b ∉ ch := fun b u e z => by
    have q := (hf b z).1
    rw [q] at e; cases e
  refine I.step (g' := s.gens) (d' := s.drawn) (ch := ch) (fun b hb => ⟨(hf b hb).2.2.2.1, (hf b hb).2.1, (hf b hb).2.2.2.2.1, (hf b hb).2.2.2.2.2⟩) (fun b o _ _ hc e _ => k b o hc e) (fun b o _ _ hc e _ => ⟨o.slots, k b o hc e⟩)
    (fun b o _ e n => ?_) (fun b o hc e => ⟨o, k b o hc e⟩) (fun b xs e => ?_) (fun b o u e => ?_) (fun b ps e => ⟨#[], ?_⟩) (fun m hm => ?_) (fun b u e => ?_) I.bare
  · rw [upd_ne (Nat.ne_of_lt (Nat.lt_of_lt_of_le (Heap.lt_size e) hT))]; exact n
  · rw [upd_ne (ne_of_none e hn)]; exact e
  · rw [upd_ne (ne_of_none e hn)]; exact e
  · rw [upd_ne (ne_of_none e hn), e]; simp
  · obtain ⟨o, es, ep, ho, r⟩ := hm
    exact ⟨o, es, ep, k _ o (fun z => (hf _ z).2.1 rfl) ho, r⟩
  · by_cases hb : b = T
    · subst hb
      rw [upd_same] at e
      cases e
      exact new
    · rw [upd_ne hb] at e
      refine (I.hok b u e).stay (fun c v hc q => k c v ?_ q) (fun c q => by rw [upd_ne (ne_of_none q hn)]; exact q) fun c xs q => by rw [upd_ne (ne_of_none q hn)]; exact q
      rcases hc with z | z
      · rw [z]; exact nit b u e
      · exact nit c _ z
end
section
variable {X : Cx}
end
section
variable {X : Cx} {tg : Expr}
end
section
variable {X : Cx} {tg : Expr}
end
section
variable {prog : Program} {w : World} {A : Around} {E : Value → Shared → Prop} {s : Shared}
end
section
variable {X : Cx} {pins : List (Addr × Obj)} {σ : St} {H : Hp} {s : Shared} {d : Addr} {o : Obj}
end
section
variable {P : Program} {w : World} {K : PySem.W.Frag} {tg : Expr} {d : Addr} {o : Obj} {es : Array DictEntry} {ep : Nat}
end
section
variable {X : Cx} {tg e : Expr} {td : TE} {apos cpos : Pos}
end
/-- the list at a as it stands at each turn, each item in a new pair -/
def Ite (K : PySem.W.Frag) (a : Addr) : It :=
  ⟨fun i H => ∃ (xs : List V) (x : V), SqL K H a xs ∧ xs[i]? = some x, fun i H v H' => ∃ T x, v = .ref T ∧ H T = none ∧ H' = upd H T (.tup [.int (i : Nat), x]) ∧ ∀ xs, SqL K H a xs → xs[i]? = some x, fun i H => ∃ xs : List V, SqL K H a xs ∧ xs.length ≤ i⟩
theorem turn_enum {P : Program} {w : World} {K : PySem.W.Frag} {elts : List Expr} {kk : Nat} {tpos : Pos} (a e it : Addr) :
    Turn P w K (.Tuple elts kk tpos) (Ite K a) [e, it] e (fun i h => (∃ old, IsEnum h e it ((i : Nat) : Int) old) ∧ h.IsListIter it a i ∧ e ≠ it) where
  mem := by simp
  obj := fun i h st b hb => by
    obtain ⟨⟨old, he⟩, ⟨o, ho, hc, hd⟩, _⟩ := st
    have e' : b = e ∨ b = it := by simpa using hb
    rcases e' with z | z
    · rw [z]; exact ⟨_, he, fun v q => nomatch q⟩
    · rw [z]; exact ⟨o, ho, fun v q => by rw [hd] at q; cases q⟩
  keep := fun i h h' st k => let ⟨⟨old, he⟩, hi, hne⟩ := st; ⟨⟨old, k e (by simp) _ he⟩, hi.at fun o q => k it (by simp) o q, hne⟩
  item := by
    intro X hP hw hK hc i pins s σ H E I hf st hg
    subst hP hw hK
    obtain ⟨⟨old, he⟩, hit, hne⟩ := st
    obtain ⟨xs, x, hq, hx⟩ := hg
    obtain ⟨its, rv, p, hz⟩ := I.list hq
    obtain ⟨u, hu, ru⟩ := rv.get hx
    have hel : e < s.heap.objs.size := Heap.lt_size he
    have hil : it < s.heap.objs.size := by obtain ⟨_, q, _⟩ := hit; exact Heap.lt_size q
    refine wpAny_pyNext_enum_item he hit p.isList (x := u) (by simpa using hu) hne fun h' ho hit' hT hsz hk => ?_
    refine ⟨_, rfl, wpAny_letOwnedTupleGo_enum (s := { s with heap := h', toks := s.toks + 1 }) ho fun h'' he' sb => ?_⟩
    have hT2 : h''.get? s.heap.objs.size = some { cls := .type "tuple", data := .seq #[.int i s.toks, u] } := (sb.2 _ (Nat.ne_of_gt hel)).trans hT
    have new : ObjOk X.prog X.w (upd H s.heap.objs.size (.tup [.int (i : Nat), x])) h'' s.heap.objs.size (.tup [.int (i : Nat), x]) :=
      ⟨by show 2 ≤ sizeLine; decide, [.int i s.toks, u], .cons ⟨_, rfl⟩ (.cons ru .nil), ⟨_, hT2, rfl, _, rfl⟩⟩
    have I1 : Inv X pins σ (upd H s.heap.objs.size (.tup [.int (i : Nat), x])) { s with heap := h'', toks := s.toks + 1 } :=
      I.turnedNew (ch := [e, it]) (fun b ob hb q => (sb.2 b (fun z => hb (by simp [z]))).trans (hk b ob (fun z => hb (by simp [z])) (fun z => hb (by simp [z])) q)) hf (Nat.le_refl _) new
    refine ⟨.ref s.heap.objs.size, _, I1, rfl, ⟨_, x, rfl, I.hok.fresh (Nat.le_refl _), rfl, fun ys hy => by rw [I.list_inj hy hq]; exact hx⟩, ⟨⟨u, ?_⟩, hit'.at fun o q => (sb.2 it (Ne.symm hne)).trans q, hne⟩, fun b hb => ?_⟩
    · have e1 : ((i + 1 : Nat) : Int) = (i : Int) + 1 := by omega
      rw [e1]; exact he'
    · have hb' : b < s.heap.objs.size := by
        have e' : b = e ∨ b = it := by simpa using hb
        rcases e' with z | z
        · rw [z]; exact hel
        · rw [z]; exact hil
      rw [upd_ne (Nat.ne_of_lt hb')]
      exact (hf b hb).1
  done := by
    intro X hP hw hK hc i pins s σ H E I hf st hg
    subst hP hw hK
    obtain ⟨⟨old, he⟩, hit, hne⟩ := st
    obtain ⟨xs, hq, hx⟩ := hg
    obtain ⟨its, rv, p, hz⟩ := I.list hq
    obtain ⟨f0, f1, f2, f3, f4, f5⟩ := hf it (by simp)
    have hl := rv.length
    exact wpAny_pyNext_enum_end (I.ok.hd hc) he hit p.isList (by simp; omega) fun h' eb => ⟨rfl, I.turned (t' := s.toks) (fun b o hb q => eb b o hb q) f0 f1 f3 f4 f5⟩
  self := fun A i s Q E st h => let ⟨⟨_, he⟩, _⟩ := st; wpAny_pyIter_enum he h
def iEnum (K : PySem.W.Frag) (ta : TA) : TI := fun σ H R => ta σ H fun vs H1 => ∃ a xs, vs = [.ref a] ∧ SqL K H1 a xs ∧ R (Ite K a) H1
theorem pi_enum {X : Cx} {e : Expr} {ta : TA} {p pos tpos : Pos} {elts : List Expr} {kk : Nat} (hg : Gl X "enumerate") (hm : X.mg "enumerate" = none) (ha : PA X [e] ta) (hs : starEach [e] X.env = [(false, eval e X.env)] := by rfl) :
    PI X (.Tuple elts kk tpos) (.Call (.Name "enumerate" p) [e] [] pos) (iEnum X.K ta) := by
  intro pins s σ H R I h
  refine Call_ (ld_blt I hg hm boot_enumerate (PyProof.Rows.callWith_type1 (thn (ha pos pins s σ H _ I h) fun us s1 ⟨vs, H1, I1, r1, q1⟩ => ?_) hs rfl))
  obtain ⟨a, xs, ex, hq, q⟩ := q1
  subst ex
  cases r1 with
  | cons r rr =>
    cases rr
    cases r
    obtain ⟨its, rv, p', hz⟩ := I1.list hq
    refine call_enumerate_list p'.isList fun h' he hit hsz hk => wpAny_pyIter_enum he ?_
    have I2 : Inv X pins σ H1 { s1 with heap := h' } := I1.kept (t' := s1.toks) hk
    refine ⟨s1.heap.objs.size + 1, [s1.heap.objs.size + 1, s1.heap.objs.size], _, _, H1, rfl, I2, turn_enum a (s1.heap.objs.size + 1) s1.heap.objs.size, ⟨⟨.none, he⟩, hit, Nat.succ_ne_self _⟩, fun b hb => ?_, q⟩
    have e' : b = s1.heap.objs.size + 1 ∨ b = s1.heap.objs.size := by simpa using hb
    have hle : s1.heap.objs.size ≤ b := by
      rcases e' with z | z
      · rw [z]; exact Nat.le_add_right _ _
      · rw [z]; exact Nat.le_refl _
    exact I1.fpOk hle (I1.hok.fresh hle)
theorem boot_zip5 : bootBuiltins "zip" = some (.type "zip") := by decide +kernel
/-- the lists at a and b as they stand at each turn, the items in new pairs -/
def Itz (K : PySem.W.Frag) (a b : Addr) : It :=
  ⟨fun i H => ∃ (xs ys : List V) (x y : V), SqL K H a xs ∧ SqL K H b ys ∧ xs[i]? = some x ∧ ys[i]? = some y,
    fun i H v H' => ∃ T x y, v = .ref T ∧ H T = none ∧ H' = upd H T (.tup [x, y]) ∧ (∀ xs, SqL K H a xs → xs[i]? = some x) ∧ ∀ ys, SqL K H b ys → ys[i]? = some y,
    fun i H => ∃ xs ys : List V, SqL K H a xs ∧ SqL K H b ys ∧ (xs.length ≤ i ∨ ys.length ≤ i)⟩
theorem turn_zip {P : Program} {w : World} {K : PySem.W.Frag} {elts : List Expr} {kk : Nat} {tpos : Pos} {a b z TI TO i1 i2 : Addr} (D : ZipApart z TI TO i1 i2 a b) :
    Turn P w K (.Tuple elts kk tpos) (Itz K a b) [z, TI, TO, i1, i2] z (fun i h => IsZip h z TI TO .none ∧ IsPair h TI (.ref i1) (.ref i2) ∧ (∃ x y, IsPair h TO x y) ∧ h.IsListIter i1 a i ∧ h.IsListIter i2 b i) where
  mem := by simp
  obj := fun i h st c hc => by
    obtain ⟨hz, hTI, ⟨x, y, hTO⟩, ⟨o1, e1, _, d1⟩, ⟨o2, e2, _, d2⟩⟩ := st
    have e' : c = z ∨ c = TI ∨ c = TO ∨ c = i1 ∨ c = i2 := by simpa using hc
    rcases e' with q | q | q | q | q
    · rw [q]; exact ⟨_, hz, fun v q => nomatch q⟩
    · rw [q]; exact ⟨_, hTI, fun v q => nomatch q⟩
    · rw [q]; exact ⟨_, hTO, fun v q => nomatch q⟩
    · rw [q]; exact ⟨o1, e1, fun v q => by rw [d1] at q; cases q⟩
    · rw [q]; exact ⟨o2, e2, fun v q => by rw [d2] at q; cases q⟩
  keep := fun i h h' st k => by
    obtain ⟨hz, hTI, ⟨x, y, hTO⟩, h1, h2⟩ := st
    exact ⟨k z (by simp) _ hz, k TI (by simp) _ hTI, ⟨x, y, k TO (by simp) _ hTO⟩, h1.at fun o q => k i1 (by simp) o q, h2.at fun o q => k i2 (by simp) o q⟩
  item := by
    intro X hP hw hK hc i pins s σ H E I hf st hg
    subst hP hw hK
    obtain ⟨hz, hTI, ⟨x0, y0, hTO⟩, h1, h2⟩ := st
    obtain ⟨xs, ys, x, y, hqx, hqy, hx, hy⟩ := hg
    obtain ⟨its, rv, p, _⟩ := I.list hqx
    obtain ⟨its2, rv2, p2, _⟩ := I.list hqy
    obtain ⟨u, hu, ru⟩ := rv.get hx
    obtain ⟨u2, hu2, ru2⟩ := rv2.get hy
    have hzl : z < s.heap.objs.size := Heap.lt_size hz
    refine wpAny_pyNext_zip_item D hz hTI hTO h1 h2 p.isList p2.isList (x := u) (y := u2) (by simpa using hu) (by simpa using hu2) fun h' z' TO' h1' h2' hT hsz hk => ?_
    refine ⟨_, rfl, wpAny_letOwnedTupleGo_zip (s := { s with heap := h' }) z' fun h'' z'' sb => ?_⟩
    have hT2 : h''.get? s.heap.objs.size = some { cls := .type "tuple", data := .seq #[u, u2] } := (sb.2 _ (Nat.ne_of_gt hzl)).trans hT
    have new : ObjOk X.prog X.w (upd H s.heap.objs.size (.tup [x, y])) h'' s.heap.objs.size (.tup [x, y]) :=
      ⟨by show 2 ≤ sizeLine; decide, [u, u2], .cons ru (.cons ru2 .nil), ⟨_, hT2, rfl, _, rfl⟩⟩
    have I1 : Inv X pins σ (upd H s.heap.objs.size (.tup [x, y])) { s with heap := h'' } :=
      I.turnedNew (t' := s.toks) (ch := [z, TI, TO, i1, i2]) (fun c o hb q => (sb.2 c (fun q' => hb (by simp [q']))).trans (hk c o (fun q' => hb (by simp [q'])) (fun q' => hb (by simp [q'])) (fun q' => hb (by simp [q'])) (fun q' => hb (by simp [q'])) q)) hf (Nat.le_refl _) new
    refine ⟨.ref s.heap.objs.size, _, I1, rfl, ⟨_, x, y, rfl, I.hok.fresh (Nat.le_refl _), rfl, fun l hl => by rw [I.list_inj hl hqx]; exact hx, fun l hl => by rw [I.list_inj hl hqy]; exact hy⟩, ⟨z'', ?_, ⟨u, u2, ?_⟩, ?_, ?_⟩, fun c hcm => ?_⟩
    · exact (sb.2 _ D.TIz).trans (hk _ _ D.TIz D.TITO D.TIi1 D.TIi2 hTI)
    · exact (sb.2 _ D.TOz).trans TO'
    · exact h1'.at fun o q => (sb.2 _ D.i1z).trans q
    · exact h2'.at fun o q => (sb.2 _ D.i2z).trans q
    · have hlt : c < s.heap.objs.size := by
        have e' : c = z ∨ c = TI ∨ c = TO ∨ c = i1 ∨ c = i2 := by simpa using hcm
        rcases e' with q | q | q | q | q
        · rw [q]; exact hzl
        · rw [q]; exact Heap.lt_size hTI
        · rw [q]; exact Heap.lt_size hTO
        · rw [q]; obtain ⟨_, e1, _⟩ := h1; exact Heap.lt_size e1
        · rw [q]; obtain ⟨_, e2, _⟩ := h2; exact Heap.lt_size e2
      rw [upd_ne (Nat.ne_of_lt hlt)]
      exact (hf c hcm).1
  done := by
    intro X hP hw hK hc i pins s σ H E I hf st hg
    subst hP hw hK
    obtain ⟨hz, hTI, ⟨x0, y0, hTO⟩, h1, h2⟩ := st
    obtain ⟨xs, ys, hqx, hqy, hend⟩ := hg
    obtain ⟨its, rv, p, _⟩ := I.list hqx
    obtain ⟨its2, rv2, p2, _⟩ := I.list hqy
    have l1 := rv.length
    have l2 := rv2.length
    have he : its.toArray[i]? = none ∨ its2.toArray[i]? = none := by
      rcases hend with q | q
      · exact .inl (by simp; omega)
      · exact .inr (by simp; omega)
    exact wpAny_pyNext_zip_end (I.ok.hd hc) D hz hTI hTO h1 h2 p.isList p2.isList he fun h' hk => ⟨rfl, I.turnedL (t' := s.toks) (ch := [z, TI, TO, i1, i2]) (fun c o hb q =>
      hk c o (fun q' => hb (by simp [q'])) (fun q' => hb (by simp [q'])) (fun q' => hb (by simp [q'])) (fun q' => hb (by simp [q'])) q) hf⟩
  self := fun A i s Q E st h => wpAny_pyIter_zip st.1 h
def iZip (K : PySem.W.Frag) (ta : TA) : TI := fun σ H R => ta σ H fun vs H1 => ∃ a b xs ys, vs = [.ref a, .ref b] ∧ SqL K H1 a xs ∧ SqL K H1 b ys ∧ R (Itz K a b) H1
theorem pi_zip {X : Cx} {e e2 : Expr} {ta : TA} {p pos tpos : Pos} {elts : List Expr} {kk : Nat} (hg : Gl X "zip") (hm : X.mg "zip" = none) (ha : PA X [e, e2] ta)
    (hs : starEach [e, e2] X.env = (false, eval e X.env) :: starEach [e2] X.env := by rfl) (hpl : (backTo pos (starEach [e2] X.env)).any (·.1) = false := by rfl) :
    PI X (.Tuple elts kk tpos) (.Call (.Name "zip" p) [e, e2] [] pos) (iZip X.K ta) := by
  intro pins s σ H R I h
  refine Call_ (ld_blt I hg hm boot_zip5 (PyProof.Rows.callWith_type1 (thn (ha pos pins s σ H _ I h) fun us s1 ⟨vs, H1, I1, r1, q1⟩ => ?_) hs hpl))
  obtain ⟨a, b, xs, ys, ex, hqx, hqy, q⟩ := q1
  subst ex
  cases r1 with
  | cons r rr =>
    cases rr with
    | cons r' rr =>
      cases rr
      cases r
      cases r'
      obtain ⟨its, rv, p1, _⟩ := I1.list hqx
      obtain ⟨its2, rv2, p2, _⟩ := I1.list hqy
      have la : a < s1.heap.objs.size := p1.lt
      have lb : b < s1.heap.objs.size := p2.lt
      refine call_zip_2 p1.isList p2.isList fun h' hz hTI hTO h1 h2 hsz hk => wpAny_pyIter_zip hz ?_
      have I2 : Inv X pins σ H1 { s1 with heap := h' } := I1.kept (t' := s1.toks) hk
      refine ⟨s1.heap.objs.size + 4, [s1.heap.objs.size + 4, s1.heap.objs.size + 2, s1.heap.objs.size + 3, s1.heap.objs.size, s1.heap.objs.size + 1], _, _, H1, rfl, I2, turn_zip (PySem.W.ktu_apart s1.heap.objs.size a b la lb), ⟨hz, hTI, ⟨_, _, hTO⟩, h1, h2⟩, fun c hcm => ?_, q⟩
      have e' : c = s1.heap.objs.size + 4 ∨ c = s1.heap.objs.size + 2 ∨ c = s1.heap.objs.size + 3 ∨ c = s1.heap.objs.size ∨ c = s1.heap.objs.size + 1 := by simpa using hcm
      have hle : s1.heap.objs.size ≤ c := by
        rcases e' with z | z | z | z | z
        · rw [z]; exact Nat.le_add_right _ _
        · rw [z]; exact Nat.le_add_right _ _
        · rw [z]; exact Nat.le_add_right _ _
        · rw [z]; exact Nat.le_refl _
        · rw [z]; exact Nat.le_add_right _ _
      exact I1.fpOk hle (I1.hok.fresh hle)
end L2
section 
namespace Bits
open PySem PyProof.Rows
end Bits
end 
section 
namespace TL
open PySem PySem.Builtin PySem.Builtin.Str PySem.StrLaws
end TL
end 
namespace L2
open PySem PySem.Spec PyProof.Rows
section
variable {X : Cx} {pins : List (Addr × Obj)} {σ : St} {H : Hp} {s : Shared} {Q : VK}
end
section
variable {X : Cx}
end
section
variable {X : Cx} {o e : Expr} {to te : TE}
end
end L2
namespace L2
open PySem PySem.Spec PyProof.Rows
section
variable {X : Cx}
end
end L2
namespace Att
open PySem PySem.W PySem.Calls PyProof.Rows
section
variable {prog : Program} {w : World} {A : Around} {E : Value → Shared → Prop} {s : Shared} {K : Frag}
end
end Att
namespace L2
open PySem PySem.Spec PyProof.Rows
end L2
namespace L2
open PySem PySem.Spec PyProof.Rows
end L2
/- THE LAST THEOREM (shape; LID, My.* are yours):
   My.Adr: a structure of the addresses that your layer names (classes, functions); My.Txt K t: a structure (Prop) of the equations over K;
   My.txt_mk : {K} {implicit addresses ..} (e1 : nsIn K mainGlobals "law" = some (some (.ref f))) (e2 : K.lookup f = some ⟨oc, od, .func (fnOf "law" "law" params body scope dV kV doc pm an cdv ct), sl⟩) (e3 : codeIn K cdv "law" = true) .. : ∃ t, My.Txt K t
set_option maxRecDepth 100000 in
set_option maxHeartbeats 0 in
theorem PySem.Challenge.cw_LID_holds : PySem.Challenge.rw_LID.Holds := by
  w_on; o_law; k_head; (case hw => w_witness2)
  k_fill
  refine L2.walk_of (l := PySem.Challenge.rw_LID) (n := 63) (k := 40) (x := "script") (CX := fun w => ..) (sp := fun _ => My.sp_law) rfl (by decide) rfl ⟨rfl, by decide, by decide⟩ (fun w h Y => PySem.W.kIn_of Y) ?F ?S ?C
  case F =>
    intro w mg fa h KX G hmg
    have T : ∃ t, My.Txt (L2.KOf KX) t := by
      dsimp only [L2.KOf]                          -- K must stand as «<heap const> w.params» for k_is
      refine' My.txt_mk ?e1 ?e2 ?e3 ..
      (case e1 => PySem.W.k_is)                    -- in the order: a name -> its address -> its object -> its parts
      (case e2 => PySem.W.k_is)
      ..
    obtain ⟨t, T⟩ := T
    have e0 := hmg.symm.trans (PySem.W.mg_of KX G T.law)
    cases e0                                       -- fa is the law's own address
    exact ⟨_, fun s u => .of_eq rfl, fun base kb nb => My.law_fn T kb nb⟩     -- if «.of_eq rfl» comes too early: refine' ⟨_, ?b, fun base kb nb => My.law_fn T kb nb⟩; exact fun s u => .of_eq rfl
  case S => exact fun w H a ns hl hO hS => ..
  case C => exact ..
(the tactic k_is has no namespace: write k_is) -/
namespace L2
open PySem PySem.Spec PyProof.Rows
def defArgs (s : Stmt) : Arguments := match s with
  | .FunctionDef _ a _ _ _ _ _ _ _ _ => a
  | _ => { posonlyargs := [], args := [], vararg := none, kwonlyargs := [], kw_defaults := [], kwarg := none, defaults := [] }
def defBody (s : Stmt) : List Stmt := match s with
  | .FunctionDef _ _ b _ _ _ _ _ _ _ => b
  | _ => []
def defScope (s : Stmt) : Scope := match s with
  | .FunctionDef _ _ _ _ _ _ sc _ _ _ => sc
  | _ => { kind := .function, names := [], isGenerator := false, isCoroutine := false }
abbrev CX0 : CXT := fun _ _ _ _ _ _ => False
abbrev E0 : XK := fun _ _ _ => False
theorem pass0 {X : Cx} : Passes CX0 X E0 := fun _ _ _ _ _ _ _ h => h.elim
structure Fun (K : PySem.W.Frag) (x qual : Str) (st : Stmt) (f : Addr) (fd : FuncData) : Prop where
  ex : ∃ (oc : Value) (od : Option Addr) (kV doc pm : Value) (an : Option Addr) (cdv ct : Value) (osl : Array (Option Value)),
    fd = PySem.W.fnOf x qual (defArgs st) (defBody st) (defScope st) .none kV doc pm an cdv ct ∧ K.lookup f = some ⟨oc, od, .func fd, osl⟩ ∧ PySem.W.codeIn K cdv qual = true
  kp : PySem.W.keepIn K (.ref f) = true
section
variable {P : Program} {w : World} {K : PySem.W.Frag} {mg : Str → Option Value} {base : Heap}
/-- THE RULE for a def: its body as a term of rules, and the reading of that term -/
theorem Fun.ok {x qual : Str} {st : Stmt} {f : Addr} {fd : FuncData} {N ps : List Str} {k : Nat} {sp : Sp} (F : Fun K x qual st f fd) (S : FnScope N ps (defScope st)) (len : ∀ vs H Q E, sp vs H Q E → vs.length = ps.length)
    (hbody : ∀ (cdv : Value) (A : Around) (outer : List Env) (s : Shared) (H : Hp) (vs : List V) (Q : VK) (E : XK), Room k (A.deeper (envOfC qual (defScope st) s.heap.objs.size f cdv)) → sp vs H Q E →
      ∃ t, PSs (cxOf CX0 P w K mg base N qual (defScope st) f cdv A outer s H E).nox (defBody st) t ∧ t { nx := fun _ H' => Q .non H', rt := Q } (start N vs) H) : FnOk P w K mg base CX0 (k + 1) f fd ps sp := by
  obtain ⟨oc, od, kV, doc, pm, an, cdv, ct, osl, rfl, lk, hcd⟩ := F.ex
  refine fn_of lk hcd S len fun A outer s H vs Q E hr hsp => ?_
  obtain ⟨t, h, q⟩ := hbody cdv A outer s H vs Q E hr hsp
  exact ⟨t, h.nox, q⟩
/-- how its arguments bind (no defaults): h is «fun _ _ _ _ _ _ us hl => match us, hl with | [_, _], _ => rfl», one _ a parameter -/
theorem Fun.binds {x qual : Str} {st : Stmt} {f : Addr} {fd : FuncData} {ps : List Str} (F : Fun K x qual st f fd)
    (h : ∀ (kV doc pm : Value) (an : Option Addr) (cdv ct : Value) (us : List Value), us.length = ps.length → bindArgs (PySem.W.fnOf x qual (defArgs st) (defBody st) (defScope st) .none kV doc pm an cdv ct) ⟨us, []⟩ = pure (ps.zip us)) : Binds K fd ps [] := by
  obtain ⟨oc, od, kV, doc, pm, an, cdv, ct, osl, rfl, lk, hcd⟩ := F.ex
  exact .all (h kV doc pm an cdv ct)
theorem fun_mk {x qual : Str} {st : Stmt} {f : Addr} {oc : Value} {od an : Option Addr} {osl : Array (Option Value)} {kV doc pm cdv ct : Value} (l : K.lookup f = some ⟨oc, od, .func (PySem.W.fnOf x qual (defArgs st) (defBody st) (defScope st) .none kV doc pm an cdv ct), osl⟩)
    (c : PySem.W.codeIn K cdv qual = true) (k : PySem.W.keepIn K (.ref f) = true) : Fun K x qual st f (PySem.W.fnOf x qual (defArgs st) (defBody st) (defScope st) .none kV doc pm an cdv ct) := ⟨⟨oc, od, kV, doc, pm, an, cdv, ct, osl, rfl, l, c⟩, k⟩
end
theorem small1000 {n : Nat} (h : n ≤ 1000) : n < sizeLine := Nat.lt_of_le_of_lt h (by decide)
section
variable {X : Cx}
theorem pv (i : Nat) {x : Str} {pos : Pos} (hN : X.N[i]? = some x := by rfl) (hv : Vis X.env.scope x := by first | exact Or.inl rfl | exact Or.inr (Or.inl rfl) | exact Or.inr (Or.inr rfl)) (hd : (x == ("__debug__" : Str)) = false := by decide)
    (hcd : (x == ("__classdict__" : Str)) = false := by decide) : PE X (.Name x pos) (tVar i) := pe_var hN hv hd hcd
end
theorem iteT {A B : Prop} (h : A) : if true = true then A else B := by
  rw [if_pos rfl]
  exact h
theorem ite2 {c A B : Prop} [Decidable c] (h1 : c → A) (h2 : ¬ c → B) : if c then A else B := by
  by_cases h : c
  · rw [if_pos h]
    exact h1 h
  · rw [if_neg h]
    exact h2 h
/-- all that was tracked is as it was -/
def Same (H H' : Hp) : Prop := ∀ b o, H b = some o → H' b = some o
theorem Same.refl (H : Hp) : Same H H := fun _ _ h => h
theorem Same.trans {H H1 H2 : Hp} (a : Same H H1) (b : Same H1 H2) : Same H H2 := fun c o h => b c o (a c o h)
theorem Same.free {H H' : Hp} (e : Same H H') {l : Addr} (h : H' l = Option.none) : H l = Option.none := by
  cases q : H l with
  | none => rfl
  | some o =>
    rw [e l o q] at h
    cases h
theorem Same.seq {K : PySem.W.Frag} {H H' : Hp} {a : Addr} {xs : List V} (e : Same H H') (h : SqL K H a xs) : SqL K H' a xs := by
  rcases h with (h | ⟨o, h⟩) | h
  · exact .inl (.inl (e _ _ h))
  · exact .inl (.inr ⟨o, e _ _ h⟩)
  · exact .inr h
section
variable {κ : Type} [DecidableEq κ]
end
theorem at_of {xs : List V} {z : Int} {j : Nat} {v : V} (e : z = (j : Int)) (h : xs[j]? = some v) : atI xs z = some v := by
  rw [e]
  exact atI_nat h
end L2
section
set_option Elab.async false
set_option maxRecDepth 100000
namespace L2
open PySem PySem.Spec PyProof.Rows
open PySem.W (WData Codec OpenSpec Well WellAll ReadsW ReadsAllW)
mutual
/-- x stands for the datum d, lists and tuples all the way -/
inductive Dw (K : PySem.W.Frag) (H : Hp) : V → WData → Prop
  | non : Dw K H .non .none
  | bl (b : Bool) : Dw K H (.bl b) (.bool b)
  | int (i : Int) : Dw K H (.int i) (.int i)
  | str (x : Str) : Dw K H (.str x) (.str x)
  | byt (b : Array UInt8) : Dw K H (.byt b) (.bytes b.toList)
  | lst {a : Addr} {xs : List V} {ds : List WData} : SqL K H a xs → DwAll K H xs ds → Dw K H (.ref a) (.list ds)
  | tup {a : Addr} {xs : List V} {ds : List WData} : SqT K H a xs → DwAll K H xs ds → Dw K H (.ref a) (.tuple ds)
inductive DwAll (K : PySem.W.Frag) (H : Hp) : List V → List WData → Prop
  | nil : DwAll K H [] []
  | cons {v : V} {vs : List V} {d : WData} {ds : List WData} : Dw K H v d → DwAll K H vs ds → DwAll K H (v :: vs) (d :: ds)
end
theorem dw_ints {K : PySem.W.Frag} {H : Hp} : ∀ ns : List Int, DwAll K H (ns.map V.int) (ns.map WData.int)
  | [] => .nil
  | n :: r => .cons (.int n) (dw_ints r)
theorem ints_dw {K : PySem.W.Frag} {H : Hp} : ∀ (ns : List Int) (xs : List V), DwAll K H xs (ns.map WData.int) → xs = ns.map V.int
  | [], xs, h => by
    cases h
    rfl
  | n :: r, xs, h => by
    cases h with
    | cons h1 h2 =>
      cases h1
      rw [ints_dw r _ h2] <;> rfl
section
variable {P : Program} {w : World} {K : PySem.W.Frag} {H : Hp} {h : Heap} {R : PySem.W.WRecords} {cl : Str → Option Addr}
theorem sqL_at {a : Addr} {xs : List V} (hok : HOk P w H h) (KX : K.In h) (q : SqL K H a xs) : ∃ (its : List Value) (o : Obj) (n : Nat), Vals xs its ∧ h.get? a = some o ∧ o.cls = .type "list" ∧ o.data = .seq its.toArray n := by
  rcases q with q | ⟨o, its, n, e, hc, _, hd, _, hv⟩
  · obtain ⟨_, its, n, hv, e⟩ := (show ObjOk P w H h a (.lst xs) from q.ok hok)
    exact ⟨its, _, n, hv, e, rfl, rfl⟩
  · exact ⟨its.toList, o, n, hv, KX _ _ e, hc, by simp [hd]⟩
theorem sqT_at {a : Addr} {xs : List V} (hok : HOk P w H h) (KX : K.In h) (q : SqT K H a xs) : ∃ (its : List Value) (o : Obj) (n : Nat), Vals xs its ∧ h.get? a = some o ∧ o.cls = .type "tuple" ∧ o.data = .seq its.toArray n := by
  rcases q with q | ⟨o, its, n, e, hc, hd, _, hv⟩
  · obtain ⟨_, its, hv, o, e, hc, n, hd⟩ := (show ObjOk P w H h a (.tup xs) from q.ok hok)
    exact ⟨its, o, n, hv, e, hc, hd⟩
  · exact ⟨its.toList, o, n, hv, KX _ _ e, hc, by simp [hd]⟩
mutual
theorem Dw.reads (hok : HOk P w H h) (KX : K.In h) : ∀ (d : WData) (v : V) (u : Value), Dw K H v d → RelV v u → ∃ as, ReadsW R cl h u d as
  | .none, _, _, x, r => by
    cases x
    cases r
    exact ⟨_, ReadsW.none⟩
  | .bool b, _, _, x, r => by
    cases x
    cases r
    exact ⟨_, ReadsW.bool b⟩
  | .int i, _, _, x, r => by
    cases x
    obtain ⟨t, rfl⟩ := r
    exact ⟨_, ReadsW.int i t⟩
  | .str s, _, _, x, r => by
    cases x
    obtain ⟨t, rfl⟩ := r
    exact ⟨_, ReadsW.str s t⟩
  | .bytes b, _, _, x, r => by
    cases x
    obtain ⟨t, rfl⟩ := r
    exact ⟨_, ReadsW.bytes _ t⟩
  | .list ds, _, _, x, r => by
    cases x with
    | lst hs ha =>
      cases r
      obtain ⟨its, o, n, rv, ho, hc, hd⟩ := sqL_at hok KX hs
      obtain ⟨as, hr⟩ := Dw.readsAll hok KX ds _ its ha rv
      exact ⟨_, ReadsW.list ho hc hd hr⟩
  | .tuple ds, _, _, x, r => by
    cases x with
    | tup hs ha =>
      cases r
      obtain ⟨its, o, n, rv, ho, hc, hd⟩ := sqT_at hok KX hs
      obtain ⟨as, hr⟩ := Dw.readsAll hok KX ds _ its ha rv
      exact ⟨_, ReadsW.tuple ho hc hd hr⟩
  | .float _, _, _, x, _ => by cases x
  | .dict _, _, _, x, _ => by cases x
  | .bytearray _, _, _, x, _ => by cases x
  | .set _, _, _, x, _ => by cases x
  | .frozenset _, _, _, x, _ => by cases x
  | .obj _ _, _, _, x, _ => by cases x
theorem Dw.readsAll (hok : HOk P w H h) (KX : K.In h) : ∀ (ds : List WData) (vs : List V) (us : List Value), DwAll K H vs ds → Vals vs us → ∃ as, ReadsAllW R cl h us ds as
  | [], _, _, x, r => by
    cases x
    cases r
    exact ⟨_, ReadsAllW.nil⟩
  | d :: ds, _, _, x, r => by
    cases x with
    | cons h1 h2 =>
      cases r with
      | cons r1 r2 =>
        obtain ⟨as, q1⟩ := Dw.reads hok KX d _ _ h1 r1
        obtain ⟨bs, q2⟩ := Dw.readsAll hok KX ds _ _ h2 r2
        exact ⟨_, ReadsAllW.cons q1 q2⟩
end
end
mutual
/-- data that a codec tells -/
def plW : WData → Bool
  | .none => true
  | .bool _ => true
  | .int _ => true
  | .str _ => true
  | .bytes _ => true
  | .list xs => plWs xs
  | .tuple xs => plWs xs
  | _ => false
def plWs : List WData → Bool
  | [] => true
  | x :: r => plW x && plWs r
end
theorem plWs_map {α : Type} {f : α → WData} (h : ∀ a, plW (f a) = true) : ∀ l : List α, plWs (l.map f) = true
  | [] => rfl
  | x :: r => by
    show (plW (f x) && plWs (r.map f)) = true
    rw [h x, plWs_map h r] <;> rfl
theorem pl_enc : ∀ (c : Codec) (a : c.denote), plW (c.enc a) = true
  | .unit, _ => rfl
  | .bool, _ => rfl
  | .int _ _, _ => rfl
  | .nat _ _, _ => rfl
  | .u8, _ => rfl
  | .bytes _ _, _ => rfl
  | .text _ _ _ _, _ => rfl
  | .list _ _ c, a => plWs_map (fun x => pl_enc c x) a
  | .pair c d, a => by
    show (plW (c.enc a.1) && (plW (d.enc a.2) && true)) = true
    rw [pl_enc c a.1, pl_enc d a.2] <;> rfl
  | .triple c d e, a => by
    show (plW (c.enc a.1) && (plW (d.enc a.2.1) && (plW (e.enc a.2.2) && true))) = true
    rw [pl_enc c a.1, pl_enc d a.2.1, pl_enc e a.2.2] <;> rfl
  | .option c, none => rfl
  | .option c, some x => pl_enc c x
theorem pl_encAll : ∀ (cs : List Codec) (a : Codec.denoteAll cs), plWs (Codec.encAll cs a) = true
  | [], _ => rfl
  | c :: cs, a => by
    show (plW (c.enc a.1) && plWs (Codec.encAll cs a.2)) = true
    rw [pl_enc c a.1, pl_encAll cs a.2] <;> rfl
theorem weight_mem : ∀ {xs : List WData} {d : WData}, d ∈ xs → d.weight ≤ WData.weightAll xs
  | [], d, h => absurd h (by simp)
  | x :: r, d, h => by
    show d.weight ≤ x.weight + 1 + WData.weightAll r
    rcases List.mem_cons.mp h with e | m
    · rw [e]
      omega
    · have z := weight_mem m
      omega
def toV : Value → V
  | .none => .non
  | .bool b => .bl b
  | .int i _ => .int i
  | .str x _ => .str x
  | .bytes b _ => .byt b
  | .ref a => .ref a
  | _ => .non
/-- a value of the arguments, its objects among A -/
def OkU (A : List Addr) : Value → Prop
  | .none => True
  | .bool _ => True
  | .int _ _ => True
  | .str _ _ => True
  | .bytes _ _ => True
  | .ref a => a ∈ A
  | _ => False
theorem OkU.mono {A B : List Addr} (h : ∀ a ∈ A, a ∈ B) : ∀ {u : Value}, OkU A u → OkU B u := fun {u} x => by
  cases u with
  | ref a => exact h a x
  | none => trivial
  | bool b => trivial
  | int i t => trivial
  | str s t => trivial
  | bytes b t => trivial
  | _ => exact False.elim x
theorem relV_toV {A : List Addr} {u : Value} (x : OkU A u) : RelV (toV u) u := by
  cases u with
  | ref a => rfl
  | none => rfl
  | bool b => rfl
  | int i t => exact ⟨t, rfl⟩
  | str s t => exact ⟨t, rfl⟩
  | bytes b t => exact ⟨t, rfl⟩
  | _ => exact False.elim x
theorem vals_toV {A : List Addr} : ∀ {vs : List Value}, (∀ u ∈ vs, OkU A u) → Vals (vs.map toV) vs
  | [], _ => .nil
  | u :: r, h => .cons (relV_toV (h u (List.mem_cons_self ..))) (vals_toV fun x hx => h x (List.mem_cons_of_mem _ hx))
/-- an object of the arguments -/
def ArgOb (h : Heap) (A : List Addr) (a : Addr) : Prop := ∃ vs : List Value, vs.length ≤ sizeLine ∧ (∀ u ∈ vs, OkU A u) ∧
  (h.get? a = some { cls := .type "list", data := .seq vs.toArray } ∨ h.get? a = some { cls := .type "tuple", data := .seq vs.toArray })
theorem ArgOb.mono {h : Heap} {A B : List Addr} {a : Addr} (k : ∀ a ∈ A, a ∈ B) (x : ArgOb h A a) : ArgOb h B a := by
  obtain ⟨vs, h1, h2, h3⟩ := x
  exact ⟨vs, h1, fun u hu => (h2 u hu).mono k, h3⟩
theorem wellAll_len {P : Params} {h : Heap} : ∀ {vs : List Value} {ds : List WData}, WellAll P h vs ds → vs.length = ds.length
  | _, _, .nil => rfl
  | _, _, .cons _ b => by
    show _ + 1 = _ + 1
    rw [wellAll_len b]
theorem well_list {P : Params} {h : Heap} {v : Value} {ds : List WData} (x : Well P h v (.list ds)) : ∃ (a : Addr) (vs : List Value), v = .ref a ∧ h.get? a = some { cls := .type "list", data := .seq vs.toArray } ∧ WellAll P h vs ds := by
  cases x with
  | list ho hall => exact ⟨_, _, rfl, ho, hall⟩
theorem well_tuple {P : Params} {h : Heap} {v : Value} {ds : List WData} (x : Well P h v (.tuple ds)) : ∃ (a : Addr) (vs : List Value), v = .ref a ∧ h.get? a = some { cls := .type "tuple", data := .seq vs.toArray } ∧ WellAll P h vs ds := by
  cases x with
  | tuple ho hall => exact ⟨_, _, rfl, ho, hall⟩
theorem well_cons {P : Params} {h : Heap} {us : List Value} {d : WData} {ds : List WData} (x : WellAll P h us (d :: ds)) : ∃ (v : Value) (vs : List Value), us = v :: vs ∧ Well P h v d ∧ WellAll P h vs ds := by
  cases x with
  | cons a b => exact ⟨_, _, rfl, a, b⟩
theorem line_of {n : Nat} (h : n ≤ 1048576) : n ≤ sizeLine := Nat.le_trans h (by decide)
section
variable {P : Params} {h : Heap}
mutual
theorem area_one : ∀ (d : WData) (v : Value), Well P h v d → plW d = true → d.weight ≤ 1048576 → ∃ A : List Addr, OkU A v ∧ ∀ a ∈ A, ArgOb h A a
  | .none, _, x, _, _ => by
    cases x
    exact ⟨[], trivial, fun a m => absurd m (by simp)⟩
  | .bool b, _, x, _, _ => by
    cases x
    exact ⟨[], trivial, fun a m => absurd m (by simp)⟩
  | .int i, _, x, _, _ => by
    cases x
    exact ⟨[], trivial, fun a m => absurd m (by simp)⟩
  | .str s, _, x, _, _ => by
    cases x
    exact ⟨[], trivial, fun a m => absurd m (by simp)⟩
  | .bytes b, _, x, _, _ => by
    cases x
    exact ⟨[], trivial, fun a m => absurd m (by simp)⟩
  | .list ds, _, x, p, z => by
    obtain ⟨a, vs, rfl, ho, hall⟩ := well_list x
    have z2 : WData.weightAll ds ≤ 1048576 := z
    obtain ⟨A, h1, h2⟩ := area_all ds _ hall p fun d hd => Nat.le_trans (weight_mem hd) z2
    have k : ∀ b ∈ A, b ∈ a :: A := fun b hb => List.mem_cons_of_mem _ hb
    refine ⟨a :: A, List.mem_cons_self .., fun b hb => ?_⟩
    rcases List.mem_cons.mp hb with e | m
    · rw [e]
      exact ⟨vs, line_of (by rw [wellAll_len hall]; exact Nat.le_trans (PySem.W.length_le_weightAllW ds) z2), fun u hu => (h1 u hu).mono k, .inl ho⟩
    · exact (h2 b m).mono k
  | .tuple ds, _, x, p, z => by
    obtain ⟨a, vs, rfl, ho, hall⟩ := well_tuple x
    have z2 : WData.weightAll ds ≤ 1048576 := z
    obtain ⟨A, h1, h2⟩ := area_all ds _ hall p fun d hd => Nat.le_trans (weight_mem hd) z2
    have k : ∀ b ∈ A, b ∈ a :: A := fun b hb => List.mem_cons_of_mem _ hb
    refine ⟨a :: A, List.mem_cons_self .., fun b hb => ?_⟩
    rcases List.mem_cons.mp hb with e | m
    · rw [e]
      exact ⟨vs, line_of (by rw [wellAll_len hall]; exact Nat.le_trans (PySem.W.length_le_weightAllW ds) z2), fun u hu => (h1 u hu).mono k, .inr ho⟩
    · exact (h2 b m).mono k
  | .float _, _, _, p, _ => Bool.noConfusion (show false = true from p)
  | .dict _, _, _, p, _ => Bool.noConfusion (show false = true from p)
  | .bytearray _, _, _, p, _ => Bool.noConfusion (show false = true from p)
  | .set _, _, _, p, _ => Bool.noConfusion (show false = true from p)
  | .frozenset _, _, _, p, _ => Bool.noConfusion (show false = true from p)
  | .obj _ _, _, _, p, _ => Bool.noConfusion (show false = true from p)
theorem area_all : ∀ (ds : List WData) (vs : List Value), WellAll P h vs ds → plWs ds = true → (∀ d ∈ ds, d.weight ≤ 1048576) → ∃ A : List Addr, (∀ u ∈ vs, OkU A u) ∧ ∀ a ∈ A, ArgOb h A a
  | [], _, x, _, _ => by
    cases x
    exact ⟨[], fun u m => absurd m (by simp), fun a m => absurd m (by simp)⟩
  | d :: ds, _, x, p, z => by
    obtain ⟨v, vs, rfl, x1, x2⟩ := well_cons x
    have q : plW d = true ∧ plWs ds = true := Bool.and_eq_true_iff.mp p
    obtain ⟨A, a1, a2⟩ := area_one d v x1 q.1 (z d (List.mem_cons_self ..))
    obtain ⟨B, b1, b2⟩ := area_all ds vs x2 q.2 fun e he => z e (List.mem_cons_of_mem _ he)
    have kA : ∀ b ∈ A, b ∈ A ++ B := fun b hb => List.mem_append.mpr (.inl hb)
    have kB : ∀ b ∈ B, b ∈ A ++ B := fun b hb => List.mem_append.mpr (.inr hb)
    refine ⟨A ++ B, fun u hu => ?_, fun b hb => ?_⟩
    · rcases List.mem_cons.mp hu with e | m
      · rw [e]
        exact a1.mono kA
      · exact (b1 u m).mono kB
    · rcases List.mem_append.mp hb with m | m
      · exact (a2 b m).mono kA
      · exact (b2 b m).mono kB
end
end
/-- what is tracked of an argument's object -/
def hoOf (o : Obj) : Option HO := match o.data with
  | .seq vs _ => if (o.cls == Value.type "list") = true then some (.frz o (.lst (vs.toList.map toV))) else some (.frz o (.tup (vs.toList.map toV)))
  | _ => none
def argH (K : PySem.W.Frag) (h : Heap) (A : List Addr) : Hp := fun b => if b ∈ A then (if (K.lookup b).isNone = true then (h.get? b).bind hoOf else none) else none
/-- nothing is tracked but what is known to the object -/
def OnlyF (H : Hp) : Prop := ∀ b, H b = none ∨ ∃ o u, H b = some (.frz o u)
theorem hoOf_lst (vs : List Value) : hoOf { cls := .type "list", data := .seq vs.toArray } = some (.frz { cls := .type "list", data := .seq vs.toArray } (.lst (vs.map toV))) := by
  show (if (Value.type "list" == Value.type "list") = true then some (HO.frz { cls := .type "list", data := .seq vs.toArray } (.lst (vs.toArray.toList.map toV))) else some (HO.frz { cls := .type "list", data := .seq vs.toArray } (.tup (vs.toArray.toList.map toV)))) = _
  rw [if_pos (beq_self_eq_true _)]
theorem hoOf_tup (vs : List Value) : hoOf { cls := .type "tuple", data := .seq vs.toArray } = some (.frz { cls := .type "tuple", data := .seq vs.toArray } (.tup (vs.map toV))) := by
  show (if (Value.type "tuple" == Value.type "list") = true then some (HO.frz { cls := .type "tuple", data := .seq vs.toArray } (.lst (vs.toArray.toList.map toV))) else some (HO.frz { cls := .type "tuple", data := .seq vs.toArray } (.tup (vs.toArray.toList.map toV)))) = _
  rw [if_neg (by decide)]
section
variable {P : Program} {w : World} {K : PySem.W.Frag} {h : Heap} {A : List Addr}
theorem argH_at {b : Addr} {o : Obj} (hb : b ∈ A) (hk : K.lookup b = none) (e : h.get? b = some o) : argH K h A b = hoOf o := by
  unfold argH
  rw [if_pos hb, hk, if_pos (show (none : Option Obj).isNone = true from rfl), e] <;> rfl
theorem of_argH {b : Addr} {u : HO} (q : argH K h A b = some u) : b ∈ A ∧ K.lookup b = none := by
  unfold argH at q
  by_cases hb : b ∈ A
  · rw [if_pos hb] at q
    cases hk : K.lookup b with
    | none => exact ⟨hb, rfl⟩
    | some o =>
      rw [hk, if_neg (by simp)] at q
      cases q
  · rw [if_neg hb] at q
    cases q
/-- what stands tracked -/
theorem argH_is (ar : ∀ a ∈ A, ArgOb h A a) {b : Addr} {u : HO} (q : argH K h A b = some u) : K.lookup b = none ∧ ∃ vs : List Value, vs.length ≤ sizeLine ∧ (∀ u ∈ vs, OkU A u) ∧
    ((h.get? b = some { cls := .type "list", data := .seq vs.toArray } ∧ u = .frz { cls := .type "list", data := .seq vs.toArray } (.lst (vs.map toV))) ∨
     (h.get? b = some { cls := .type "tuple", data := .seq vs.toArray } ∧ u = .frz { cls := .type "tuple", data := .seq vs.toArray } (.tup (vs.map toV)))) := by
  obtain ⟨hb, hk⟩ := of_argH q
  obtain ⟨vs, h1, h2, h3⟩ := ar b hb
  refine ⟨hk, vs, h1, h2, ?_⟩
  rcases h3 with e | e
  · rw [argH_at hb hk e, hoOf_lst] at q
    exact .inl ⟨e, (Option.some.inj q).symm⟩
  · rw [argH_at hb hk e, hoOf_tup] at q
    exact .inr ⟨e, (Option.some.inj q).symm⟩
theorem argH_only (ar : ∀ a ∈ A, ArgOb h A a) : OnlyF (argH K h A) := fun b => by
  cases q : argH K h A b with
  | none => exact .inl rfl
  | some u =>
    obtain ⟨_, vs, _, _, ⟨_, e⟩ | ⟨_, e⟩⟩ := argH_is ar q
    · exact .inr ⟨_, _, by rw [e]⟩
    · exact .inr ⟨_, _, by rw [e]⟩
theorem argH_ok (ar : ∀ a ∈ A, ArgOb h A a) : HOk P w (argH K h A) h := fun b u q => by
  obtain ⟨_, vs, h1, h2, ⟨e, rfl⟩ | ⟨e, rfl⟩⟩ := argH_is ar q
  · exact ⟨e, by rw [List.length_map]; exact h1, vs, _, vals_toV h2, e⟩
  · exact ⟨e, by rw [List.length_map]; exact h1, vs, vals_toV h2, _, e, rfl, _, rfl⟩
theorem seq_inj {c c' : Value} {vs us : List Value} (e : (some { cls := c, data := .seq vs.toArray } : Option Obj) = some { cls := c', data := .seq us.toArray }) : c = c' ∧ vs = us := by
  have e1 := Option.some.inj e
  have e2 : c = c' := congrArg Obj.cls e1
  have e3 : Data.seq vs.toArray = Data.seq us.toArray := congrArg Obj.data e1
  injection e3 with e4
  refine ⟨e2, ?_⟩
  have e5 := congrArg Array.toList e4
  simpa using e5
/-- a list argument -/
theorem argL (KX : K.In h) (ar : ∀ a ∈ A, ArgOb h A a) {a : Addr} {vs : List Value} (ha : a ∈ A) (e : h.get? a = some { cls := .type "list", data := .seq vs.toArray }) : (∀ u ∈ vs, OkU A u) ∧ SqL K (argH K h A) a (vs.map toV) := by
  obtain ⟨us, h1, h2, h3⟩ := ar a ha
  have hu : us = vs := by
    rcases h3 with q | q
    · rw [e] at q
      exact (seq_inj q).2.symm
    · rw [e] at q
      exact absurd (Value.type.inj (seq_inj q).1) (by decide)
  subst hu
  refine ⟨h2, ?_⟩
  cases hk : K.lookup a with
  | none => exact .inl (.inr ⟨_, by rw [argH_at ha hk e, hoOf_lst]⟩)
  | some o =>
    have e2 := KX a o hk
    rw [e] at e2
    obtain rfl := Option.some.inj e2
    exact .inr ⟨_, us.toArray, _, hk, rfl, rfl, rfl, by rw [List.size_toArray]; exact h1, by simpa using vals_toV h2⟩
theorem argT (KX : K.In h) (ar : ∀ a ∈ A, ArgOb h A a) {a : Addr} {vs : List Value} (ha : a ∈ A) (e : h.get? a = some { cls := .type "tuple", data := .seq vs.toArray }) : (∀ u ∈ vs, OkU A u) ∧ SqT K (argH K h A) a (vs.map toV) := by
  obtain ⟨us, h1, h2, h3⟩ := ar a ha
  have hu : us = vs := by
    rcases h3 with q | q
    · rw [e] at q
      exact absurd (Value.type.inj (seq_inj q).1) (by decide)
    · rw [e] at q
      exact (seq_inj q).2.symm
  subst hu
  refine ⟨h2, ?_⟩
  cases hk : K.lookup a with
  | none => exact .inl (.inr ⟨_, by rw [argH_at ha hk e, hoOf_tup]⟩)
  | some o =>
    have e2 := KX a o hk
    rw [e] at e2
    obtain rfl := Option.some.inj e2
    exact .inr ⟨_, us.toArray, _, hk, rfl, rfl, by rw [List.size_toArray]; exact h1, by simpa using vals_toV h2⟩
mutual
theorem dw_one {Pm : Params} (KX : K.In h) (ar : ∀ a ∈ A, ArgOb h A a) : ∀ (d : WData) (v : Value), Well Pm h v d → plW d = true → OkU A v → Dw K (argH K h A) (toV v) d
  | .none, _, x, _, _ => by
    cases x
    exact .non
  | .bool b, _, x, _, _ => by
    cases x
    exact .bl b
  | .int i, _, x, _, _ => by
    cases x
    exact .int i
  | .str s, _, x, _, _ => by
    cases x
    exact .str s
  | .bytes b, _, x, _, _ => by
    cases x
    have z := Dw.byt (K := K) (H := argH K h A) b.toArray
    exact z
  | .list ds, _, x, p, hu => by
    obtain ⟨a, vs, rfl, ho, hall⟩ := well_list x
    obtain ⟨h2, hs⟩ := argL KX ar hu ho
    exact .lst hs (dw_all KX ar ds _ hall p h2)
  | .tuple ds, _, x, p, hu => by
    obtain ⟨a, vs, rfl, ho, hall⟩ := well_tuple x
    obtain ⟨h2, hs⟩ := argT KX ar hu ho
    exact .tup hs (dw_all KX ar ds _ hall p h2)
  | .float _, _, _, p, _ => Bool.noConfusion (show false = true from p)
  | .dict _, _, _, p, _ => Bool.noConfusion (show false = true from p)
  | .bytearray _, _, _, p, _ => Bool.noConfusion (show false = true from p)
  | .set _, _, _, p, _ => Bool.noConfusion (show false = true from p)
  | .frozenset _, _, _, p, _ => Bool.noConfusion (show false = true from p)
  | .obj _ _, _, _, p, _ => Bool.noConfusion (show false = true from p)
theorem dw_all {Pm : Params} (KX : K.In h) (ar : ∀ a ∈ A, ArgOb h A a) : ∀ (ds : List WData) (vs : List Value), WellAll Pm h vs ds → plWs ds = true → (∀ u ∈ vs, OkU A u) → DwAll K (argH K h A) (vs.map toV) ds
  | [], _, x, _, _ => by
    cases x
    exact .nil
  | d :: ds, _, x, p, hu => by
    obtain ⟨v, vs, rfl, x1, x2⟩ := well_cons x
    have q : plW d = true ∧ plWs ds = true := Bool.and_eq_true_iff.mp p
    exact .cons (dw_one KX ar d v x1 q.1 (hu _ (List.mem_cons_self ..))) (dw_all KX ar ds vs x2 q.2 fun u m => hu u (List.mem_cons_of_mem _ m))
end
end
theorem layable_weight {ds : List WData} (h : WData.layableAll ds = true) : ∀ d ∈ ds, d.weight ≤ 1048576 := fun d hd =>
  (PySem.W.layableW_iff.mp (List.all_eq_true.mp h d hd)).2.2
theorem encAll_len : ∀ (cs : List Codec) (a : Codec.denoteAll cs), (Codec.encAll cs a).length = cs.length
  | [], _ => rfl
  | c :: cs, a => by
    show (Codec.encAll cs a.2).length + 1 = cs.length + 1
    rw [encAll_len cs a.2]
end L2
end
/-! LwLib -/
section
set_option Elab.async false
set_option linter.all false
set_option maxRecDepth 100000
namespace L2
open PySem PySem.Spec PyProof.Rows
theorem Same.put {H : Hp} {p : Addr} {o : HO} (h : H p = Option.none) : Same H (upd H p o) := fun b u e => by
  rw [upd_ne (ne_of_none e h)]; exact e
theorem Same.put2 {H H' : Hp} {p : Addr} {o : HO} (s : Same H H') (h : H p = Option.none) : Same H (upd H' p o) := fun b u e => by
  rw [upd_ne (ne_of_none e h)]; exact s b u e
theorem Same.rd {H H' : Hp} (e : Same H H') {a : Addr} {u : HO} (h : Rd H a u) : Rd H' a u := by
  rcases h with h | ⟨o, h⟩
  · exact .inl (e _ _ h)
  · exact .inr ⟨o, e _ _ h⟩
theorem Same.tup {K : PySem.W.Frag} {H H' : Hp} {a : Addr} {xs : List V} (e : Same H H') (h : SqT K H a xs) : SqT K H' a xs := by
  rcases h with h | h
  · exact .inl (e.rd h)
  · exact .inr h
theorem pair_get {A B : Type} {F : A → B → Prop} : ∀ {l : List A} {r : List B}, Paired F l r → ∀ {j : Nat} {y : B}, r[j]? = some y → ∃ x, l[j]? = some x ∧ F x y
  | _, _, .nil, _, _, h => by simp at h
  | _, _, .cons f _, 0, y, h => by
    have e := Option.some.inj h
    subst e
    exact ⟨_, rfl, f⟩
  | _, _, .cons _ t, j + 1, y, h => pair_get t (j := j) h
theorem pair_len {A B : Type} {F : A → B → Prop} : ∀ {l : List A} {r : List B}, Paired F l r → l.length = r.length
  | _, _, .nil => rfl
  | _, _, .cons _ t => by rw [List.length_cons, List.length_cons, pair_len t]
theorem pair_imp {A B : Type} {F G : A → B → Prop} (h : ∀ x y, F x y → G x y) : ∀ {l : List A} {r : List B}, Paired F l r → Paired G l r
  | _, _, .nil => .nil
  | _, _, .cons f t => .cons (h _ _ f) (pair_imp h t)
theorem pair_set {A B : Type} {F : A → B → Prop} : ∀ {l : List A} {r : List B}, Paired F l r → ∀ (j : Nat) {x : A} {y : B}, F x y → Paired F (l.set j x) (r.set j y)
  | _, _, .nil, _, _, _, _ => .nil
  | _, _, .cons _ t, 0, _, _, f => .cons f t
  | _, _, .cons g t, j + 1, _, _, f => .cons g (pair_set t j f)
theorem pair_app {A B : Type} {F : A → B → Prop} : ∀ {l : List A} {r : List B} {l' : List A} {r' : List B}, Paired F l r → Paired F l' r' → Paired F (l ++ l') (r ++ r')
  | _, _, _, _, .nil, h => h
  | _, _, _, _, .cons f t, h => .cons f (pair_app t h)
/-- a list of things, each at its address -/
def LO {A : Type} (K : PySem.W.Frag) (R : Hp → Addr → A → Prop) (H : Hp) (a : Addr) (l : List A) : Prop := ∃ as : List Addr, SqL K H a (as.map V.ref) ∧ Paired (R H) as l
def Mono {A : Type} (R : Hp → Addr → A → Prop) : Prop := ∀ H H' p x, Same H H' → R H p x → R H' p x
theorem LO.mono {A : Type} {K : PySem.W.Frag} {R : Hp → Addr → A → Prop} (m : Mono R) : Mono (LO K R) := fun H H' a l s h => by
  obtain ⟨as, h1, h2⟩ := h
  exact ⟨as, s.seq h1, pair_imp (fun p x => m H H' p x s) h2⟩
theorem LO.get {A : Type} {K : PySem.W.Frag} {R : Hp → Addr → A → Prop} {H : Hp} {a : Addr} {l : List A} (h : LO K R H a l) {j : Nat} {x : A} (e : l[j]? = some x) :
    ∃ (xs : List V) (p : Addr), SqL K H a xs ∧ xs.length = l.length ∧ xs[j]? = some (.ref p) ∧ R H p x := by
  obtain ⟨as, h1, h2⟩ := h
  obtain ⟨p, hp, r⟩ := pair_get h2 e
  exact ⟨as.map V.ref, p, h1, by rw [List.length_map, pair_len h2], by rw [List.getElem?_map, hp]; rfl, r⟩
theorem LO.len {A : Type} {K : PySem.W.Frag} {R : Hp → Addr → A → Prop} {H : Hp} {a : Addr} {l : List A} (h : LO K R H a l) : ∃ (xs : List V), SqL K H a xs ∧ xs.length = l.length := by
  obtain ⟨as, h1, h2⟩ := h
  exact ⟨as.map V.ref, h1, by rw [List.length_map, pair_len h2]⟩
/-- ints in a list -/
def IL (K : PySem.W.Frag) (H : Hp) (a : Addr) (ns : List Int) : Prop := SqL K H a (ns.map V.int)
theorem IL.mono {K : PySem.W.Frag} : Mono (IL K) := fun _ _ _ _ s h => s.seq h
theorem IL.at {K : PySem.W.Frag} {H : Hp} {a : Addr} {ns : List Int} (h : IL K H a ns) {j : Nat} {x : Int} (e : ns[j]? = some x) : (ns.map V.int)[j]? = some (.int x) := by rw [List.getElem?_map, e]; rfl
/-- a pair of ints -/
def PR (K : PySem.W.Frag) (H : Hp) (a : Addr) (m : Int × Int) : Prop := SqT K H a [.int m.1, .int m.2]
theorem PR.mono {K : PySem.W.Frag} : Mono (PR K) := fun _ _ _ _ s h => s.tup h
theorem atI_map {A : Type} (f : A → V) {l : List A} {j : Nat} {x : A} (h : l[j]? = some x) : atI (l.map f) (j : Int) = some (f x) := atI_nat (by rw [List.getElem?_map, h]; rfl)
/-- zip of two lists of one length -/
theorem for_zip {K : PySem.W.Frag} {a b : Addr} {xs ys : List V} {g : TG} {tb : TS} {D : Ends} {σ : St} {H : Hp} (Pv : Nat → St → Hp → Prop) (h0 : Pv 0 σ H) (hlen : ys.length = xs.length) (hl : ∀ i σ H, i ≤ xs.length → Pv i σ H → SqL K H a xs ∧ SqL K H b ys)
    (hs : ∀ i x y σ H T, xs[i]? = some x → ys[i]? = some y → H T = none → Pv i σ H → g (.ref T) σ (upd H T (.tup [x, y])) fun σ2 H2 => tb { D with nx := Pv (i + 1), ct := Pv (i + 1), bk := D.nx } σ2 H2) (hd : ∀ σ H, Pv xs.length σ H → D.nx σ H) :
    ∃ W : Nat → Nat → St → Hp → Prop, (∃ m, W 0 m σ H) ∧ ∀ i m σ H, W i m σ H →
      ((Itz K a b).stop i H ∧ D.nx σ H) ∨ ((Itz K a b).go i H ∧ ∃ N : St → Hp → Prop, (∀ σ' H', N σ' H' → ∃ m', m' < m ∧ W (i + 1) m' σ' H') ∧ ∀ x H', (Itz K a b).yld i H x H' → g x σ H' fun σ2 H2 => tb { D with nx := N, ct := N, bk := D.nx } σ2 H2) := by
  refine ⟨fun i m σ H => m = xs.length - i ∧ i ≤ xs.length ∧ Pv i σ H, ⟨xs.length, by simp, Nat.zero_le _, h0⟩, ?_⟩
  rintro i m σ H ⟨rfl, hi, p⟩
  obtain ⟨qx, qy⟩ := hl i σ H hi p
  by_cases hlt : i < xs.length
  · refine .inr ⟨⟨xs, ys, xs[i], ys[i], qx, qy, by simp [hlt], by simp⟩, Pv (i + 1), fun σ' H' p' => ⟨xs.length - (i + 1), by omega, rfl, hlt, p'⟩, fun x H' y => ?_⟩
    obtain ⟨T, x1, y1, rfl, hT, rfl, e1, e2⟩ := y
    exact hs i x1 y1 σ H T (e1 xs qx) (e2 ys qy) hT p
  · have e : i = xs.length := by omega
    subst e
    exact .inl ⟨⟨xs, ys, qx, qy, .inl (Nat.le_refl _)⟩, hd σ H p⟩
/-- enumerate of a list -/
theorem for_enum {K : PySem.W.Frag} {a : Addr} {xs : List V} {g : TG} {tb : TS} {D : Ends} {σ : St} {H : Hp} (Pv : Nat → St → Hp → Prop) (h0 : Pv 0 σ H) (hl : ∀ i σ H, i ≤ xs.length → Pv i σ H → SqL K H a xs)
    (hs : ∀ i x σ H T, xs[i]? = some x → H T = none → Pv i σ H → g (.ref T) σ (upd H T (.tup [.int (i : Nat), x])) fun σ2 H2 => tb { D with nx := Pv (i + 1), ct := Pv (i + 1), bk := D.nx } σ2 H2) (hd : ∀ σ H, Pv xs.length σ H → D.nx σ H) :
    ∃ W : Nat → Nat → St → Hp → Prop, (∃ m, W 0 m σ H) ∧ ∀ i m σ H, W i m σ H →
      ((Ite K a).stop i H ∧ D.nx σ H) ∨ ((Ite K a).go i H ∧ ∃ N : St → Hp → Prop, (∀ σ' H', N σ' H' → ∃ m', m' < m ∧ W (i + 1) m' σ' H') ∧ ∀ x H', (Ite K a).yld i H x H' → g x σ H' fun σ2 H2 => tb { D with nx := N, ct := N, bk := D.nx } σ2 H2) := by
  refine ⟨fun i m σ H => m = xs.length - i ∧ i ≤ xs.length ∧ Pv i σ H, ⟨xs.length, by simp, Nat.zero_le _, h0⟩, ?_⟩
  rintro i m σ H ⟨rfl, hi, p⟩
  have q := hl i σ H hi p
  by_cases hlt : i < xs.length
  · refine .inr ⟨⟨xs, xs[i], q, by simp [hlt]⟩, Pv (i + 1), fun σ' H' p' => ⟨xs.length - (i + 1), by omega, rfl, hlt, p'⟩, fun x H' y => ?_⟩
    obtain ⟨T, x1, rfl, hT, rfl, e1⟩ := y
    exact hs i x1 σ H T (e1 xs q) hT p
  · have e : i = xs.length := by omega
    subst e
    exact .inl ⟨⟨xs, q, Nat.le_refl _⟩, hd σ H p⟩
/-- a comprehension over zip -/
theorem lc_zip {K : PySem.W.Frag} {a b : Addr} {xs ys : List V} {g : TG} {tt : TT} {te : TE} {vs : List Nat} {σ : St} {H1 : Hp} {D : Addr} {Qd : Hp → Prop} (Pv : Nat → Hp → Prop) (h0 : Pv 0 (upd H1 D (.lst []))) (hlen : ys.length = xs.length) (hl : ∀ i H, i ≤ xs.length → Pv i H → SqL K H a xs ∧ SqL K H b ys)
    (hs : ∀ i x y H T, xs[i]? = some x → ys[i]? = some y → H T = none → Pv i H → g (.ref T) (wipe σ vs) (upd H T (.tup [x, y])) fun σ2 H2 => wipe σ2 vs = wipe σ vs ∧ tt σ2 H2 fun b H3 =>
      if b = true then te σ2 H3 fun y H4 => ∃ acc, H4 D = some (.lst acc) ∧ acc.length < sizeLine ∧ Pv (i + 1) (upd H4 D (.lst (acc ++ [y]))) else Pv (i + 1) H3) (hd : ∀ H, Pv xs.length H → Qd H) :
    ∃ W : Nat → Nat → Hp → Prop, (∃ m, W 0 m (upd H1 D (.lst []))) ∧ ∀ i m H, W i m H →
      ((Itz K a b).stop i H ∧ Qd H) ∨ ((Itz K a b).go i H ∧ ∃ Nx : Hp → Prop, (∀ H', Nx H' → ∃ m', m' < m ∧ W (i + 1) m' H') ∧ ∀ x H', (Itz K a b).yld i H x H' → g x (wipe σ vs) H' fun σ2 H2 => wipe σ2 vs = wipe σ vs ∧ tt σ2 H2 fun b H3 =>
        if b = true then te σ2 H3 fun y H4 => ∃ acc, H4 D = some (.lst acc) ∧ acc.length < sizeLine ∧ Nx (upd H4 D (.lst (acc ++ [y]))) else Nx H3) := by
  refine ⟨fun i m H => m = xs.length - i ∧ i ≤ xs.length ∧ Pv i H, ⟨xs.length, by simp, Nat.zero_le _, h0⟩, ?_⟩
  rintro i m H ⟨rfl, hi, p⟩
  obtain ⟨qx, qy⟩ := hl i H hi p
  by_cases hlt : i < xs.length
  · refine .inr ⟨⟨xs, ys, xs[i], ys[i], qx, qy, by simp [hlt], by simp⟩, Pv (i + 1), fun H' p' => ⟨xs.length - (i + 1), by omega, rfl, hlt, p'⟩, fun x H' y => ?_⟩
    obtain ⟨T, x1, y1, rfl, hT, rfl, e1, e2⟩ := y
    exact hs i x1 y1 H T (e1 xs qx) (e2 ys qy) hT p
  · have e : i = xs.length := by omega
    subst e
    exact .inl ⟨⟨xs, ys, qx, qy, .inl (Nat.le_refl _)⟩, hd H p⟩
def era (L : List Addr) (H : Hp) : Hp := fun q => if q ∈ L then none else H q
theorem era_at {L : List Addr} {H : Hp} {q : Addr} (h : q ∉ L) : era L H q = H q := by unfold era; rw [if_neg h]
theorem era_same (L : List Addr) (H : Hp) : Same (era L H) H := fun q o e => by
  unfold era at e
  split at e
  · cases e
  · exact e
theorem same_era {L L' : List Addr} {H H' : Hp} (h : ∀ q o, q ∉ L → H q = some o → q ∉ L' ∧ H' q = some o) : Same (era L H) (era L' H') := fun q o e => by
  unfold era at e
  split at e
  · cases e
  · rename_i hq
    obtain ⟨h1, h2⟩ := h q o hq e
    rw [era_at h1]; exact h2
theorem same_era1 {L : List Addr} {H H' : Hp} (h : ∀ q ∈ L, H q = none) (s : Same H H') : Same H (era L H') := fun q o e => by
  have hq : q ∉ L := fun z => by rw [h q z] at e; cases e
  rw [era_at hq]; exact s q o e
/-- lists all -/
def Lsts (L : List Addr) (H : Hp) : Prop := ∀ a ∈ L, ∃ xs, H a = some (.lst xs)
theorem SqT.era {K : PySem.W.Frag} {L : List Addr} {H : Hp} {p : Addr} {ts : List V} (hL : Lsts L H) (h : SqT K H p ts) : SqT K (era L H) p ts := by
  have no : ∀ {u : HO}, H p = some u → (∀ xs, u ≠ .lst xs) → p ∉ L := fun e hn z => by
    obtain ⟨xs, q⟩ := hL p z
    rw [e] at q
    exact hn xs (Option.some.inj q)
  rcases h with (h | ⟨o, h⟩) | h
  · exact .inl (.inl (by rw [era_at (no h (by intro xs z; cases z))]; exact h))
  · exact .inl (.inr ⟨o, by rw [era_at (no h (by intro xs z; cases z))]; exact h⟩)
  · exact .inr h
theorem SqL.era {K : PySem.W.Frag} {L : List Addr} {H : Hp} {p : Addr} {ts : List V} (hp : p ∉ L) (h : SqL K H p ts) : SqL K (era L H) p ts := by
  rcases h with (h | ⟨o, h⟩) | h
  · exact .inl (.inl (by rw [era_at hp]; exact h))
  · exact .inl (.inr ⟨o, by rw [era_at hp]; exact h⟩)
  · exact .inr h
theorem LO.era {A : Type} {K : PySem.W.Frag} {R : Hp → Addr → A → Prop} {L : List Addr} {H : Hp} {p : Addr} {l : List A} (hp : p ∉ L) (hR : ∀ q x, R H q x → R (era L H) q x) (h : LO K R H p l) : LO K R (era L H) p l := by
  obtain ⟨as, h1, h2⟩ := h
  exact ⟨as, SqL.era hp h1, pair_imp (fun q x => hR q x) h2⟩
def Small (x : Int) : Prop := x.natAbs < 2 ^ 4000
theorem Small.bits {x : Int} (h : Small x) : Builtin.Int.intBits x ≤ 4000 := by
  unfold Builtin.Int.intBits
  split
  · exact Nat.zero_le _
  · have : x.natAbs.log2 < 4000 := by
      rcases Nat.eq_zero_or_pos x.natAbs with h0 | hp
      · rw [h0]; decide
      · exact (Nat.log2_lt (Nat.ne_of_gt hp)).mpr h
    omega
theorem Small.mul {x y : Int} (hx : Small x) (hy : Small y) : IntMulOk x y := IntMulOk.of_le hx.bits hy.bits (by decide)
theorem Small.py {x : Int} (h : Small x) : x.natAbs.log2 < 9000 := by
  rcases Nat.eq_zero_or_pos x.natAbs with h0 | hp
  · rw [h0]; decide
  · have := (Nat.log2_lt (Nat.ne_of_gt hp)).mpr h
    omega
section
variable {X : Cx}
theorem op_mulB : OpR X (binaryOp .Mult) (rI (fun i j => Small i ∧ Small j) fun i j => .int (i * j)) := opI fun _ _ _ _ _ _ _ hc q => mul_int q (hc.1.mul hc.2)
theorem op_fdivB : OpR X (binaryOp .FloorDiv) (rI (fun i j => 0 < j ∧ Small j) fun i j => .int (i / j)) := opI fun i j _ _ _ _ _ hc q => by
  have h1 : (0 : Int) < j := hc.1
  exact floordiv_int (by omega) (by rw [Int.fdiv_eq_ediv_of_nonneg i (by omega)]; exact q) (.inl (PyProof.noPylong_of_log2 hc.2.py))
end
section
variable {X : Cx} {K : PySem.W.Frag}
theorem ix_listK (h : X.K = K := by rfl) : IxR X (rIxL K) := by subst h; exact ix_list
theorem ix_tupK (h : X.K = K := by rfl) : IxR X (rIxT K) := by subst h; exact ix_tup
theorem sl_listK (h : X.K = K := by rfl) : SlR X (rSlL K) := by subst h; exact sl_list
def rLen (K : PySem.W.Frag) : List V → Hp → VK → Prop := fun xs H Q => ∃ p ys, xs = [.ref p] ∧ (SqL K H p ys ∨ SqT K H p ys) ∧ Q (.int ys.length) H
theorem call_lenK (h : X.K = K := by rfl) : CallR X (.builtin "len") (rLen K) := by subst h; exact call_len_seq
theorem cr_sumK (hc : X.calm = true) (h : X.K = K := by rfl) : CallR X (.builtin "sum") (rSum K) := by subst h; exact cr_sum hc
theorem cr_maxK (hc : X.calm = true) (h : X.K = K := by rfl) : CallR X (.builtin "max") (rMax K) := by subst h; exact cr_max hc
theorem cr_minK (hc : X.calm = true) (h : X.K = K := by rfl) : CallR X (.builtin "min") (rMin K) := by subst h; exact cr_min hc
theorem cr_anyK (hc : X.calm = true) (h : X.K = K := by rfl) : CallR X (.builtin "any") (rAny K) := by subst h; exact cr_any hc
theorem pg_tupK {es : List Expr} {k : Nat} {t : TGs} {n : Nat} {pos : Pos} (hc : X.calm = true) (hg : PGs X es t) (h : X.K = K := by rfl)
    (hn : (assignEach es X.env).length = n := by rfl) (hst : (assignEach es X.env).findIdx? (·.1) = none := by rfl) : PG X (.Tuple es k pos) (gTup K n t) := by subst h; exact pg_tup hc hg hn hst
end
theorem tyes {σ : St} {H : Hp} {A B : Hp → Prop} (h : A H) : tYes σ H (fun b H3 => if b = true then A H3 else B H3) := by
  show if true = true then A H else B H
  rw [if_pos rfl]; exact h
theorem cut_nat (xs : List V) (l h : Nat) (hh : h ≤ xs.length) : cutV xs (some (l : Int)) (some (h : Int)) = (xs.drop l).take (h - l) := by
  unfold cutV
  rw [HT.sIx_nat, HT.sIx_nat]
  by_cases c : l ≤ xs.length
  · rw [Nat.min_eq_left c, Nat.min_eq_left hh]
  · rw [Nat.min_eq_right (a := l) (b := xs.length) (by omega), Nat.min_eq_left hh]
    rw [show h - l = 0 by omega, show h - xs.length = 0 by omega]; simp
theorem cut_to (xs : List V) (h : Nat) (hh : h ≤ xs.length) : cutV xs none (some (h : Int)) = xs.take h := by
  unfold cutV
  rw [HT.sIx_nat, HT.sIx_none, Nat.min_eq_left hh]; simp
theorem cut_from (xs : List V) (l : Nat) (hl : l ≤ xs.length) : cutV xs (some (l : Int)) none = xs.drop l := by
  unfold cutV
  rw [HT.sIx_nat, HT.sIx_none, Nat.min_eq_left hl]
  rw [List.take_of_length_le (by simp)]
theorem cmul_l {i j : Int} (h1 : -(2 ^ 64) < i) (h2 : i < 2 ^ 64) : CMul i j := .inl ⟨h1, h2⟩
theorem cmul_r {i j : Int} (h1 : -(2 ^ 64) < j) (h2 : j < 2 ^ 64) : CMul i j := .inr ⟨h1, h2⟩
end L2
end
/-! LpSum -/
namespace Lp
/-- a finite sum -/
def S : Nat → (Nat → Rat) → Rat
  | 0, _ => 0
  | n + 1, f => S n f + f n
theorem S_congr {n : Nat} {f g : Nat → Rat} (h : ∀ i, i < n → f i = g i) : S n f = S n g := by
  induction n with
  | zero => rfl
  | succ n ih => simp only [S]; rw [ih (fun i hi => h i (by omega)), h n (by omega)]
theorem S_le {n : Nat} {f g : Nat → Rat} (h : ∀ i, i < n → f i ≤ g i) : S n f ≤ S n g := by
  induction n with
  | zero => exact Rat.le_refl
  | succ n ih =>
    simp only [S]
    have h1 := ih (fun i hi => h i (by omega)); have h2 := h n (by omega)
    grind
theorem S_zero (n : Nat) : S n (fun _ => 0) = 0 := by
  induction n with
  | zero => rfl
  | succ n ih => simp only [S]; rw [ih]; grind
theorem S_nonneg {n : Nat} {f : Nat → Rat} (h : ∀ i, i < n → 0 ≤ f i) : 0 ≤ S n f := by
  have := S_le (f := fun _ => 0) h
  rw [S_zero] at this; exact this
theorem S_add (n : Nat) (f g : Nat → Rat) : S n (fun i => f i + g i) = S n f + S n g := by
  induction n with
  | zero => simp only [S]; grind
  | succ n ih => simp only [S]; rw [ih]; grind
theorem S_sub (n : Nat) (f g : Nat → Rat) : S n (fun i => f i - g i) = S n f - S n g := by
  induction n with
  | zero => simp only [S]; grind
  | succ n ih => simp only [S]; rw [ih]; grind
theorem S_mul (n : Nat) (c : Rat) (f : Nat → Rat) : S n (fun i => c * f i) = c * S n f := by
  induction n with
  | zero => simp only [S]; grind
  | succ n ih => simp only [S]; rw [ih]; grind
theorem S_mulr (n : Nat) (c : Rat) (f : Nat → Rat) : S n (fun i => f i * c) = S n f * c := by
  induction n with
  | zero => simp only [S]; grind
  | succ n ih => simp only [S]; rw [ih]; grind
theorem S_one {n : Nat} {f : Nat → Rat} (i : Nat) (hi : i < n) (h : ∀ j, j < n → j ≠ i → f j = 0) : S n f = f i := by
  induction n with
  | zero => omega
  | succ n ih =>
    simp only [S]
    by_cases e : i = n
    · subst e
      rw [S_congr (g := fun _ => 0) (fun j hj => h j (by omega) (by omega)), S_zero]; grind
    · rw [ih (by omega) (fun j hj hne => h j (by omega) hne), h n (by omega) (by omega)]; grind
theorem S_ext {n m : Nat} {f : Nat → Rat} (hm : n ≤ m) (h : ∀ j, n ≤ j → j < m → f j = 0) : S m f = S n f := by
  induction m with
  | zero => have : n = 0 := by omega
            subst this; rfl
  | succ m ih =>
    by_cases e : n = m + 1
    · subst e; rfl
    · simp only [S]; rw [ih (by omega) (fun j h1 h2 => h j h1 (by omega)), h m (by omega) (by omega)]; grind
theorem S_mono_n {n m : Nat} {f : Nat → Rat} (hm : n ≤ m) (h : ∀ j, j < m → 0 ≤ f j) : S n f ≤ S m f := by
  induction m with
  | zero => have : n = 0 := by omega
            subst this; exact Rat.le_refl
  | succ m ih =>
    by_cases e : n = m + 1
    · subst e; exact Rat.le_refl
    · simp only [S]
      have h1 := ih (by omega) (fun j hj => h j (by omega)); have h2 := h m (by omega); grind
theorem S_split (n m : Nat) (f : Nat → Rat) : S (n + m) f = S n f + S m (fun i => f (n + i)) := by
  induction m with
  | zero => simp only [S, Nat.add_zero]; grind
  | succ m ih => rw [← Nat.add_assoc]; simp only [S]; rw [ih]; grind
theorem sum_eq (n : Nat) (f : Nat → Rat) : Sf69.sum n f = S n f := by
  unfold Sf69.sum
  induction n with
  | zero => rfl
  | succ n ih => rw [List.range_succ, List.map_append, List.foldl_append, ih]; rfl
/-- the greatest of finitely many -/
theorem argmax (k : Nat) (hk : 0 < k) (u : Nat → Rat) : ∃ m, m < k ∧ ∀ i, i < k → u i ≤ u m := by
  induction k with
  | zero => omega
  | succ k ih =>
    by_cases e : k = 0
    · subst e
      refine ⟨0, by omega, fun i hi => ?_⟩
      have : i = 0 := by omega
      subst this; exact Rat.le_refl
    · obtain ⟨m, hm, h⟩ := ih (by omega)
      by_cases c : u k ≤ u m
      · exact ⟨m, by omega, fun i hi => by
          by_cases e2 : i = k
          · subst e2; exact c
          · exact h i (by omega)⟩
      · exact ⟨k, by omega, fun i hi => by
          by_cases e2 : i = k
          · subst e2; exact Rat.le_refl
          · have := h i (by omega); grind⟩
/-- **Nothing above nought feeds on less than itself.** -/
theorem most (k : Nat) (q : Nat → Nat → Rat) (u : Nat → Rat) (h0 : ∀ i j, i < k → j < k → 0 ≤ q i j) (h1 : ∀ i, i < k → S k (q i) < 1)
    (hu : ∀ i, i < k → u i ≤ 0 ∨ u i ≤ S k (fun j => q i j * u j)) : ∀ i, i < k → u i ≤ 0 := by
  intro i hi
  obtain ⟨m, hm, hmax⟩ := argmax k (by omega) u
  have hm0 : u m ≤ 0 := by
    rcases hu m hm with h | h
    · exact h
    · by_cases c : u m ≤ 0
      · exact c
      · exfalso
        have h2 : S k (fun j => q m j * u j) ≤ S k (fun j => q m j * u m) :=
          S_le (fun j hj => Rat.mul_le_mul_of_nonneg_left (hmax j hj) (h0 m j hm hj))
        rw [S_mulr] at h2
        have h3 : S k (q m) * u m < 1 * u m := Rat.mul_lt_mul_of_pos_right (h1 m hm) (by grind)
        grind
  exact Rat.le_trans (hmax i hi) hm0
/-- two that solve one such system are one -/
theorem once (k : Nat) (q : Nat → Nat → Rat) (f u v : Nat → Rat) (h0 : ∀ i j, i < k → j < k → 0 ≤ q i j) (h1 : ∀ i, i < k → S k (q i) < 1)
    (hu : ∀ i, i < k → u i = f i + S k (fun j => q i j * u j)) (hv : ∀ i, i < k → v i = f i + S k (fun j => q i j * v j)) : ∀ i, i < k → u i = v i := by
  have key : ∀ (u v : Nat → Rat), (∀ i, i < k → u i = f i + S k (fun j => q i j * u j)) → (∀ i, i < k → v i = f i + S k (fun j => q i j * v j)) → ∀ i, i < k → u i - v i ≤ 0 := by
    intro u v hu hv
    refine most k q (fun i => u i - v i) h0 h1 (fun i hi => Or.inr ?_)
    have : S k (fun j => q i j * (u j - v j)) = S k (fun j => q i j * u j) - S k (fun j => q i j * v j) := by
      rw [← S_sub]; exact S_congr (fun j _ => by grind)
    rw [this]; have := hu i hi; have := hv i hi; grind
  intro i hi
  have a := key u v hu hv i hi; have b := key v u hv hu i hi; grind
end Lp
/-! LpGauss -/
namespace Lp
/-- an entry -/
def en (rows : List (List Rat)) (i j : Nat) : Rat := (rows.getD i []).getD j 0
/-- rows of one length -/
def Shape (n m : Nat) (rows : List (List Rat)) : Prop := rows.length = n ∧ ∀ i, i < n → (rows.getD i []).length = m
/-- one step of the elimination, entry by entry -/
def stepE (k : Nat) (a : Nat → Nat → Rat) (i j : Nat) : Rat := if i = k then a k j / a k k else a i j - a i k * (a k j / a k k)
theorem getD_at {l : List Rat} {j : Nat} (h : j < l.length) : l.getD j 0 = l[j] := by
  rw [List.getD_eq_getElem?_getD, List.getElem?_eq_getElem h]; rfl
theorem find_piv (rows : List (List Rat)) (k : Nat) (hk : k < rows.length) (h : en rows k k ≠ 0) :
    (rows.zipIdx.find? fun (r : List Rat × Nat) => decide (k ≤ r.2) && r.1.getD k 0 != 0) = some (rows.getD k [], k) := by
  rw [List.find?_eq_some_iff_getElem]
  refine ⟨?_, k, by simpa using hk, ?_, ?_⟩
  · have h' : ((rows.getD k []).getD k 0 != 0) = true := bne_iff_ne.mpr h
    simp only [h', Bool.and_true, decide_eq_true_eq]; exact Nat.le_refl k
  · simp [List.getD, hk]
  · intro j hj
    simp only [List.getElem_zipIdx]
    have : ¬ (k ≤ 0 + j) := by omega
    simp [this]
    omega
theorem without_en {n m : Nat} {rows : List (List Rat)} (hs : Shape n m rows) {k : Nat} (hk : k < n) (h : en rows k k ≠ 0) :
    Shape n m (Sf95.without rows k) ∧ ∀ i j, i < n → j < m → en (Sf95.without rows k) i j = stepE k (en rows) i j := by
  obtain ⟨hl, hr⟩ := hs
  have hkr : k < rows.length := by omega
  have hf := find_piv rows k hkr h
  have hw : Sf95.without rows k = ((rows.set k (rows.getD k [])).set k ((rows.getD k []).map fun (x : Rat) => x / (rows.getD k []).getD k 0)).zipIdx.map fun (q : List Rat × Nat) => if q.2 = k then ((rows.getD k []).map fun (x : Rat) => x / (rows.getD k []).getD k 0) else List.zipWith (fun (x y : Rat) => x - q.1.getD k 0 * y) q.1 ((rows.getD k []).map fun (x : Rat) => x / (rows.getD k []).getD k 0) := by
    unfold Sf95.without
    rw [hf]
  have hrow : ∀ i, i < n → (Sf95.without rows k).getD i [] = if i = k then ((rows.getD k []).map fun (x : Rat) => x / en rows k k) else List.zipWith (fun (x y : Rat) => x - en rows i k * y) (rows.getD i []) ((rows.getD k []).map fun (x : Rat) => x / en rows k k) := by
    intro i hi
    rw [hw, List.getD_eq_getElem?_getD, List.getElem?_map, List.getElem?_zipIdx]
    have hir : i < rows.length := by omega
    by_cases e : i = k
    · subst e
      simp [hir, en]
    · have e' : ¬ k = i := fun h => e h.symm
      simp [hir, e, e', List.getElem?_set, en, List.getD_eq_getElem?_getD]
  have hlen : (Sf95.without rows k).length = n := by rw [hw]; simp [hl]
  refine ⟨⟨hlen, fun i hi => ?_⟩, fun i j hi hj => ?_⟩
  · rw [hrow i hi]
    split
    · rw [List.length_map]; exact hr k hk
    · rw [List.length_zipWith, List.length_map, hr i hi, hr k hk]; omega
  · unfold en
    rw [hrow i hi]
    unfold stepE
    have hjk : j < (rows.getD k []).length := by rw [hr k hk]; exact hj
    have hji : j < (rows.getD i []).length := by rw [hr i hi]; exact hj
    split
    · rw [List.getD_eq_getElem?_getD, List.getElem?_map, List.getElem?_eq_getElem hjk]
      simp only [Option.map_some, Option.getD_some]
      rw [getD_at hjk]; rfl
    · rw [List.getD_eq_getElem?_getD, List.getElem?_zipWith, List.getElem?_map, List.getElem?_eq_getElem hjk, List.getElem?_eq_getElem hji]
      simp only [Option.map_some, Option.getD_some]
      rw [getD_at hjk, getD_at hji]; rfl
/-- what holds ahead of turn k -/
structure Gs (n : Nat) (a0 : Nat → Nat → Rat) (k : Nat) (a : Nat → Nat → Rat) : Prop where
  unit : ∀ i j, i < n → j < k → a i j = if i = j then 1 else 0
  same : ∀ m, k ≤ m → m ≤ n → ∀ z : Nat → Rat, (∀ i, i < m → S (n + 1) (fun j => a i j * z j) = 0) → ∀ i, i < m → S (n + 1) (fun j => a0 i j * z j) = 0
theorem Gs.start (n : Nat) (a0 : Nat → Nat → Rat) : Gs n a0 0 a0 := ⟨fun _ _ _ h => by omega, fun _ _ _ _ h => h⟩
theorem Gs.congr {n k : Nat} {a0 a a' : Nat → Nat → Rat} (h : Gs n a0 k a) (hk : k ≤ n) (e : ∀ i j, i < n → j < n + 1 → a' i j = a i j) : Gs n a0 k a' := by
  refine ⟨fun i j hi hj => by rw [e i j hi (by omega)]; exact h.unit i j hi hj, fun m hm hmn z hz => h.same m hm hmn z fun i hi => ?_⟩
  rw [← hz i hi]; exact S_congr fun j hj => by rw [e i j (by omega) hj]
theorem Gs.piv {n k : Nat} {a0 a q : Nat → Nat → Rat} (h : Gs n a0 k a) (hk : k < n)
    (hq : ∀ i j, i < n → j < n → a0 i j = (if i = j then 1 else 0) - q i j) (h0 : ∀ i j, i < n → j < n → 0 ≤ q i j) (h1 : ∀ i, i < n → S n (q i) < 1) : a k k ≠ 0 := by
  intro hz
  let z : Nat → Rat := fun j => if j < k then - a j k else if j = k then 1 else 0
  have hzk : z k = 1 := by simp [z]
  have hcur : ∀ i, i < k + 1 → S (n + 1) (fun j => a i j * z j) = 0 := by
    intro i hi
    rw [S_ext (n := k + 1) (by omega) (fun j h1 _ => by have : z j = 0 := by simp only [z]; rw [if_neg (by omega), if_neg (by omega)]
                                                        rw [this]; grind)]
    simp only [S]
    rw [hzk]
    by_cases e : i = k
    · subst e
      rw [hz, S_congr (g := fun _ => 0) (fun j hj => by rw [h.unit i j (by omega) hj, if_neg (by omega)]; grind), S_zero]; grind
    · rw [S_one i (by omega) (fun j hj hne => by rw [h.unit i j (by omega) hj, if_neg (by omega)]; grind), h.unit i i (by omega) (by omega)]
      have : z i = - a i k := by simp only [z]; rw [if_pos (by omega)]
      rw [this]; grind
  have ho := h.same (k + 1) (by omega) (by omega) z hcur
  have hm := most (k + 1) q z (fun i j hi hj => h0 i j (by omega) (by omega)) (fun i hi => by
      have := S_mono_n (n := k + 1) (m := n) (f := q i) (by omega) (fun j hj => h0 i j (by omega) hj)
      have := h1 i (by omega); grind) (fun i hi => Or.inr (by
      have e := ho i hi
      rw [S_ext (n := k + 1) (by omega) (fun j h1 _ => by have : z j = 0 := by simp only [z]; rw [if_neg (by omega), if_neg (by omega)]
                                                          rw [this]; grind)] at e
      have e2 : S (k + 1) (fun j => a0 i j * z j) = S (k + 1) (fun j => (if i = j then 1 else 0) * z j) - S (k + 1) (fun j => q i j * z j) := by
        rw [← S_sub]; exact S_congr fun j hj => by rw [hq i j (by omega) (by omega)]; grind
      rw [e2, S_one i hi (fun j hj hne => by rw [if_neg (by omega)]; grind), if_pos rfl] at e
      grind)) k (by omega)
  rw [hzk] at hm
  exact absurd hm (by decide)
theorem Gs.step {n k : Nat} {a0 a : Nat → Nat → Rat} (h : Gs n a0 k a) (hk : k < n) (hp : a k k ≠ 0) : Gs n a0 (k + 1) (stepE k a) := by
  constructor
  · intro i j hi hj
    unfold stepE
    by_cases e : j = k
    · subst e
      by_cases e2 : i = j
      · subst e2; rw [if_pos rfl, if_pos rfl]; grind
      · rw [if_neg e2, if_neg e2]; grind
    · have u := h.unit k j hk (by omega)
      rw [if_neg (fun h => e h.symm)] at u
      by_cases e2 : i = k
      · subst e2; rw [if_pos rfl, if_neg (fun h => e h.symm), u]; grind
      · rw [if_neg e2, u, h.unit i j hi (by omega)]; grind
  · intro m hm hmn z hz
    refine h.same m (by omega) hmn z ?_
    have hk' : S (n + 1) (fun j => a k j * z j) = 0 := by
      have e := hz k (by omega)
      have e2 : S (n + 1) (fun j => stepE k a k j * z j) = (1 / a k k) * S (n + 1) (fun j => a k j * z j) := by
        rw [← S_mul]; exact S_congr fun j _ => by unfold stepE; rw [if_pos rfl]; grind
      rw [e2] at e; grind
    intro i hi
    by_cases e : i = k
    · subst e; exact hk'
    · have e1 := hz i hi
      have e2 : S (n + 1) (fun j => stepE k a i j * z j) = S (n + 1) (fun j => a i j * z j) - (a i k / a k k) * S (n + 1) (fun j => a k j * z j) := by
        rw [← S_mul, ← S_sub]; exact S_congr fun j _ => by unfold stepE; rw [if_neg e]; grind
      rw [e2, hk'] at e1; grind
/-- **What the elimination gives solves the equations.** -/
theorem solved_solves (n : Nat) (rows : List (List Rat)) (hs : Shape n (n + 1) rows) (q : Nat → Nat → Rat)
    (hq : ∀ i j, i < n → j < n → en rows i j = (if i = j then 1 else 0) - q i j) (h0 : ∀ i j, i < n → j < n → 0 ≤ q i j) (h1 : ∀ i, i < n → S n (q i) < 1) :
    (Sf95.solved n rows).length = n ∧ ∀ i, i < n → (Sf95.solved n rows).getD i 0 = en rows i n + S n (fun j => q i j * (Sf95.solved n rows).getD j 0) := by
  have key : ∀ k, k ≤ n → Shape n (n + 1) ((List.range k).foldl Sf95.without rows) ∧ Gs n (en rows) k (en ((List.range k).foldl Sf95.without rows)) := by
    intro k
    induction k with
    | zero => intro _; exact ⟨hs, Gs.start n _⟩
    | succ k ih =>
      intro hk
      obtain ⟨s, g⟩ := ih (by omega)
      have hp := g.piv (by omega) hq h0 h1
      obtain ⟨s', e⟩ := without_en s (by omega : k < n) hp
      rw [List.range_succ, List.foldl_append]
      refine ⟨s', (g.step (by omega) hp).congr (by omega) e⟩
  obtain ⟨s, g⟩ := key n (Nat.le_refl n)
  have hget : ∀ i, i < n → (Sf95.solved n rows).getD i 0 = en ((List.range n).foldl Sf95.without rows) i n := by
    intro i hi
    unfold Sf95.solved en
    rw [List.getD_eq_getElem?_getD, List.getElem?_map]
    have : i < ((List.range n).foldl Sf95.without rows).length := by rw [s.1]; exact hi
    rw [List.getElem?_eq_getElem this, List.getD_eq_getElem?_getD (l := (List.range n).foldl Sf95.without rows), List.getElem?_eq_getElem this]
    rfl
  refine ⟨by unfold Sf95.solved; rw [List.length_map]; exact s.1, ?_⟩
  intro i hi
  let z : Nat → Rat := fun j => if j < n then (Sf95.solved n rows).getD j 0 else -1
  have hz := g.same n (Nat.le_refl n) (Nat.le_refl n) z (fun i hi => by
    simp only [S]
    rw [S_one i hi (fun j hj hne => by rw [g.unit i j hi hj, if_neg (fun h => hne h.symm)]; grind), g.unit i i hi hi, if_pos rfl]
    simp only [z]
    rw [if_pos hi, if_neg (by omega), hget i hi]; grind) i hi
  simp only [S] at hz
  rw [S_congr (g := fun j => (if i = j then 1 else 0) * (Sf95.solved n rows).getD j 0 - q i j * (Sf95.solved n rows).getD j 0) (fun j hj => by
    simp only [z]; rw [if_pos hj, hq i j hi hj]; grind), S_sub, S_one i hi (fun j hj hne => by rw [if_neg (fun h => hne h.symm)]; grind), if_pos rfl] at hz
  simp only [z] at hz
  rw [if_neg (by omega)] at hz
  grind
end Lp
/-! LpIndex -/
namespace Lp
/-- one machine: n states, chances times the hundredths -/
structure Mach (n : Nat) (be : Rat) (q : Nat → Nat → Rat) : Prop where
  pos : ∀ s t, s < n → t < n → 0 ≤ q s t
  sum : ∀ s, s < n → S n (q s) = be
  lt : be < 1
/-- what is gained until a set is left -/
def St (n : Nat) (q : Nat → Nat → Rat) (C : Nat → Bool) (f u : Nat → Rat) : Prop :=
  ∀ s, s < n → u s = if C s = true then f s + S n (fun t => q s t * u t) else 0
theorem exists_sol (n : Nat) (q : Nat → Nat → Rat) (f : Nat → Rat) (h0 : ∀ i j, i < n → j < n → 0 ≤ q i j) (h1 : ∀ i, i < n → S n (q i) < 1) :
    ∃ u : Nat → Rat, ∀ s, s < n → u s = f s + S n (fun t => q s t * u t) := by
  let rows : List (List Rat) := (List.range n).map fun i => ((List.range n).map fun j => (if i = j then 1 else 0) - q i j) ++ [f i]
  have hrow : ∀ i, i < n → rows.getD i [] = ((List.range n).map fun j => (if i = j then 1 else 0) - q i j) ++ [f i] := by
    intro i hi
    simp [rows, List.getD_eq_getElem?_getD, hi]
  have hs : Shape n (n + 1) rows := ⟨by simp [rows], fun i hi => by rw [hrow i hi]; simp⟩
  have hen : ∀ i j, i < n → j < n → en rows i j = (if i = j then 1 else 0) - q i j := by
    intro i j hi hj
    unfold en
    rw [hrow i hi, List.getD_eq_getElem?_getD, List.getElem?_append_left (by simp [hj])]
    simp [hj]
  have hen2 : ∀ i, i < n → en rows i n = f i := by
    intro i hi
    unfold en
    rw [hrow i hi, List.getD_eq_getElem?_getD, List.getElem?_append_right (by simp)]
    simp
  obtain ⟨_, h⟩ := solved_solves n rows hs q hen h0 h1
  exact ⟨fun i => (Sf95.solved n rows).getD i 0, fun s hs => (h s hs).trans (by rw [hen2 s hs])⟩
section one
variable {n : Nat} {be : Rat} {q : Nat → Nat → Rat}
theorem St.ex (M : Mach n be q) (C : Nat → Bool) (f : Nat → Rat) : ∃ u, St n q C f u := by
  obtain ⟨u, hu⟩ := exists_sol n (fun s t => if C s = true then q s t else 0) (fun s => if C s = true then f s else 0)
    (fun i j hi hj => by split; exact M.pos i j hi hj; exact Rat.le_refl)
    (fun i hi => by
      by_cases c : C i = true
      · simp only [c, if_true]; rw [M.sum i hi]; exact M.lt
      · rw [S_congr (g := fun _ => 0) (fun j _ => by simp [c]), S_zero]; decide)
  refine ⟨u, fun s hs => ?_⟩
  have := hu s hs
  by_cases c : C s = true
  · rw [if_pos c]; simp only [c, if_true] at this; exact this
  · rw [if_neg c]; simp only [c] at this
    rw [this]
    simp only [Bool.false_eq_true, if_false]
    rw [S_congr (g := fun _ => 0) (fun j _ => by grind), S_zero]; grind
theorem Mach.sublt (M : Mach n be q) : ∀ i, i < n → S n (q i) < 1 := fun i hi => by rw [M.sum i hi]; exact M.lt
/-- sums of what feeds -/
theorem feed_add (s : Nat) (u v : Nat → Rat) (c : Rat) : S n (fun t => q s t * (u t + c * v t)) = S n (fun t => q s t * u t) + c * S n (fun t => q s t * v t) := by
  rw [← S_mul, ← S_add]; exact S_congr fun j _ => by grind
theorem St.comb {C : Nat → Bool} {f g u v : Nat → Rat} (hu : St n q C f u) (hv : St n q C g v) (c : Rat) : St n q C (fun s => f s + c * g s) (fun s => u s + c * v s) := by
  intro s hs
  have a := hu s hs; have b := hv s hs
  rw [feed_add]
  by_cases e : C s = true
  · rw [if_pos e] at *; grind
  · rw [if_neg e] at *; grind
theorem St.out {C : Nat → Bool} {f u : Nat → Rat} (h : St n q C f u) {s : Nat} (hs : s < n) (c : C s = false) : u s = 0 := by
  rw [h s hs, if_neg (by rw [c]; decide)]
theorem St.inn {C : Nat → Bool} {f u : Nat → Rat} (h : St n q C f u) {s : Nat} (hs : s < n) (c : C s = true) : u s = f s + S n (fun t => q s t * u t) := by
  have := h s hs; rw [if_pos c] at this; exact this
/-- what gains nothing below nought is worth nothing below it -/
theorem St.nonneg (M : Mach n be q) {C : Nat → Bool} {f u : Nat → Rat} (h : St n q C f u) (hf : ∀ s, s < n → C s = true → 0 ≤ f s) : ∀ s, s < n → 0 ≤ u s := by
  intro s hs
  have := most n q (fun s => - u s) M.pos M.sublt (fun i hi => by
    cases c : C i with
    | false => left; rw [h.out hi c]; decide
    | true =>
      right
      have e := h.inn hi c; have e2 := hf i hi c
      have e3 : S n (fun j => q i j * -u j) = - S n (fun j => q i j * u j) := by
        have := S_mul n (-1) (fun j => q i j * u j)
        rw [S_congr (g := fun j => -1 * (q i j * u j)) (fun j _ => by grind), this]; grind
      rw [e3]; grind) s hs
  grind
theorem St.mono_feed (M : Mach n be q) {u v : Nat → Rat} (h : ∀ t, t < n → u t ≤ v t) {s : Nat} (hs : s < n) : S n (fun t => q s t * u t) ≤ S n (fun t => q s t * v t) :=
  S_le fun t ht => Rat.mul_le_mul_of_nonneg_left (h t ht) (M.pos s t hs ht)
/-- **an index**: the best by the time, and got -/
structure IsIx (n : Nat) (q : Nat → Nat → Rat) (g nu : Nat → Rat) : Prop where
  le : ∀ s, s < n → ∀ C R T, C s = true → St n q C g R → St n q C (fun _ => 1) T → R s ≤ nu s * T s
  got : ∀ s, s < n → ∃ C R T, C s = true ∧ St n q C g R ∧ St n q C (fun _ => 1) T ∧ R s = nu s * T s
theorem T_pos (M : Mach n be q) {C : Nat → Bool} {T : Nat → Rat} (h : St n q C (fun _ => 1) T) {s : Nat} (hs : s < n) (c : C s = true) : 0 < T s := by
  have h0 := h.nonneg M (fun _ _ _ => by decide)
  have e := h.inn hs c
  have := S_nonneg (n := n) (f := fun t => q s t * T t) (fun t ht => Rat.mul_nonneg (M.pos s t hs ht) (h0 t ht))
  grind
end one
end Lp
/-! LpJoint -/
namespace Lp
section bank
variable {m : Nat} {be : Rat} {n : Nat → Nat} {q : Nat → Nat → Nat → Rat} {g nu : Nat → Nat → Rat} {N : Nat} {ys : Nat → Rat} {T : Nat → Nat → Nat → Rat}
end bank
end Lp
/-! LpRate -/
namespace Lp
open Sf69
/-- a machine whose chances are chances -/
structure MOk (M : Machine) : Prop where
  pos : ∀ s t, s < M.size → t < M.size → 0 ≤ M.chance s t
  one : ∀ s, s < M.size → S M.size (M.chance s) = 1
/-- chances by the hundredths -/
def qq (b : Nat) (M : Machine) (s t : Nat) : Rat := later b * M.chance s t
structure BOk (b : Nat) : Prop where
  ge : 0 ≤ later b
  lt : later b < 1
theorem BOk.of {b : Nat} (h : b ≤ 99) : BOk b := by
  have h1 : ((b : Int) : Rat) ≤ ((99 : Int) : Rat) := Rat.intCast_le_intCast.mpr (by omega)
  have h0 : ((0 : Int) : Rat) ≤ ((b : Int) : Rat) := Rat.intCast_le_intCast.mpr (by omega)
  have e : (((99 : Int) : Rat)) = 99 := rfl
  have e0 : (((0 : Int) : Rat)) = 0 := rfl
  rw [e] at h1; rw [e0] at h0
  constructor <;> unfold later <;> grind
theorem MOk.mach {b : Nat} {M : Machine} (hM : MOk M) (hb : BOk b) : Mach M.size (later b) (qq b M) :=
  ⟨fun s t hs ht => Rat.mul_nonneg hb.ge (hM.pos s t hs ht), fun s hs => by
    show S M.size (fun t => later b * M.chance s t) = _
    rw [S_mul, hM.one s hs]; grind, hb.lt⟩
/-- a sum along a list -/
def LS (l : List Nat) (f : Nat → Rat) : Rat := l.foldr (fun x a => f x + a) 0
theorem LS_append (l r : List Nat) (f : Nat → Rat) : LS (l ++ r) f = LS l f + LS r f := by
  induction l with
  | nil => simp only [LS, List.nil_append, List.foldr_nil]; grind
  | cons x l ih => simp only [LS, List.cons_append, List.foldr_cons] at *; rw [ih]; grind
theorem LS_range (n : Nat) (f : Nat → Rat) : LS (List.range n) f = S n f := by
  induction n with
  | zero => rfl
  | succ n ih => rw [List.range_succ, LS_append, ih]; simp only [LS, S, List.foldr_cons, List.foldr_nil]; grind
theorem LS_filter (l : List Nat) (p : Nat → Bool) (f : Nat → Rat) : LS (l.filter p) f = LS l (fun x => if p x = true then f x else 0) := by
  induction l with
  | nil => rfl
  | cons x l ih =>
    rw [List.filter_cons]
    split
    · rename_i h; simp only [LS, List.foldr_cons, h, if_true] at *; rw [ih]
    · rename_i h; simp only [LS, List.foldr_cons, h] at *; rw [ih]; simp; grind
theorem LS_S (l : List Nat) (f : Nat → Rat) : S l.length (fun j => f (l.getD j 0)) = LS l f := by
  induction l with
  | nil => rfl
  | cons x l ih =>
    have := S_split 1 l.length (fun j => f ((x :: l).getD j 0))
    rw [List.length_cons, Nat.add_comm, this]
    have e : (fun i => f ((x :: l).getD (1 + i) 0)) = (fun j => f (l.getD j 0)) := by
      funext i; rw [Nat.add_comm 1 i, List.getD_cons_succ]
    rw [e, ih]
    simp only [LS, S, List.foldr_cons, List.getD_cons_zero]; grind
theorem nodup_inj {A : Type} {l : List A} (h : l.Nodup) {i j : Nat} (hi : i < l.length) (hj : j < l.length) (e : l[i] = l[j]) : i = j := by
  rcases Nat.lt_trichotomy i j with c | c | c
  · exact absurd e (List.pairwise_iff_getElem.mp h i j hi hj c)
  · exact c
  · exact absurd e.symm (List.pairwise_iff_getElem.mp h j i hj hi c)
/-- till a set is left, by the list -/
theorem till_getD {b : Nat} {M : Machine} (hM : MOk M) (hb : BOk b) (C : Nat → Bool) (f u : Nat → Rat) (hu : St M.size (qq b M) C f u) :
    ∀ i, i < ((List.range M.size).filter C).length →
      (Sf95.till b M ((List.range M.size).filter C) f).length = ((List.range M.size).filter C).length ∧
      (Sf95.till b M ((List.range M.size).filter C) f).getD i 0 = u (((List.range M.size).filter C).getD i 0) := by
  have Mm := hM.mach hb
  let l := (List.range M.size).filter C
  have hnd : l.Nodup := List.nodup_range.filter _
  have hmem : ∀ i, i < l.length → l.getD i 0 < M.size ∧ C (l.getD i 0) = true := by
    intro i hi
    have : l.getD i 0 ∈ l := by rw [List.getD_eq_getElem?_getD, List.getElem?_eq_getElem hi]; exact List.getElem_mem hi
    rw [List.mem_filter, List.mem_range] at this; exact this
  have inj : ∀ i j, i < l.length → j < l.length → (l.getD i 0 = l.getD j 0 ↔ i = j) := by
    intro i j hi hj
    rw [List.getD_eq_getElem?_getD, List.getElem?_eq_getElem hi, List.getD_eq_getElem?_getD, List.getElem?_eq_getElem hj]
    simp only [Option.getD_some]
    exact ⟨fun e => nodup_inj hnd hi hj e, fun e => by subst e; rfl⟩
  let rows : List (List Rat) := l.map fun (t : Nat) => (l.map fun (u : Nat) => (if u = t then 1 else 0) - later b * M.chance t u) ++ [f t]
  have hrow : ∀ i, i < l.length → rows.getD i [] = (l.map fun (u : Nat) => (if u = l.getD i 0 then 1 else 0) - later b * M.chance (l.getD i 0) u) ++ [f (l.getD i 0)] := by
    intro i hi
    simp only [rows]
    rw [List.getD_eq_getElem?_getD, List.getElem?_map, List.getElem?_eq_getElem hi, List.getD_eq_getElem?_getD, List.getElem?_eq_getElem hi]
    rfl
  have hs : Shape l.length (l.length + 1) rows := ⟨by simp [rows], fun i hi => by rw [hrow i hi]; simp⟩
  have hen : ∀ i j, i < l.length → j < l.length → en rows i j = (if i = j then 1 else 0) - qq b M (l.getD i 0) (l.getD j 0) := by
    intro i j hi hj
    unfold en
    rw [hrow i hi, List.getD_eq_getElem?_getD, List.getElem?_append_left (by simpa using hj), List.getElem?_map, List.getElem?_eq_getElem hj]
    have ej : l.getD j 0 = l[j] := by rw [List.getD_eq_getElem?_getD, List.getElem?_eq_getElem hj]; rfl
    simp only [Option.map_some, Option.getD_some]
    rw [← ej]
    unfold qq
    by_cases e : i = j
    · rw [if_pos e, if_pos (by rw [e])]
    · rw [if_neg e, if_neg (fun h => e ((inj j i hj hi).mp h).symm)]
  have hen2 : ∀ i, i < l.length → en rows i l.length = f (l.getD i 0) := by
    intro i hi
    unfold en
    rw [hrow i hi, List.getD_eq_getElem?_getD, List.getElem?_append_right (by simp)]
    simp
  have subset : ∀ (F : Nat → Rat), S l.length (fun j => F (l.getD j 0)) = S M.size (fun t => if C t = true then F t else 0) := by
    intro F
    rw [LS_S l F, LS_filter, LS_range]
  have h0 : ∀ i j, i < l.length → j < l.length → 0 ≤ qq b M (l.getD i 0) (l.getD j 0) := fun i j hi hj => Mm.pos _ _ (hmem i hi).1 (hmem j hj).1
  have h1 : ∀ i, i < l.length → S l.length (fun j => qq b M (l.getD i 0) (l.getD j 0)) < 1 := by
    intro i hi
    rw [subset (fun t => qq b M (l.getD i 0) t)]
    have : S M.size (fun t => if C t = true then qq b M (l.getD i 0) t else 0) ≤ S M.size (qq b M (l.getD i 0)) := S_le fun t ht => by
      split
      · exact Rat.le_refl
      · exact Mm.pos _ _ (hmem i hi).1 ht
    have := Mm.sublt _ (hmem i hi).1
    grind
  obtain ⟨hlen, hsol⟩ := solved_solves l.length rows hs (fun i j => qq b M (l.getD i 0) (l.getD j 0)) hen h0 h1
  have := once l.length (fun i j => qq b M (l.getD i 0) (l.getD j 0)) (fun i => f (l.getD i 0)) (fun i => (Sf95.solved l.length rows).getD i 0) (fun i => u (l.getD i 0)) h0 h1
    (fun i hi => (hsol i hi).trans (by rw [hen2 i hi]))
    (fun i hi => by
      have e := hu.inn (hmem i hi).1 (hmem i hi).2
      rw [e, subset (fun t => qq b M (l.getD i 0) t * u t)]
      congr 1
      refine S_congr fun t ht => ?_
      split
      · rfl
      · rename_i c
        rw [hu.out ht (by simpa using c)]; grind)
  exact fun i hi => ⟨hlen, this i hi⟩
/-- what is gained by the time -/
theorem byTime_eq {b : Nat} {M : Machine} (hM : MOk M) (hb : BOk b) (C : Nat → Bool) {s : Nat} (hs : s < M.size) (cs : C s = true) {R T : Nat → Rat}
    (hR : St M.size (qq b M) C M.gains R) (hT : St M.size (qq b M) C (fun _ => 1) T) : Sf95.byTime b M s ((List.range M.size).filter C) = R s / T s := by
  let l := (List.range M.size).filter C
  have hin : s ∈ l := by rw [List.mem_filter, List.mem_range]; exact ⟨hs, cs⟩
  have hlt : l.findIdx (fun (t : Nat) => t == s) < l.length := List.findIdx_lt_length_of_exists ⟨s, hin, by simp⟩
  have hget : l.getD (l.findIdx (fun (t : Nat) => t == s)) 0 = s := by
    rw [List.getD_eq_getElem?_getD, List.getElem?_eq_getElem hlt]
    have := List.findIdx_getElem (w := hlt)
    simpa using this
  obtain ⟨_, e1⟩ := till_getD hM hb C M.gains R hR _ hlt
  obtain ⟨len2, e2⟩ := till_getD hM hb C (fun _ => 1) T hT _ hlt
  have e1' : (Sf95.till b M l M.gains).getD (l.findIdx (fun (t : Nat) => t == s)) 0 = R s := e1.trans (congrArg R hget)
  have e2' : (Sf95.till b M l (fun _ => 1)).getD (l.findIdx (fun (t : Nat) => t == s)) 1 = T s := by
    have a : (Sf95.till b M l (fun _ => 1)).getD (l.findIdx (fun (t : Nat) => t == s)) 0 = T s := e2.trans (congrArg T hget)
    have hl : l.findIdx (fun (t : Nat) => t == s) < (Sf95.till b M l (fun _ => 1)).length := by rw [len2]; exact hlt
    rw [List.getD_eq_getElem?_getD, List.getElem?_eq_getElem hl] at a ⊢
    exact a
  show (Sf95.till b M l M.gains).getD (l.findIdx (fun (t : Nat) => t == s)) 0 / (Sf95.till b M l (fun _ => 1)).getD (l.findIdx (fun (t : Nat) => t == s)) 1 = _
  rw [e1', e2']
/-- every set has its mask -/
theorem mask (n : Nat) (C : Nat → Bool) : ∃ m, m < 2 ^ n ∧ ∀ t, t < n → m.testBit t = C t := by
  induction n with
  | zero => exact ⟨0, by decide, fun t ht => by omega⟩
  | succ n ih =>
    obtain ⟨m, hm, h⟩ := ih
    cases c : C n with
    | false =>
      refine ⟨m, by rw [Nat.pow_succ]; omega, fun t ht => ?_⟩
      by_cases e : t = n
      · subst e; rw [c]; exact Nat.testBit_lt_two_pow hm
      · exact h t (by omega)
    | true =>
      refine ⟨2 ^ n + m, by rw [Nat.pow_succ]; omega, fun t ht => ?_⟩
      by_cases e : t = n
      · subst e; rw [c, Nat.testBit_two_pow_add_eq, Nat.testBit_lt_two_pow hm]; rfl
      · rw [Nat.testBit_two_pow_add_gt (by omega)]; exact h t (by omega)
theorem filter_congr' (n : Nat) (p r : Nat → Bool) (h : ∀ t, t < n → p t = r t) : (List.range n).filter p = (List.range n).filter r :=
  List.filter_congr fun t ht => h t (List.mem_range.mp ht)
/-- the greatest, by a fold -/
theorem fold_max (l : List Rat) (x : Rat) : x ≤ l.foldl (fun (x y : Rat) => if x < y then y else x) x ∧ (∀ y ∈ l, y ≤ l.foldl (fun (x y : Rat) => if x < y then y else x) x) ∧
    (l.foldl (fun (x y : Rat) => if x < y then y else x) x = x ∨ l.foldl (fun (x y : Rat) => if x < y then y else x) x ∈ l) := by
  induction l generalizing x with
  | nil => exact ⟨Rat.le_refl, (fun y h => nomatch h), Or.inl rfl⟩
  | cons a l ih =>
    rw [List.foldl_cons]
    obtain ⟨h1, h2, h3⟩ := ih (if x < a then a else x)
    have hx : x ≤ (if x < a then a else x) := by split <;> grind
    have ha : a ≤ (if x < a then a else x) := by split <;> grind
    refine ⟨Rat.le_trans hx h1, fun y hy => ?_, ?_⟩
    · rcases List.mem_cons.mp hy with e | e
      · subst e; exact Rat.le_trans ha h1
      · exact h2 y e
    · rcases h3 with e | e
      · rw [e]; split
        · right; exact List.mem_cons_self
        · left; rfl
      · right; exact List.mem_cons_of_mem _ e
/-- **The rate is the index.** -/
theorem rate_ix {b : Nat} {M : Machine} (hM : MOk M) (hb : BOk b) : IsIx M.size (qq b M) M.gains (Sf95.rate b M) := by
  have Mm := hM.mach hb
  constructor
  · intro s hs C R T cs hR hT
    obtain ⟨m, hm, hbits⟩ := mask M.size C
    have hle : Sf95.byTime b M s ((List.range M.size).filter C) ≤ Sf95.rate b M s := by
      unfold Sf95.rate
      refine (fold_max _ _).2.1 _ (List.mem_map.mpr ⟨(List.range M.size).filter C, ?_, rfl⟩)
      unfold Sf95.setsWith
      refine List.mem_map.mpr ⟨m, List.mem_filter.mpr ⟨List.mem_range.mpr hm, ?_⟩, filter_congr' _ _ _ hbits⟩
      rw [hbits s hs]; exact cs
    rw [byTime_eq hM hb C hs cs hR hT] at hle
    have tp := T_pos Mm hT hs cs
    have := Rat.mul_le_mul_of_nonneg_right hle (show 0 ≤ T s by grind)
    rw [Rat.div_mul_cancel (by grind)] at this
    exact this
  · intro s hs
    have h3 := (fold_max ((Sf95.setsWith M.size s).map (Sf95.byTime b M s)) (M.gains s)).2.2
    rcases h3 with e | e
    · let C : Nat → Bool := fun t => t == s
      obtain ⟨R, hR⟩ := St.ex Mm C M.gains
      obtain ⟨T, hT⟩ := St.ex Mm C (fun _ => 1)
      have cs : C s = true := by simp [C]
      refine ⟨C, R, T, cs, hR, hT, ?_⟩
      show R s = Sf95.rate b M s * T s
      have er : Sf95.rate b M s = M.gains s := e
      rw [er]
      have f : ∀ (u : Nat → Rat) (f : Nat → Rat), St M.size (qq b M) C f u → u s = f s + qq b M s s * u s := by
        intro u f hu
        have a := hu.inn hs cs
        rw [S_one s hs (fun j hj hne => by rw [hu.out hj (by simp [C, hne])]; grind)] at a
        exact a
      have a := f R _ hR; have c := f T _ hT
      have : (1 - qq b M s s) * (R s - M.gains s * T s) = 0 := by grind
      have lt : qq b M s s < 1 := by
        have h1 := Mm.sublt s hs
        have h2 := S_le (n := M.size) (f := fun t => if t = s then qq b M s s else 0) (g := qq b M s) (fun t ht => by
          split
          · rename_i e; rw [e]; exact Rat.le_refl
          · exact Mm.pos s t hs ht)
        rw [S_one s hs (fun j _ hne => if_neg hne), if_pos rfl] at h2
        grind
      have ne : 1 - qq b M s s ≠ 0 := by grind
      rcases Rat.mul_eq_zero.mp this with h | h
      · exact absurd h ne
      · grind
    · obtain ⟨Cl, hC, e2⟩ := List.mem_map.mp e
      unfold Sf95.setsWith at hC
      obtain ⟨m, hm, hCl⟩ := List.mem_map.mp hC
      obtain ⟨_, hbit⟩ := List.mem_filter.mp hm
      let C : Nat → Bool := fun t => m.testBit t
      obtain ⟨R, hR⟩ := St.ex Mm C M.gains
      obtain ⟨T, hT⟩ := St.ex Mm C (fun _ => 1)
      refine ⟨C, R, T, hbit, hR, hT, ?_⟩
      show R s = Sf95.rate b M s * T s
      have er : Sf95.rate b M s = Sf95.byTime b M s Cl := e2.symm
      rw [er, ← hCl, byTime_eq hM hb C hs hbit hR hT, Rat.div_mul_cancel]
      have := T_pos Mm hT hs hbit
      grind
end Lp
/-! LpWorth -/
namespace Lp
open Sf69
theorem nodup_all (Ms : List Machine) : (Sf95.allStates Ms).Nodup := by
  induction Ms with
  | nil => unfold Sf95.allStates; simp
  | cons M r ih =>
    unfold Sf95.allStates
    unfold List.Nodup
    rw [List.pairwise_flatMap]
    refine ⟨fun s _ => ?_, ?_⟩
    · rw [List.pairwise_map]
      exact ih.imp (fun h e => h (List.cons.inj e).2)
    · refine List.Pairwise.imp ?_ (List.nodup_range (n := M.size))
      intro a c hac x hx y hy e
      obtain ⟨_, _, rfl⟩ := List.mem_map.mp hx
      obtain ⟨_, _, rfl⟩ := List.mem_map.mp hy
      exact hac (List.cons.inj e).1
theorem pull_eq (b : Nat) (Ms : List Machine) (v : States → Rat) (ss : States) (i : Nat) :
    pull b Ms v ss i = (machine Ms i).gains (ss.getD i 0) + S (machine Ms i).size (fun t => qq b (machine Ms i) (ss.getD i 0) t * v (ss.set i t)) := by
  unfold pull
  simp only
  rw [sum_eq, ← S_mul]
  congr 1
  exact S_congr fun t _ => by unfold qq; grind
end Lp
/-! LpGittins -/
namespace Lp
open Sf69
theorem le_ord_trans (b : Nat) (Ms : List Machine) (ss : States) (i j k : Nat)
    (h1 : (decide (Sf95.rateOf b Ms ss j < Sf95.rateOf b Ms ss i) || (Sf95.rateOf b Ms ss i == Sf95.rateOf b Ms ss j && decide (i ≤ j))) = true)
    (h2 : (decide (Sf95.rateOf b Ms ss k < Sf95.rateOf b Ms ss j) || (Sf95.rateOf b Ms ss j == Sf95.rateOf b Ms ss k && decide (j ≤ k))) = true) :
    (decide (Sf95.rateOf b Ms ss k < Sf95.rateOf b Ms ss i) || (Sf95.rateOf b Ms ss i == Sf95.rateOf b Ms ss k && decide (i ≤ k))) = true := by
  simp only [Bool.or_eq_true, decide_eq_true_eq, Bool.and_eq_true, beq_iff_eq] at *
  rcases h1 with h1 | h1 <;> rcases h2 with h2 | h2
  · left; grind
  · left; grind
  · left; grind
  · right; exact ⟨h1.1.trans h2.1, by omega⟩
theorem le_ord_total (b : Nat) (Ms : List Machine) (ss : States) (i j : Nat) :
    ((decide (Sf95.rateOf b Ms ss j < Sf95.rateOf b Ms ss i) || (Sf95.rateOf b Ms ss i == Sf95.rateOf b Ms ss j && decide (i ≤ j))) ||
    (decide (Sf95.rateOf b Ms ss i < Sf95.rateOf b Ms ss j) || (Sf95.rateOf b Ms ss j == Sf95.rateOf b Ms ss i && decide (j ≤ i)))) = true := by
  simp only [Bool.or_eq_true, decide_eq_true_eq, Bool.and_eq_true, beq_iff_eq]
  by_cases a : Sf95.rateOf b Ms ss j < Sf95.rateOf b Ms ss i
  · exact Or.inl (Or.inl a)
  · by_cases c : Sf95.rateOf b Ms ss i < Sf95.rateOf b Ms ss j
    · exact Or.inr (Or.inl c)
    · have e : Sf95.rateOf b Ms ss i = Sf95.rateOf b Ms ss j := by grind
      rcases Nat.le_total i j with h | h
      · exact Or.inl (Or.inr ⟨e, h⟩)
      · exact Or.inr (Or.inr ⟨e.symm, h⟩)
theorem ordered_pairwise (b : Nat) (Ms : List Machine) (ss : States) : (Sf95.ordered b Ms ss).Pairwise fun i j => (decide (Sf95.rateOf b Ms ss j < Sf95.rateOf b Ms ss i) || (Sf95.rateOf b Ms ss i == Sf95.rateOf b Ms ss j && decide (i ≤ j))) = true :=
  List.pairwise_mergeSort (le_ord_trans b Ms ss) (le_ord_total b Ms ss) _
end Lp
/-! LpDet -/
namespace Lp
/-- a finite sum of whole numbers -/
def Z : Nat → (Nat → Int) → Int
  | 0, _ => 0
  | n + 1, f => Z n f + f n
theorem Z_congr {n : Nat} {f g : Nat → Int} (h : ∀ i, i < n → f i = g i) : Z n f = Z n g := by
  induction n with
  | zero => rfl
  | succ n ih => simp only [Z]; rw [ih (fun i hi => h i (by omega)), h n (by omega)]
theorem Z_zero {n : Nat} {f : Nat → Int} (h : ∀ i, i < n → f i = 0) : Z n f = 0 := by
  induction n with
  | zero => rfl
  | succ n ih => simp only [Z]; rw [ih (fun i hi => h i (by omega)), h n (by omega)]; rfl
theorem Z_add (n : Nat) (f g : Nat → Int) : Z n (fun i => f i + g i) = Z n f + Z n g := by
  induction n with
  | zero => rfl
  | succ n ih => simp only [Z]; rw [ih]; grind
theorem Z_sub (n : Nat) (f g : Nat → Int) : Z n (fun i => f i - g i) = Z n f - Z n g := by
  induction n with
  | zero => rfl
  | succ n ih => simp only [Z]; rw [ih]; grind
theorem Z_mul (n : Nat) (c : Int) (f : Nat → Int) : Z n (fun i => c * f i) = c * Z n f := by
  induction n with
  | zero => simp [Z]
  | succ n ih => simp only [Z]; rw [ih]; grind
theorem Z_two {n : Nat} {f : Nat → Int} (r : Nat) (hr : r + 1 < n) (h : ∀ j, j < n → j ≠ r → j ≠ r + 1 → f j = 0) : Z n f = f r + f (r + 1) := by
  induction n with
  | zero => omega
  | succ n ih =>
    simp only [Z]
    by_cases e : r + 1 = n
    · subst e
      simp only [Z]
      rw [Z_zero (fun j hj => h j (by omega) (by omega) (by omega))]; grind
    · rw [ih (by omega) (fun j hj h1 h2 => h j (by omega) h1 h2), h n (by omega) (by omega) (by omega)]; grind
/-- a sign -/
def sg : Nat → Int
  | 0 => 1
  | n + 1 => - sg n
theorem sg_two (n : Nat) : sg (n + n) = 1 := by
  induction n with
  | zero => rfl
  | succ n ih => rw [show n + 1 + (n + 1) = (n + n) + 1 + 1 by omega]; simp only [sg]; rw [ih]; rfl
def skip (p i : Nat) : Nat := if i < p then i else i + 1
/-- the determinant, along the last column -/
def det : Nat → (Nat → Nat → Int) → Int
  | 0, _ => 1
  | n + 1, f => Z (n + 1) (fun p => sg (n + p) * (f p n * det n (fun i j => f (skip p i) j)))
theorem det_congr {n : Nat} {f g : Nat → Nat → Int} (h : ∀ i j, i < n → j < n → f i j = g i j) : det n f = det n g := by
  induction n generalizing f g with
  | zero => rfl
  | succ n ih =>
    simp only [det]
    refine Z_congr fun p hp => ?_
    rw [h p n hp (by omega), ih (fun i j hi hj => h _ j (by unfold skip; split <;> omega) (by omega))]
def upd (f : Nat → Nat → Int) (r : Nat) (u : Nat → Int) (i j : Nat) : Int := if i = r then u j else f i j
theorem det_row (n : Nat) (f : Nat → Nat → Int) (r : Nat) (hr : r < n) (u v : Nat → Int) (c : Int) :
    det n (upd f r (fun j => u j + c * v j)) = det n (upd f r u) + c * det n (upd f r v) := by
  induction n generalizing f r with
  | zero => omega
  | succ n ih =>
    simp only [det]
    rw [← Z_mul, ← Z_add]
    refine Z_congr fun p hp => ?_
    by_cases e : p = r
    · subst e
      have m : ∀ w : Nat → Int, det n (fun i j => upd f p w (skip p i) j) = det n (fun i j => f (skip p i) j) := fun w =>
        det_congr fun i j _ _ => by unfold upd skip; rw [if_neg (by split <;> omega)]
      rw [m, m, m]
      have u1 : ∀ w : Nat → Int, upd f p w p n = w n := fun w => by unfold upd; rw [if_pos rfl]
      rw [u1, u1, u1]; grind
    · have m : ∀ w : Nat → Int, det n (fun i j => upd f r w (skip p i) j) = det n (upd (fun i j => f (skip p i) j) (if r < p then r else r - 1) w) := fun w =>
        det_congr fun i j hi _ => by
          unfold upd skip
          by_cases c1 : i < p <;> by_cases c2 : r < p
          · simp only [c1, c2, if_true]
          · simp only [c1, c2, if_true, if_false]; rw [if_neg (by omega), if_neg (by omega)]
          · simp only [c1, c2, if_true, if_false]; rw [if_neg (by omega), if_neg (by omega)]
          · simp only [c1, c2, if_false]
            by_cases c3 : i + 1 = r
            · rw [if_pos c3, if_pos (by omega)]
            · rw [if_neg c3, if_neg (by omega)]
      rw [m, m, m, ih _ _ (by split <;> omega)]
      have u1 : ∀ w : Nat → Int, upd f r w p n = f p n := fun w => by unfold upd; rw [if_neg e]
      rw [u1, u1, u1]; grind
theorem det_zero_row (n : Nat) (f : Nat → Nat → Int) (r : Nat) (hr : r < n) (h : ∀ j, j < n → f r j = 0) : det n f = 0 := by
  have a := det_row n f r hr (fun _ => 0) (fun _ => 0) 1
  have e : det n (upd f r (fun _ => 0)) = det n f := det_congr fun i j _ hj => by
    unfold upd; split
    · rename_i c; rw [c, h j hj]
    · rfl
  have e2 : det n (upd f r (fun j => (fun _ => (0 : Int)) j + 1 * (fun _ => (0 : Int)) j)) = det n f := by
    rw [← e]; exact det_congr fun i j _ _ => by unfold upd; simp
  rw [e2, e] at a; omega
theorem det_adj (n : Nat) (f : Nat → Nat → Int) (r : Nat) (hr : r + 1 < n) (h : ∀ j, j < n → f r j = f (r + 1) j) : det n f = 0 := by
  induction n generalizing f r with
  | zero => omega
  | succ n ih =>
    simp only [det]
    rw [Z_two r hr (fun p hp h1 h2 => ?_)]
    · have m : det n (fun i j => f (skip r i) j) = det n (fun i j => f (skip (r + 1) i) j) := det_congr fun i j _ hj => by
        unfold skip
        by_cases c : i < r
        · rw [if_pos c, if_pos (by omega)]
        · by_cases c2 : i = r
          · subst c2; rw [if_neg c, if_pos (by omega)]; exact (h j (by omega)).symm
          · rw [if_neg c, if_neg (by omega)]
      rw [m, h n (by omega), show n + (r + 1) = (n + r) + 1 by omega]
      simp only [sg]; grind
    · have : det n (fun i j => f (skip p i) j) = 0 := by
        by_cases c : p < r
        · refine ih _ (r - 1) (by omega) fun j hj => ?_
          have e1 : skip p (r - 1) = r := by unfold skip; rw [if_neg (by omega)]; omega
          have e2 : skip p (r - 1 + 1) = r + 1 := by unfold skip; rw [if_neg (by omega)]; omega
          rw [e1, e2]; exact h j (by omega)
        · refine ih _ r (by omega) fun j hj => ?_
          have e1 : skip p r = r := by unfold skip; rw [if_pos (by omega)]
          have e2 : skip p (r + 1) = r + 1 := by unfold skip; rw [if_pos (by omega)]
          rw [e1, e2]; exact h j (by omega)
      rw [this]; simp
/-- two neighbours change places -/
theorem det_swap (n : Nat) (f : Nat → Nat → Int) (r : Nat) (hr : r + 1 < n) : det n (upd (upd f r (f (r + 1))) (r + 1) (f r)) = - det n f := by
  let D : (Nat → Int) → (Nat → Int) → Int := fun a c => det n (upd (upd f r a) (r + 1) c)
  have lin2 : ∀ a c d, D a (fun j => c j + 1 * d j) = D a c + 1 * D a d := fun a c d => det_row n _ (r + 1) hr c d 1
  have lin1 : ∀ a c d, D (fun j => a j + 1 * c j) d = D a d + 1 * D c d := by
    intro a c d
    have comm : ∀ x : Nat → Int, D x d = det n (upd (upd f (r + 1) d) r x) := fun x => det_congr fun i j _ _ => by
      unfold upd
      by_cases e : i = r
      · subst e; rw [if_neg (by omega), if_pos rfl, if_pos rfl]
      · by_cases e2 : i = r + 1
        · subst e2; rw [if_pos rfl, if_neg (by omega), if_pos rfl]
        · rw [if_neg e2, if_neg e, if_neg e, if_neg e2]
    rw [comm, comm, comm]; exact det_row n _ r (by omega) a c 1
  have alt : ∀ a, D a a = 0 := fun a => det_adj n _ r hr fun j _ => by
    unfold upd; rw [if_neg (by omega), if_pos rfl, if_pos rfl]
  have h := alt (fun j => f r j + 1 * f (r + 1) j)
  rw [lin2, lin1, lin1, alt, alt] at h
  have self : D (f r) (f (r + 1)) = det n f := det_congr fun i j _ _ => by
    unfold upd
    by_cases e2 : i = r + 1
    · subst e2; rw [if_pos rfl]
    · rw [if_neg e2]
      by_cases e : i = r
      · subst e; rw [if_pos rfl]
      · rw [if_neg e]
  have : D (f (r + 1)) (f r) = - det n f := by rw [← self]; omega
  exact this
theorem det_same (n : Nat) : ∀ (d : Nat) (f : Nat → Nat → Int) (r : Nat), r + 1 + d < n → (∀ j, j < n → f r j = f (r + 1 + d) j) → det n f = 0 := by
  intro d
  induction d with
  | zero => intro f r hr h; exact det_adj n f r hr h
  | succ d ih =>
    intro f r hr h
    have s := det_swap n f (r + 1 + d) (by omega)
    have z := ih (upd (upd f (r + 1 + d) (f (r + 1 + d + 1))) (r + 1 + d + 1) (f (r + 1 + d))) r (by omega) (fun j hj => by
      unfold upd
      rw [if_neg (by omega), if_neg (by omega), if_neg (by omega), if_pos rfl]
      exact h j hj)
    omega
/-- by the units of a row -/
theorem det_row_sum (n : Nat) (f : Nat → Nat → Int) (r : Nat) (hr : r < n) (v : Nat → Int) :
    det n (upd f r v) = Z n (fun p => v p * det n (upd f r (fun c => if c = p then 1 else 0))) := by
  have key : ∀ m, m ≤ n → det n (upd f r (fun c => if c < m then v c else 0)) = Z m (fun p => v p * det n (upd f r (fun c => if c = p then 1 else 0))) := by
    intro m
    induction m with
    | zero =>
      intro _
      simp only [Z]
      exact det_zero_row n _ r hr fun j _ => by unfold upd; simp
    | succ m ih =>
      intro hm
      simp only [Z]
      rw [← ih (by omega), ← det_row n f r hr]
      refine det_congr fun i j _ _ => ?_
      unfold upd
      split
      · dsimp only
        by_cases c1 : j < m
        · rw [if_pos (by omega), if_pos c1, if_neg (by omega)]; simp
        · by_cases c2 : j = m
          · subst c2; rw [if_pos (by omega), if_neg c1, if_pos rfl]; simp
          · rw [if_neg (by omega), if_neg c1, if_neg c2]; simp
      · rfl
  rw [← key n (Nat.le_refl n)]
  refine det_congr fun i j _ hj => ?_
  unfold upd
  split
  · dsimp only; rw [if_pos hj]
  · rfl
section bord
variable (A : Nat → Nat → Int)
/-- rows 0 .. k - 1 and i, columns 0 .. k - 1 and j -/
def bord (k i j : Nat) (r c : Nat) : Int := A (if r < k then r else i) (if c < k then c else j)
def E (k i j : Nat) : Int := det (k + 1) (bord A k i j)
def Lu (k j p : Nat) : Int := det (k + 1) (upd (bord A k 0 j) k (fun c => if c = p then 1 else 0))
def C (k p j : Nat) : Int := - Lu A k j p
theorem Lu_last (k j : Nat) : Lu A k j k = det k A := by
  unfold Lu
  simp only [det, Z]
  rw [Z_zero (fun p hp => ?_)]
  · rw [sg_two]
    have e : upd (bord A k 0 j) k (fun c => if c = k then 1 else 0) k k = 1 := by unfold upd; rw [if_pos rfl]; dsimp only; rw [if_pos rfl]
    rw [e]
    have e2 : det k (fun i j_1 => upd (bord A k 0 j) k (fun c => if c = k then 1 else 0) (skip k i) j_1) = det k A := det_congr fun r c hr hc => by
      unfold upd skip bord
      rw [if_pos hr, if_neg (by omega), if_pos hr, if_pos hc]
    rw [e2]; omega
  · have : det k (fun i j_1 => upd (bord A k 0 j) k (fun c => if c = k then 1 else 0) (skip p i) j_1) = 0 := by
      refine det_zero_row k _ (k - 1) (by omega) fun c hc => ?_
      have e : skip p (k - 1) = k := by unfold skip; rw [if_neg (by omega)]; omega
      rw [e]; unfold upd; rw [if_pos rfl]; dsimp only; rw [if_neg (by omega)]
    rw [this]; simp
theorem E_eq (k i j : Nat) : E A k i j = det k A * A i j - Z k (fun p => A i p * C A k p j) := by
  have h : E A k i j = det (k + 1) (upd (bord A k 0 j) k (fun c => A i (if c < k then c else j))) := det_congr fun r c hr hc => by
    by_cases e : r = k
    · unfold bord upd; rw [if_pos e, if_neg (show ¬ r < k by omega)]
    · show A (if r < k then r else i) (if c < k then c else j) = if r = k then _ else A (if r < k then r else 0) (if c < k then c else j)
      rw [if_neg e, if_pos (show r < k by omega), if_pos (show r < k by omega)]
  rw [h, det_row_sum _ _ _ (by omega)]
  simp only [Z]
  have l := Lu_last A k j
  unfold Lu at l
  rw [if_neg (by omega), l]
  have z : Z k (fun p => A i p * C A k p j) = - Z k (fun p => A i (if p < k then p else j) * det (k + 1) (upd (bord A k 0 j) k (fun c => if c = p then 1 else 0))) := by
    have := Z_mul k (-1) (fun p => A i (if p < k then p else j) * det (k + 1) (upd (bord A k 0 j) k (fun c => if c = p then 1 else 0)))
    rw [show - Z k (fun p => A i (if p < k then p else j) * det (k + 1) (upd (bord A k 0 j) k (fun c => if c = p then 1 else 0))) = -1 * Z k (fun p => A i (if p < k then p else j) * det (k + 1) (upd (bord A k 0 j) k (fun c => if c = p then 1 else 0))) by omega, ← this]
    refine Z_congr fun p hp => ?_
    rw [if_pos hp]; unfold C Lu; grind
  rw [z]; grind
theorem E_zero (k i j : Nat) (hi : i < k) : E A k i j = 0 := by
  refine det_same (k + 1) (k - i - 1) _ i (by omega) fun c _ => ?_
  show A (if i < k then i else i) _ = A (if i + 1 + (k - i - 1) < k then i + 1 + (k - i - 1) else i) _
  rw [if_pos hi, if_neg (show ¬ i + 1 + (k - i - 1) < k by omega)]
theorem cramer (k i j : Nat) (hi : i < k) : Z k (fun p => A i p * C A k p j) = det k A * A i j := by
  have := E_eq A k i j; rw [E_zero A k i j hi] at this; omega
theorem E_diag (k : Nat) : E A k k k = det (k + 1) A := det_congr fun r c hr hc => by
  unfold bord
  have e1 : (if r < k then r else k) = r := by split <;> omega
  have e2 : (if c < k then c else k) = c := by split <;> omega
  rw [e1, e2]
/-- nothing but nought is sent to nought -/
def NS (k : Nat) : Prop := ∀ x : Nat → Int, (∀ i, i < k → Z k (fun l => A i l * x l) = 0) → ∀ l, l < k → x l = 0
/-- the entries at turn k -/
def N (k i j : Nat) : Int := if i < k then C A k i j else E A k i j
theorem bareiss_aux (k : Nat) (ns : NS A (k + 1)) (j : Nat) :
    (∀ l, l < k → det k A * C A (k + 1) l j = det (k + 1) A * C A k l j - C A k l k * E A k k j) ∧ det k A * C A (k + 1) k j = det k A * E A k k j := by
  let x : Nat → Int := fun l => if l < k then det k A * C A (k + 1) l j - (det (k + 1) A * C A k l j - C A k l k * E A k k j) else det k A * C A (k + 1) k j - det k A * E A k k j
  have hx : ∀ i, i < k + 1 → Z (k + 1) (fun l => A i l * x l) = 0 := by
    intro i hi
    simp only [Z]
    have ek : x k = det k A * C A (k + 1) k j - det k A * E A k k j := by simp only [x]; rw [if_neg (by omega)]
    have es : Z k (fun l => A i l * x l) = det k A * Z k (fun l => A i l * C A (k + 1) l j) - (det (k + 1) A * Z k (fun l => A i l * C A k l j) - E A k k j * Z k (fun l => A i l * C A k l k)) := by
      rw [← Z_mul, ← Z_mul, ← Z_mul, ← Z_sub, ← Z_sub]
      exact Z_congr fun l hl => by simp only [x]; rw [if_pos hl]; grind
    have c1 := cramer A (k + 1) i j hi
    simp only [Z] at c1
    rw [es, ek]
    by_cases c : i < k
    · have c2 := cramer A k i j c
      have c3 := cramer A k i k c
      rw [c2, c3]; grind
    · have : i = k := by omega
      subst this
      have c2 := E_eq A i i j
      have c3 := E_eq A i i i
      rw [E_diag] at c3
      have z2 : Z i (fun p => A i p * C A i p j) = det i A * A i j - E A i i j := by omega
      have z3 : Z i (fun p => A i p * C A i p i) = det i A * A i i - det (i + 1) A := by omega
      rw [z2, z3]; grind
  have h := ns x hx
  refine ⟨fun l hl => ?_, ?_⟩
  · have := h l (by omega); simp only [x] at this; rw [if_pos hl] at this; omega
  · have := h k (by omega); simp only [x] at this; rw [if_neg (by omega)] at this; omega
/-- **One turn: every division comes out even.** -/
theorem bareiss (k : Nat) (ns : NS A (k + 1)) (hd : det k A ≠ 0) (j : Nat) :
    (∀ i, i ≠ k → N A k k k * N A k i j - N A k i k * N A k k j = det k A * N A (k + 1) i j) ∧ N A (k + 1) k j = N A k k j := by
  obtain ⟨h1, h2⟩ := bareiss_aux A k ns j
  have nk : ∀ c, N A k k c = E A k k c := fun c => by unfold N; rw [if_neg (by omega)]
  refine ⟨fun i hi => ?_, ?_⟩
  · rw [nk, nk, E_diag]
    by_cases c : i < k
    · have a : N A k i j = C A k i j := by unfold N; rw [if_pos c]
      have b : N A k i k = C A k i k := by unfold N; rw [if_pos c]
      have d : N A (k + 1) i j = C A (k + 1) i j := by unfold N; rw [if_pos (by omega)]
      rw [a, b, d, h1 i c]
    · have a : N A k i j = E A k i j := by unfold N; rw [if_neg c]
      have b : N A k i k = E A k i k := by unfold N; rw [if_neg c]
      have d : N A (k + 1) i j = E A (k + 1) i j := by unfold N; rw [if_neg (by omega)]
      rw [a, b, d, E_eq A (k + 1) i j]
      simp only [Z]
      have s : det k A * Z k (fun p => A i p * C A (k + 1) p j) = det (k + 1) A * Z k (fun p => A i p * C A k p j) - E A k k j * Z k (fun p => A i p * C A k p k) := by
        rw [← Z_mul, ← Z_mul, ← Z_mul, ← Z_sub]
        exact Z_congr fun l hl => by
          have := h1 l hl
          have e : det k A * (A i l * C A (k + 1) l j) = A i l * (det k A * C A (k + 1) l j) := by grind
          rw [e, this]; grind
      have e1 := E_eq A k i j
      have e2 := E_eq A k i k
      have : det k A * (det (k + 1) A * A i j - (Z k (fun p => A i p * C A (k + 1) p j) + A i k * C A (k + 1) k j)) =
          det (k + 1) A * (det k A * A i j) - (det k A * Z k (fun p => A i p * C A (k + 1) p j)) - A i k * (det k A * C A (k + 1) k j) := by grind
      rw [this, s, h2, e1, e2]; grind
  · rw [nk]
    have d : N A (k + 1) k j = C A (k + 1) k j := by unfold N; rw [if_pos (by omega)]
    rw [d]
    have : det k A * (C A (k + 1) k j - E A k k j) = 0 := by grind
    rcases Int.mul_eq_zero.mp this with h | h
    · exact absurd h hd
    · omega
end bord
end Lp
/-! LpMir -/
section
set_option linter.all false
namespace Lw
def wrow (ws : List Int) (c s : Nat) : List Int := (ws.drop (s * c)).take c
def cnts (rs : List (List Int)) : List Int := (List.range (rs.length / 2)).map fun i => (((rs.getD (2 * i) []).length : Nat) : Int)
def jn (ss cs : List Int) : Int := (ss.zip cs).foldl (fun n p => n * p.2 + p.1) 0
def jstep (fs : List (List Int)) (c : Int) : List (List Int) := fs.flatMap fun st => (List.range c.toNat).map fun s => st ++ [((s : Nat) : Int)]
def js (cs : List Int) : List (List Int) := cs.foldl jstep [[]]
def gns (rs : List (List Int)) (i : Nat) : List Int := rs.getD (2 * i) []
def wts (rs : List (List Int)) (i : Nat) : List Int := rs.getD (2 * i + 1) []
def badAt (ss : List Int) (rs : List (List Int)) (i : Nat) : Bool := !Sf95.machineOk (gns rs i, wts rs i) || (decide (ss.getD i 0 < 0) || decide (((gns rs i).length : Int) ≤ ss.getD i 0))
def refB (b : Int) (ss : List Int) (rs : List (List Int)) : Bool :=
  decide (b < 1) || (decide (99 < b) || (decide (3 < rs.length / 2) || (decide (ss.length ≠ rs.length / 2) || (List.range (rs.length / 2)).any (badAt ss rs))))
/-- a pull: gain, sum of weights, moves -/
structure Pull where
  gain : Int
  total : Int
  moves : List (Int × Int)
def mvs (cs st : List Int) (i : Nat) (row : List Int) (n : Nat) : List (Int × Int) := ((List.range n).filter fun t => decide (0 < row.getD t 0)).map fun t => (jn (st.set i ((t : Nat) : Int)) cs, row.getD t 0)
def rowOf (rs : List (List Int)) (cs st : List Int) (i : Nat) : List Int := wrow (wts rs i) (cs.getD i 0).toNat (st.getD i 0).toNat
def pullOf (rs : List (List Int)) (cs st : List Int) (i : Nat) : Pull := ⟨(gns rs i).getD (st.getD i 0).toNat 0, (rowOf rs cs st i).sum, mvs cs st i (rowOf rs cs st i) (rowOf rs cs st i).length⟩
def allPulls (rs : List (List Int)) : List (List Pull) := (js (cnts rs)).map fun st => (List.range (cnts rs).length).map (pullOf rs (cnts rs) st)
/-- what is to be expected, by the moves -/
def expd (p : Pull) (vs : List Int) : Int := (p.moves.map fun m => m.2 * vs.getD m.1.toNat 0).sum
def pullNum (b : Int) (p : Pull) (vs : List Int) (d : Int) : Int := 100 * p.total * d * p.gain + b * expd p vs
structure PullWf (n : Nat) (p : Pull) : Prop where
  tot : 0 < p.total ∧ p.total ≤ 400
  gn : -1000 ≤ p.gain ∧ p.gain ≤ 1000
  mv : ∀ m ∈ p.moves, 0 ≤ m.1 ∧ m.1 < n ∧ 0 < m.2 ∧ m.2 ≤ 100
  sum : (p.moves.map (·.2)).sum = p.total
  nd : (p.moves.map (·.1)).Nodup
/-- the weight of one state -/
def wtOf (p : Pull) (y : Nat) : Int := (p.moves.map fun m => if m.1 = (y : Int) then m.2 else 0).sum
open Lp
theorem rsum_cons (x : Rat) (l : List Rat) : (x :: l).sum = x + l.sum := by simp
theorem S_wt (n : Nat) (f : Nat → Rat) : ∀ (l : List (Int × Int)), (∀ m ∈ l, 0 ≤ m.1 ∧ m.1 < n) →
    S n (fun y => (((l.map fun m => if m.1 = (y : Int) then m.2 else 0).sum : Int) : Rat) * f y) = (l.map fun m => (m.2 : Rat) * f m.1.toNat).sum
  | [], _ => by
    rw [S_congr (g := fun _ => 0) (fun i _ => by simp), S_zero]; simp
  | m :: l, h => by
    have ih := S_wt n f l fun x hx => h x (by simp [hx])
    have hm := h m (by simp)
    rw [List.map_cons, rsum_cons, ← ih]
    have e : S n (fun y => ((((m :: l).map fun m => if m.1 = (y : Int) then m.2 else 0).sum : Int) : Rat) * f y)
        = S n (fun y => (if y = m.1.toNat then (m.2 : Rat) else 0) * f y + (((l.map fun m => if m.1 = (y : Int) then m.2 else 0).sum : Int) : Rat) * f y) := S_congr fun y hy => by
      rw [List.map_cons, List.sum_cons, Rat.intCast_add]
      by_cases c : y = m.1.toNat
      · rw [if_pos c, if_pos (by omega)]; grind
      · rw [if_neg c, if_neg (by omega)]; grind
    rw [e, S_add]
    congr 1
    rw [S_one m.1.toNat (by omega) (fun j _ hj => by rw [if_neg hj]; grind), if_pos rfl]
theorem cast_sum (f : Int × Int → Int) (l : List (Int × Int)) : (((l.map f).sum : Int) : Rat) = (l.map fun m => ((f m : Int) : Rat)).sum := by
  induction l with
  | nil => simp
  | cons x l ih => rw [List.map_cons, List.map_cons, List.sum_cons, rsum_cons, Rat.intCast_add, ih]
/-- chances by the hundredths -/
def qp (b : Int) (p : Pull) (y : Nat) : Rat := ((b : Rat) / 100) * ((wtOf p y : Int) : Rat) / ((p.total : Int) : Rat)
/-- what a pull is worth -/
def Qv (b : Int) (n : Nat) (p : Pull) (v : Nat → Rat) : Rat := ((p.gain : Int) : Rat) + S n (fun y => qp b p y * v y)
def vOf (vs : List Int) (d : Int) (y : Nat) : Rat := ((vs.getD y 0 : Int) : Rat) / ((d : Int) : Rat)
theorem wt_nonneg {n : Nat} {p : Pull} (h : PullWf n p) (y : Nat) : 0 ≤ wtOf p y := by
  unfold wtOf
  have : ∀ l : List (Int × Int), (∀ m ∈ l, 0 < m.2) → 0 ≤ (l.map fun m => if m.1 = (y : Int) then m.2 else 0).sum := by
    intro l
    induction l with
    | nil => intro _; simp
    | cons x l ih =>
      intro hl
      rw [List.map_cons, List.sum_cons]
      have := ih fun m hm => hl m (by simp [hm])
      have := hl x (by simp)
      split <;> omega
  exact this _ fun m hm => (h.mv m hm).2.2.1
theorem S_qp {n : Nat} {b : Int} {p : Pull} (h : PullWf n p) : S n (qp b p) = (b : Rat) / 100 := by
  have h1 := S_wt n (fun _ => 1) p.moves fun m hm => ⟨(h.mv m hm).1, (h.mv m hm).2.1⟩
  have h2 : S n (qp b p) = ((b : Rat) / 100 / ((p.total : Int) : Rat)) * S n (fun y => ((wtOf p y : Int) : Rat) * 1) := by
    rw [← S_mul]
    exact S_congr fun y _ => by unfold qp; grind
  rw [h2]
  unfold wtOf
  rw [h1]
  have e : (p.moves.map fun m => (m.2 : Rat) * 1).sum = ((p.total : Int) : Rat) := by
    rw [← h.sum, cast_sum]
    congr 1
    exact List.map_congr_left fun m _ => by grind
  rw [e]
  have : ((p.total : Int) : Rat) ≠ 0 := by
    have := h.tot.1
    intro q
    have : p.total = 0 := by exact_mod_cast q
    omega
  grind
/-- **What the program reckons of a pull is what it is worth.** -/
theorem pullNum_eq {n : Nat} {b : Int} {p : Pull} (h : PullWf n p) (vs : List Int) {d : Int} (hd : 0 < d) :
    ((pullNum b p vs d : Int) : Rat) = 100 * ((p.total : Int) : Rat) * ((d : Int) : Rat) * Qv b n p (vOf vs d) := by
  have hd' : ((d : Int) : Rat) ≠ 0 := by
    intro q
    have : d = 0 := by exact_mod_cast q
    omega
  have ht : ((p.total : Int) : Rat) ≠ 0 := by
    have := h.tot.1
    intro q
    have : p.total = 0 := by exact_mod_cast q
    omega
  have h1 := S_wt n (vOf vs d) p.moves fun m hm => ⟨(h.mv m hm).1, (h.mv m hm).2.1⟩
  have h2 : S n (fun y => qp b p y * vOf vs d y) = ((b : Rat) / 100 / ((p.total : Int) : Rat)) * S n (fun y => ((wtOf p y : Int) : Rat) * vOf vs d y) := by
    rw [← S_mul]
    exact S_congr fun y _ => by unfold qp; grind
  have h3 : ((expd p vs : Int) : Rat) = (d : Rat) * (p.moves.map fun m => (m.2 : Rat) * vOf vs d m.1.toNat).sum := by
    unfold expd
    rw [cast_sum]
    have : ∀ l : List (Int × Int), (l.map fun m => ((m.2 * vs.getD m.1.toNat 0 : Int) : Rat)).sum = (d : Rat) * (l.map fun m => (m.2 : Rat) * vOf vs d m.1.toNat).sum := by
      intro l
      induction l with
      | nil => simp
      | cons x l ih =>
        rw [List.map_cons, List.map_cons, rsum_cons, rsum_cons, ih, Rat.intCast_mul]
        unfold vOf
        grind
    exact this _
  unfold Qv pullNum
  rw [h2]
  unfold wtOf at *
  rw [h1, Rat.intCast_add, Rat.intCast_mul, Rat.intCast_mul, Rat.intCast_mul, Rat.intCast_mul, h3]
  have : ((100 : Int) : Rat) = 100 := by rfl
  rw [this]
  grind
theorem rat_pos {x : Int} (h : 0 < x) : (0 : Rat) < ((x : Int) : Rat) := by exact_mod_cast h
/-- which of two is worth more -/
theorem more_iff {n : Nat} {b : Int} {p r : Pull} (hp : PullWf n p) (hr : PullWf n r) (vs : List Int) {d : Int} (hd : 0 < d) :
    pullNum b r vs d * p.total < pullNum b p vs d * r.total ↔ Qv b n r (vOf vs d) < Qv b n p (vOf vs d) := by
  have e1 := pullNum_eq (b := b) hp vs hd
  have e2 := pullNum_eq (b := b) hr vs hd
  have d0 := rat_pos hd
  have t1 := rat_pos hp.tot.1
  have t2 := rat_pos hr.tot.1
  have key : pullNum b r vs d * p.total < pullNum b p vs d * r.total ↔ ((pullNum b r vs d : Int) : Rat) * ((p.total : Int) : Rat) < ((pullNum b p vs d : Int) : Rat) * ((r.total : Int) : Rat) := by
    rw [← Rat.intCast_mul, ← Rat.intCast_mul]
    exact Rat.intCast_lt_intCast.symm
  rw [key, e1, e2]
  generalize Qv b n r (vOf vs d) = x
  generalize Qv b n p (vOf vs d) = y
  generalize hdd : ((d : Int) : Rat) = D at *
  generalize ((p.total : Int) : Rat) = T1 at *
  generalize ((r.total : Int) : Rat) = T2 at *
  have pos : 0 < 100 * D * T1 * T2 := Rat.mul_pos (Rat.mul_pos (Rat.mul_pos (by decide) d0) t1) t2
  have a1 : 100 * T2 * D * x * T1 = (100 * D * T1 * T2) * x := by grind
  have a2 : 100 * T1 * D * y * T2 = (100 * D * T1 * T2) * y := by grind
  rw [a1, a2]
  exact Rat.mul_lt_mul_left pos
end Lw
end
/-! LpPull -/
section
set_option linter.all false
namespace Lw
open Lp Sf69
def allN : List Nat → List (List Nat)
  | [] => [[]]
  | c :: r => (List.range c).flatMap fun s => (allN r).map fun ss => s :: ss
def prodN : List Nat → Nat
  | [] => 1
  | c :: r => c * prodN r
def Vld : List Nat → List Nat → Prop
  | [], [] => True
  | s :: ss, c :: cs => s < c ∧ Vld ss cs
  | _, _ => False
def jnN (ss cs : List Nat) : Nat := (ss.zip cs).foldl (fun n p => n * p.2 + p.1) 0
def zz (l : List Nat) : List Int := l.map fun n => ((n : Nat) : Int)
theorem allStates_eq : ∀ Ms : List Machine, Sf95.allStates Ms = allN (Ms.map Machine.size)
  | [] => rfl
  | M :: r => by unfold Sf95.allStates; rw [List.map_cons, allN, allStates_eq r]
theorem flat_range {A : Type} (f : Nat → List A) (L : Nat) (hL : ∀ s, (f s).length = L) : ∀ c, ((List.range c).flatMap f).length = c * L ∧ ∀ s x, s < c → x < L → ((List.range c).flatMap f)[s * L + x]? = (f s)[x]?
  | 0 => ⟨by simp, fun s x h => by omega⟩
  | c + 1 => by
    obtain ⟨h1, h2⟩ := flat_range f L hL c
    rw [List.range_succ, List.flatMap_append]
    have e : List.flatMap f [c] = f c := by simp
    rw [e]
    refine ⟨by rw [List.length_append, h1, hL, Nat.add_mul]; omega, fun s x hs hx => ?_⟩
    by_cases q : s = c
    · subst q
      rw [List.getElem?_append_right (by rw [h1]; omega), h1]
      congr 1; omega
    · have hs' : s < c := by omega
      have : (s + 1) * L ≤ c * L := Nat.mul_le_mul_right _ hs'
      rw [Nat.add_mul] at this
      rw [List.getElem?_append_left (by rw [h1]; omega)]
      exact h2 s x hs' hx
theorem allN_length : ∀ cs, (allN cs).length = prodN cs
  | [] => rfl
  | c :: r => by
    have := (flat_range (fun s => (allN r).map fun ss => s :: ss) (prodN r) (fun s => by rw [List.length_map, allN_length r]) c).1
    exact this
theorem jnN_acc : ∀ (ss cs : List Nat) (a : Nat), ss.length = cs.length → (ss.zip cs).foldl (fun n p => n * p.2 + p.1) a = a * prodN cs + jnN ss cs
  | [], [], a, _ => by simp [jnN, prodN]
  | s :: ss, c :: cs, a, h => by
    have h' : ss.length = cs.length := by simpa using h
    have e1 := jnN_acc ss cs (a * c + s) h'
    have e2 := jnN_acc ss cs (0 * c + s) h'
    unfold jnN
    rw [List.zip_cons_cons, List.foldl_cons, List.foldl_cons, e1, e2]
    simp only [prodN]
    rw [Nat.zero_mul, Nat.zero_add, Nat.add_mul, Nat.mul_assoc]; omega
  | [], _ :: _, _, h => by simp at h
  | _ :: _, [], _, h => by simp at h
theorem Vld.len : ∀ {ss cs : List Nat}, Vld ss cs → ss.length = cs.length
  | [], [], _ => rfl
  | s :: ss, c :: cs, h => by rw [List.length_cons, List.length_cons, Vld.len h.2]
theorem jnN_cons {s c : Nat} {ss cs : List Nat} (h : ss.length = cs.length) : jnN (s :: ss) (c :: cs) = s * prodN cs + jnN ss cs := by
  have := jnN_acc ss cs (0 * c + s) h
  unfold jnN at *
  rw [List.zip_cons_cons, List.foldl_cons, this]; simp
theorem jnN_lt : ∀ {ss cs : List Nat}, Vld ss cs → jnN ss cs < prodN cs
  | [], [], _ => by decide
  | s :: ss, c :: cs, h => by
    have ih := jnN_lt h.2
    rw [jnN_cons (Vld.len h.2)]
    have : (s + 1) * prodN cs ≤ c * prodN cs := Nat.mul_le_mul_right _ h.1
    rw [Nat.add_mul] at this
    simp only [prodN]; omega
theorem allN_at : ∀ {ss cs : List Nat}, Vld ss cs → (allN cs)[jnN ss cs]? = some ss
  | [], [], _ => rfl
  | s :: ss, c :: cs, h => by
    have ih := allN_at h.2
    rw [jnN_cons (Vld.len h.2)]
    have := (flat_range (fun s => (allN cs).map fun ss => s :: ss) (prodN cs) (fun s => by rw [List.length_map, allN_length cs]) c).2 s (jnN ss cs) h.1 (jnN_lt h.2)
    rw [allN, this, List.getElem?_map, ih]; rfl
theorem jnN_inj {ss tt cs : List Nat} (h1 : Vld ss cs) (h2 : Vld tt cs) (e : jnN ss cs = jnN tt cs) : ss = tt := by
  have a := allN_at h1
  have b := allN_at h2
  rw [e, b] at a
  exact (Option.some.inj a).symm
theorem mem_allN : ∀ {ss cs : List Nat}, ss ∈ allN cs → Vld ss cs
  | ss, [], h => by
    have : ss = [] := by simpa [allN] using h
    subst this; trivial
  | ss, c :: cs, h => by
    rw [allN, List.mem_flatMap] at h
    obtain ⟨s, hs, h⟩ := h
    obtain ⟨tt, ht, rfl⟩ := List.mem_map.mp h
    exact ⟨List.mem_range.mp hs, mem_allN ht⟩
theorem Vld.set : ∀ {ss cs : List Nat} (h : Vld ss cs) {i t : Nat}, i < cs.length → t < cs.getD i 0 → Vld (ss.set i t) cs
  | [], [], _, i, _, h, _ => by simp at h
  | s :: ss, c :: cs, h, 0, t, _, ht => ⟨by simpa using ht, h.2⟩
  | s :: ss, c :: cs, h, i + 1, t, hi, ht => ⟨h.1, Vld.set h.2 (by simpa using hi) (by simpa using ht)⟩
theorem Vld.lt : ∀ {ss cs : List Nat} (h : Vld ss cs) {i : Nat}, i < cs.length → ss.getD i 0 < cs.getD i 0
  | [], [], _, i, h => by simp at h
  | s :: ss, c :: cs, h, 0, _ => by simpa using h.1
  | s :: ss, c :: cs, h, i + 1, hi => by simpa using Vld.lt h.2 (by simpa using hi)
theorem jn_cast : ∀ (ss cs : List Nat), jn (zz ss) (zz cs) = ((jnN ss cs : Nat) : Int) := by
  have : ∀ (ss cs : List Nat) (a : Nat), ((zz ss).zip (zz cs)).foldl (fun (n : Int) (p : Int × Int) => n * p.2 + p.1) (a : Int) = (((ss.zip cs).foldl (fun n p => n * p.2 + p.1) a : Nat) : Int) := by
    intro ss
    induction ss with
    | nil => intro cs a; simp [zz]
    | cons s ss ih =>
      intro cs a
      cases cs with
      | nil => simp [zz]
      | cons c cs =>
        have e := ih cs (a * c + s)
        simp only [zz, List.map_cons, List.zip_cons_cons, List.foldl_cons] at *
        rw [← e]
        congr 1
  intro ss cs
  exact this ss cs 0
theorem jstep_fold : ∀ (cs : List Nat) (acc : List (List Int)), (zz cs).foldl jstep acc = acc.flatMap fun st => (allN cs).map fun ss => st ++ zz ss
  | [], acc => by
    simp only [zz, List.map_nil, List.foldl_nil, allN, List.map_cons, List.append_nil]
    induction acc with
    | nil => rfl
    | cons x l ih => rw [List.flatMap_cons, ← ih]; rfl
  | c :: cs, acc => by
    have e : (zz (c :: cs)).foldl jstep acc = (zz cs).foldl jstep (jstep acc (c : Int)) := rfl
    rw [e, jstep_fold cs]
    unfold jstep
    rw [List.flatMap_assoc]
    congr 1
    funext st
    rw [allN, Int.toNat_natCast, List.map_flatMap, List.flatMap_map]
    congr 1
    funext s
    rw [List.map_map]
    congr 1
    funext ss
    simp [zz]
theorem js_eq (cs : List Nat) : js (zz cs) = (allN cs).map zz := by
  unfold js
  rw [jstep_fold]
  simp
def mach (rs : List (List Int)) : List Machine := (List.range (rs.length / 2)).map fun i => Sf95.machineOf (gns rs i, wts rs i)
def sizes (rs : List (List Int)) : List Nat := (List.range (rs.length / 2)).map fun i => (gns rs i).length
theorem cnts_eq (rs : List (List Int)) : cnts rs = zz (sizes rs) := by
  unfold cnts zz sizes gns
  rw [List.map_map]; rfl
theorem mach_length (rs : List (List Int)) : (mach rs).length = rs.length / 2 := by unfold mach; simp
theorem machine_eq {rs : List (List Int)} {i : Nat} (h : i < rs.length / 2) : machine (mach rs) i = Sf95.machineOf (gns rs i, wts rs i) := by
  unfold machine mach
  rw [List.getElem?_map, List.getElem?_range h]; rfl
theorem sizes_at {rs : List (List Int)} {i : Nat} (h : i < rs.length / 2) : (sizes rs).getD i 0 = (gns rs i).length := by
  unfold sizes
  rw [List.getD_eq_getElem?_getD, List.getElem?_map, List.getElem?_range h]; rfl
theorem sizes_length (rs : List (List Int)) : (sizes rs).length = rs.length / 2 := by unfold sizes; simp
theorem mok_iff (gs ws : List Int) : Sf95.machineOk (gs, ws) = true ↔ (1 ≤ gs.length ∧ gs.length ≤ 4 ∧ ws.length = gs.length * gs.length) ∧ (∀ g ∈ gs, -1000 ≤ g ∧ g ≤ 1000) ∧ (∀ x ∈ ws, 0 ≤ x ∧ x ≤ 100) ∧ ∀ i, i < gs.length → 0 < (wrow ws gs.length i).sum := by
  unfold Sf95.machineOk Sf69.rows Sf69.within Sf69.STATES Sf69.GAIN Sf69.WEIGHT
  simp only [Bool.and_eq_true, decide_eq_true_eq, beq_iff_eq, List.all_eq_true, List.mem_map, List.mem_range]
  constructor
  · rintro ⟨h1, h2, h3, h4, h5, h6⟩
    refine ⟨⟨h1, h2, h3⟩, fun g hg => ?_, fun x hx => ?_, fun i hi => ?_⟩
    · have := h4 g hg; omega
    · have := h5 x hx; omega
    · have := h6 _ ⟨i, hi, rfl⟩
      unfold wrow; rw [Nat.mul_comm i]; exact this
  · rintro ⟨⟨h1, h2, h3⟩, h4, h5, h6⟩
    refine ⟨h1, h2, h3, fun g hg => ?_, fun x hx => ?_, ?_⟩
    · have := h4 g hg; omega
    · have := h5 x hx; omega
    · rintro l ⟨i, hi, rfl⟩
      have := h6 i hi
      unfold wrow at this; rw [Nat.mul_comm i] at this; exact this
theorem wrow_length {ws : List Int} {c s : Nat} (h : (s + 1) * c ≤ ws.length) : (wrow ws c s).length = c := by
  unfold wrow
  rw [List.length_take, List.length_drop]
  rw [Nat.add_mul] at h; omega
theorem mem_wrow {ws : List Int} {c s : Nat} {x : Int} (h : x ∈ wrow ws c s) : x ∈ ws := List.mem_of_mem_drop (List.mem_of_mem_take h)
/-- machines that may be reckoned with -/
structure RsOk (rs : List (List Int)) : Prop where
  some : 1 ≤ rs.length / 2
  few : rs.length / 2 ≤ 3
  ok : ∀ i, i < rs.length / 2 → Sf95.machineOk (gns rs i, wts rs i) = true
  prod : prodN (sizes rs) ≤ 24
theorem machineOf_row {gs ws : List Int} {s : Nat} (hs : s < gs.length) : (Sf95.machineOf (gs, ws)).row s = wrow ws gs.length s := by
  unfold Machine.row Sf95.machineOf Sf69.rows wrow
  rw [List.getD_eq_getElem?_getD, List.getElem?_map, List.getElem?_range hs, Nat.mul_comm s]; rfl
theorem wrow_getD_nonneg {ws : List Int} (h : ∀ x ∈ ws, 0 ≤ x ∧ x ≤ 100) (c s t : Nat) : 0 ≤ (wrow ws c s).getD t 0 ∧ (wrow ws c s).getD t 0 ≤ 100 := by
  rw [List.getD_eq_getElem?_getD]
  cases e : (wrow ws c s)[t]? with
  | none => simp
  | some x => exact h x (mem_wrow (List.mem_of_getElem? e))
theorem LS_map (l : List Nat) (f : Nat → Rat) : (l.map f).sum = LS l f := by
  induction l with
  | nil => rfl
  | cons x l ih => rw [List.map_cons, rsum_cons, ih]; rfl
theorem list_range_map {A : Type} (l : List A) (d : A) : l = (List.range l.length).map fun t => l.getD t d := by
  apply List.ext_getElem?
  intro i
  by_cases h : i < l.length
  · rw [List.getElem?_map, List.getElem?_range h]
    simp [List.getD_eq_getElem?_getD, h]
  · rw [List.getElem?_eq_none (by omega), List.getElem?_eq_none (by simp; omega)]
theorem cast_sum1 (l : List Int) : ((l.sum : Int) : Rat) = (l.map fun x => ((x : Int) : Rat)).sum := by
  induction l with
  | nil => simp
  | cons x l ih => rw [List.map_cons, List.sum_cons, rsum_cons, Rat.intCast_add, ih]
theorem sum_S (l : List Int) : ((l.sum : Int) : Rat) = S l.length (fun t => ((l.getD t 0 : Int) : Rat)) := by
  rw [cast_sum1, ← LS_range, ← LS_map]
  congr 1
  have e : l.map (fun x => ((x : Int) : Rat)) = ((List.range l.length).map fun t => l.getD t 0).map (fun x => ((x : Int) : Rat)) := by
    rw [← list_range_map]
  rw [e, List.map_map]; rfl
theorem mok_MOk {gs ws : List Int} (h : Sf95.machineOk (gs, ws) = true) : MOk (Sf95.machineOf (gs, ws)) := by
  obtain ⟨⟨h1, h2, h3⟩, h4, h5, h6⟩ := (mok_iff gs ws).mp h
  have hsz : (Sf95.machineOf (gs, ws)).size = gs.length := rfl
  refine ⟨fun s t hs ht => ?_, fun s hs => ?_⟩
  · rw [hsz] at hs
    unfold Machine.chance
    rw [machineOf_row hs]
    have a := rat_pos (h6 s hs)
    have c : (0 : Rat) ≤ (((wrow ws gs.length s).getD t 0 : Int) : Rat) := by exact_mod_cast (wrow_getD_nonneg h5 gs.length s t).1
    rw [Rat.div_def]
    exact Rat.mul_nonneg c (Rat.le_of_lt (Rat.inv_pos.mpr a))
  · rw [hsz] at hs ⊢
    have a := rat_pos (h6 s hs)
    have hl : (wrow ws gs.length s).length = gs.length := wrow_length (by rw [h3]; exact Nat.mul_le_mul_right _ hs)
    have e := sum_S (wrow ws gs.length s)
    rw [hl] at e
    have : S gs.length ((Sf95.machineOf (gs, ws)).chance s) = S gs.length (fun t => (1 / (((wrow ws gs.length s).sum : Int) : Rat)) * (((wrow ws gs.length s).getD t 0 : Int) : Rat)) := S_congr fun t _ => by
      unfold Machine.chance
      rw [machineOf_row hs]; grind
    rw [this, S_mul, ← e]
    grind
theorem zz_getD (l : List Nat) (i : Nat) : (zz l).getD i 0 = ((l.getD i 0 : Nat) : Int) := by
  unfold zz
  rw [List.getD_eq_getElem?_getD, List.getElem?_map, List.getD_eq_getElem?_getD]
  cases l[i]? <;> rfl
theorem zz_set (l : List Nat) (i t : Nat) : (zz l).set i ((t : Nat) : Int) = zz (l.set i t) := by
  unfold zz; rw [List.map_set]
section
variable {rs : List (List Int)} {ss : List Nat} {i : Nat}
theorem rowOf_eq (R : RsOk rs) (V : Vld ss (sizes rs)) (hi : i < rs.length / 2) : rowOf rs (cnts rs) (zz ss) i = wrow (wts rs i) (gns rs i).length (ss.getD i 0) := by
  unfold rowOf
  rw [cnts_eq, zz_getD, zz_getD, sizes_at hi]; rfl
theorem row_facts (R : RsOk rs) (V : Vld ss (sizes rs)) (hi : i < rs.length / 2) :
    (rowOf rs (cnts rs) (zz ss) i).length = (gns rs i).length ∧ (∀ t, 0 ≤ (rowOf rs (cnts rs) (zz ss) i).getD t 0 ∧ (rowOf rs (cnts rs) (zz ss) i).getD t 0 ≤ 100) ∧ 0 < (rowOf rs (cnts rs) (zz ss) i).sum ∧ ss.getD i 0 < (gns rs i).length := by
  obtain ⟨⟨h1, h2, h3⟩, h4, h5, h6⟩ := (mok_iff _ _).mp (R.ok i hi)
  have hs : ss.getD i 0 < (gns rs i).length := by
    have := V.lt (i := i) (by rw [sizes_length]; exact hi)
    rwa [sizes_at hi] at this
  rw [rowOf_eq R V hi]
  exact ⟨wrow_length (by rw [h3]; exact Nat.mul_le_mul_right _ hs), fun t => wrow_getD_nonneg h5 _ _ t, h6 _ hs, hs⟩
theorem sum_le (l : List Int) (c : Int) (h : ∀ t, l.getD t 0 ≤ c) : l.sum ≤ l.length * c := by
  induction l with
  | nil => simp
  | cons x l ih =>
    have h0 := h 0
    have := ih fun t => by have := h (t + 1); simpa using this
    simp only [List.getD_cons_zero] at h0
    rw [List.sum_cons, List.length_cons]
    have e : ((l.length + 1 : Nat) : Int) * c = l.length * c + c := by rw [Int.natCast_add, Int.add_mul]; simp
    omega
theorem filter_sum (row : List Int) (h : ∀ t, 0 ≤ row.getD t 0) (g : Nat → Rat) (n : Nat) :
    LS ((List.range n).filter fun t => decide (0 < row.getD t 0)) (fun t => ((row.getD t 0 : Int) : Rat) * g t) = S n (fun t => ((row.getD t 0 : Int) : Rat) * g t) := by
  rw [LS_filter, LS_range]
  refine S_congr fun t _ => ?_
  by_cases c : 0 < row.getD t 0
  · rw [if_pos (by rw [decide_eq_true_eq]; exact c)]
  · rw [if_neg (by rw [decide_eq_true_eq]; exact c)]
    have : row.getD t 0 = 0 := by have := h t; omega
    rw [this]; grind
theorem int_eq_of_rat {x y : Int} (h : ((x : Int) : Rat) = ((y : Int) : Rat)) : x = y := by exact_mod_cast h
theorem pull_wf (R : RsOk rs) (V : Vld ss (sizes rs)) (hi : i < rs.length / 2) : PullWf (prodN (sizes rs)) (pullOf rs (cnts rs) (zz ss) i) := by
  obtain ⟨hl, hr, hp, hs⟩ := row_facts R V hi
  obtain ⟨⟨h1, h2, h3⟩, h4, h5, h6⟩ := (mok_iff _ _).mp (R.ok i hi)
  have hval : ∀ t, t < (gns rs i).length → Vld (ss.set i t) (sizes rs) := fun t ht => V.set (by rw [sizes_length]; exact hi) (by rw [sizes_at hi]; exact ht)
  have hjn : ∀ t, jn ((zz ss).set i ((t : Nat) : Int)) (cnts rs) = ((jnN (ss.set i t) (sizes rs) : Nat) : Int) := fun t => by rw [zz_set, cnts_eq, jn_cast]
  generalize hrow : rowOf rs (cnts rs) (zz ss) i = row at *
  refine ⟨?_, ?_, ?_, ?_, ?_⟩
  · show 0 < (rowOf rs (cnts rs) (zz ss) i).sum ∧ (rowOf rs (cnts rs) (zz ss) i).sum ≤ 400
    rw [hrow]
    have := sum_le row 100 fun t => (hr t).2
    rw [hl] at this
    omega
  · show -1000 ≤ (gns rs i).getD ((zz ss).getD i 0).toNat 0 ∧ (gns rs i).getD ((zz ss).getD i 0).toNat 0 ≤ 1000
    rw [zz_getD, Int.toNat_natCast]
    refine h4 _ ?_
    rw [List.getD_eq_getElem?_getD, List.getElem?_eq_getElem hs]
    exact List.getElem_mem hs
  · intro m hm
    unfold pullOf mvs at hm
    rw [hrow] at hm
    obtain ⟨t, ht, rfl⟩ := List.mem_map.mp hm
    rw [List.mem_filter, List.mem_range, decide_eq_true_eq] at ht
    have := jnN_lt (hval t (by rw [← hl]; exact ht.1))
    refine ⟨?_, ?_, ht.2, (hr t).2⟩
    · show 0 ≤ jn _ _; rw [hjn]; omega
    · show jn _ _ < _; rw [hjn]; omega
  · refine int_eq_of_rat ?_
    show ((((mvs (cnts rs) (zz ss) i (rowOf rs (cnts rs) (zz ss) i) (rowOf rs (cnts rs) (zz ss) i).length).map (·.2)).sum : Int) : Rat) = (((rowOf rs (cnts rs) (zz ss) i).sum : Int) : Rat)
    rw [hrow, sum_S row, cast_sum]
    unfold mvs
    rw [List.map_map]
    have := filter_sum row (fun t => (hr t).1) (fun _ => 1) row.length
    rw [← LS_map] at this
    have e : (fun t => ((row.getD t 0 : Int) : Rat) * 1) = (fun t => ((row.getD t 0 : Int) : Rat)) := by funext t; grind
    rw [e] at this
    exact this
  · show ((mvs (cnts rs) (zz ss) i (rowOf rs (cnts rs) (zz ss) i) (rowOf rs (cnts rs) (zz ss) i).length).map (·.1)).Nodup
    rw [hrow]
    unfold mvs
    rw [List.map_map]
    refine List.pairwise_map.mpr ?_
    have nd : ((List.range row.length).filter fun t => decide (0 < row.getD t 0)).Pairwise (· ≠ ·) := List.Pairwise.filter _ List.nodup_range
    refine List.Pairwise.imp_of_mem (fun {a c} ha hc hne => ?_) nd
    rw [List.mem_filter, List.mem_range] at ha hc
    show ¬ jn _ _ = jn _ _
    rw [hjn, hjn]
    intro q
    have q' : jnN (ss.set i a) (sizes rs) = jnN (ss.set i c) (sizes rs) := by exact_mod_cast q
    have := jnN_inj (hval a (by rw [← hl]; exact ha.1)) (hval c (by rw [← hl]; exact hc.1)) q'
    have e2 : (ss.set i a)[i]? = (ss.set i c)[i]? := by rw [this]
    have hil : i < ss.length := by rw [V.len, sizes_length]; exact hi
    rw [List.getElem?_set_self hil, List.getElem?_set_self hil] at e2
    exact hne (Option.some.inj e2)
/-- **A pull's worth is the specification's.** -/
theorem Qv_pull (R : RsOk rs) (V : Vld ss (sizes rs)) (hi : i < rs.length / 2) {b : Int} (hb : 0 ≤ b) (v : Nat → Rat) :
    Qv b (prodN (sizes rs)) (pullOf rs (cnts rs) (zz ss) i) v = pull b.toNat (mach rs) (fun tt => v (jnN tt (sizes rs))) ss i := by
  obtain ⟨hl, hr, hp, hs⟩ := row_facts R V hi
  have wf := pull_wf R V hi
  have hjn : ∀ t, jn ((zz ss).set i ((t : Nat) : Int)) (cnts rs) = ((jnN (ss.set i t) (sizes rs) : Nat) : Int) := fun t => by rw [zz_set, cnts_eq, jn_cast]
  rw [pull_eq, machine_eq hi]
  unfold Qv
  have hsz : (Sf95.machineOf (gns rs i, wts rs i)).size = (gns rs i).length := rfl
  rw [hsz]
  have g1 : (((pullOf rs (cnts rs) (zz ss) i).gain : Int) : Rat) = (Sf95.machineOf (gns rs i, wts rs i)).gains (ss.getD i 0) := by
    show ((((gns rs i).getD ((zz ss).getD i 0).toNat 0) : Int) : Rat) = _
    rw [zz_getD, Int.toNat_natCast]; rfl
  rw [g1]
  congr 1
  have h1 := S_wt (prodN (sizes rs)) v (pullOf rs (cnts rs) (zz ss) i).moves fun m hm => ⟨(wf.mv m hm).1, (wf.mv m hm).2.1⟩
  have h2 : S (prodN (sizes rs)) (fun y => qp b (pullOf rs (cnts rs) (zz ss) i) y * v y) = ((b : Rat) / 100 / (((pullOf rs (cnts rs) (zz ss) i).total : Int) : Rat)) * S (prodN (sizes rs)) (fun y => ((wtOf (pullOf rs (cnts rs) (zz ss) i) y : Int) : Rat) * v y) := by
    rw [← S_mul]
    exact S_congr fun y _ => by unfold qp; grind
  rw [h2]
  unfold wtOf
  rw [h1]
  have htot : (pullOf rs (cnts rs) (zz ss) i).total = (rowOf rs (cnts rs) (zz ss) i).sum := rfl
  rw [htot]
  have hmv : ((pullOf rs (cnts rs) (zz ss) i).moves.map fun m => (m.2 : Rat) * v m.1.toNat).sum = S (gns rs i).length (fun t => (((rowOf rs (cnts rs) (zz ss) i).getD t 0 : Int) : Rat) * v (jnN (ss.set i t) (sizes rs))) := by
    show ((mvs (cnts rs) (zz ss) i (rowOf rs (cnts rs) (zz ss) i) (rowOf rs (cnts rs) (zz ss) i).length).map fun m => (m.2 : Rat) * v m.1.toNat).sum = _
    rw [← hl, ← filter_sum _ (fun t => (hr t).1), ← LS_map]
    unfold mvs
    rw [List.map_map]
    congr 1
    refine List.map_congr_left fun t _ => ?_
    show _ * v (jn _ _).toNat = _
    rw [hjn, Int.toNat_natCast]
  rw [hmv, ← S_mul]
  refine S_congr fun t _ => ?_
  unfold qq Machine.chance
  rw [machineOf_row hs, ← rowOf_eq R V hi]
  have hlat : later b.toNat = (b : Rat) / 100 := by
    unfold later
    rw [Int.toNat_of_nonneg hb]
  rw [hlat]
  grind
end
end Lw
end
/-! LpSolve -/
section
set_option linter.all false
namespace Lp
theorem Z_cast (n : Nat) (f : Nat → Int) : ((Z n f : Int) : Rat) = S n (fun i => ((f i : Int) : Rat)) := by
  induction n with
  | zero => rfl
  | succ n ih => simp only [Z, S]; rw [Rat.intCast_add, ih]
/-- the diagonal outweighs all else -/
structure Dom (n : Nat) (A : Nat → Nat → Int) (a : Nat → Int) (w : Nat → Nat → Int) : Prop where
  at_ : ∀ i j, i < n → j < n → A i j = (if i = j then a i else 0) - w i j
  pos : ∀ i j, i < n → j < n → 0 ≤ w i j
  lt : ∀ i, i < n → Z n (w i) < a i
section
variable {n : Nat} {A : Nat → Nat → Int} {a : Nat → Int} {w : Nat → Nat → Int}
theorem Z_nonneg {n : Nat} {f : Nat → Int} (h : ∀ i, i < n → 0 ≤ f i) : 0 ≤ Z n f := by
  induction n with
  | zero => exact Int.le_refl 0
  | succ n ih =>
    have := ih fun i hi => h i (by omega)
    have := h n (by omega)
    simp only [Z]; omega
theorem Dom.a_pos (D : Dom n A a w) {i : Nat} (hi : i < n) : 0 < a i := by
  have := Z_nonneg (f := w i) fun j hj => D.pos i j hi hj
  have := D.lt i hi
  omega
def dq (a : Nat → Int) (w : Nat → Nat → Int) (i j : Nat) : Rat := ((w i j : Int) : Rat) / ((a i : Int) : Rat)
theorem Dom.q0 (D : Dom n A a w) : ∀ i j, i < n → j < n → 0 ≤ dq a w i j := fun i j hi hj => by
  have h1 : (0 : Rat) ≤ ((w i j : Int) : Rat) := by exact_mod_cast D.pos i j hi hj
  have h2 := Lw.rat_pos (D.a_pos hi)
  unfold dq
  rw [Rat.div_def]
  exact Rat.mul_nonneg h1 (Rat.le_of_lt (Rat.inv_pos.mpr h2))
theorem Dom.a_ne (D : Dom n A a w) {i : Nat} (hi : i < n) : ((a i : Int) : Rat) ≠ 0 := fun q => by
  have := Lw.rat_pos (D.a_pos hi)
  rw [q] at this
  exact absurd this (by decide)
theorem Dom.q1 (D : Dom n A a w) : ∀ i, i < n → S n (dq a w i) < 1 := fun i hi => by
  have h2 := Lw.rat_pos (D.a_pos hi)
  have e : S n (dq a w i) = (1 / ((a i : Int) : Rat)) * ((Z n (w i) : Int) : Rat) := by
    rw [Z_cast, ← S_mul]
    exact S_congr fun j _ => by unfold dq; grind
  have h3 : ((Z n (w i) : Int) : Rat) < ((a i : Int) : Rat) := Rat.intCast_lt_intCast.mpr (D.lt i hi)
  have h4 : (0 : Rat) < 1 / ((a i : Int) : Rat) := by rw [Rat.div_def, Rat.one_mul]; exact Rat.inv_pos.mpr h2
  have h5 := (Rat.mul_lt_mul_left h4).mpr h3
  have ne := D.a_ne hi
  rw [e]
  have e2 : 1 / ((a i : Int) : Rat) * ((a i : Int) : Rat) = 1 := by grind
  rw [e2] at h5
  exact h5
theorem Dom.q1k (D : Dom n A a w) {k : Nat} (hk : k ≤ n) : ∀ i, i < k → S k (dq a w i) < 1 := fun i hi =>
  Std.lt_of_le_of_lt (S_mono_n hk fun j hj => D.q0 i j (by omega) hj) (D.q1 i (by omega))
/-- a row of the system, over the fractions -/
theorem Dom.row (D : Dom n A a w) {k i : Nat} (hk : k ≤ n) (hi : i < k) (u : Nat → Rat) :
    S k (fun j => ((A i j : Int) : Rat) * u j) = ((a i : Int) : Rat) * (u i - S k (fun j => dq a w i j * u j)) := by
  have ne := D.a_ne (show i < n by omega)
  have e : S k (fun j => ((A i j : Int) : Rat) * u j) = S k (fun j => ((a i : Int) : Rat) * ((if i = j then 1 else 0) * u j - dq a w i j * u j)) := S_congr fun j hj => by
    rw [D.at_ i j (by omega) (by omega)]
    unfold dq
    by_cases c : i = j
    · rw [if_pos c, if_pos c, Rat.intCast_sub]; grind
    · rw [if_neg c, if_neg c, Rat.intCast_sub]; grind
  rw [e, S_mul, S_sub]
  congr 2
  rw [S_one i hi (fun j _ hj => by rw [if_neg (fun q => hj q.symm)]; grind), if_pos rfl]; grind
theorem Dom.ns (D : Dom n A a w) {k : Nat} (hk : k ≤ n) : NS A k := fun x hx => by
  have hz : ∀ i, i < k → ((x i : Int) : Rat) = S k (fun j => dq a w i j * ((x j : Int) : Rat)) := fun i hi => by
    have h1 := D.row hk hi (fun j => ((x j : Int) : Rat))
    have h2 : S k (fun j => ((A i j : Int) : Rat) * ((x j : Int) : Rat)) = 0 := by
      have := hx i hi
      have h3 : ((Z k (fun l => A i l * x l) : Int) : Rat) = 0 := by rw [this]; rfl
      rw [Z_cast] at h3
      rw [← h3]
      exact S_congr fun j _ => by rw [Rat.intCast_mul]
    rw [h2] at h1
    have ne := D.a_ne (show i < n by omega)
    have : ((x i : Int) : Rat) - S k (fun j => dq a w i j * ((x j : Int) : Rat)) = 0 := by
      rcases Rat.mul_eq_zero.mp h1.symm with h | h
      · exact absurd h ne
      · exact h
    grind
  have q0 : ∀ i j, i < k → j < k → 0 ≤ dq a w i j := fun i j hi hj => D.q0 i j (by omega) (by omega)
  have := once k (dq a w) (fun _ => 0) (fun i => ((x i : Int) : Rat)) (fun _ => 0) q0 (D.q1k hk) (fun i hi => by rw [Rat.zero_add]; exact hz i hi) (fun i hi => by
    rw [S_congr (g := fun _ => 0) (fun j _ => by grind), S_zero]; grind)
  intro l hl
  exact_mod_cast this l hl
/-- **Every leading minor is above nought.** -/
theorem Dom.det_pos (D : Dom n A a w) : ∀ k, k ≤ n → 0 < det k A
  | 0, _ => by show (0 : Int) < 1; decide
  | k + 1, hk => by
    have ih := D.det_pos k (by omega)
    have dp := Lw.rat_pos ih
    have dne : ((det k A : Int) : Rat) ≠ 0 := fun q => by rw [q] at dp; exact absurd dp (by decide)
    let z : Nat → Rat := fun p => - (((C A k p k : Int) : Rat) / ((det k A : Int) : Rat))
    have q0 : ∀ i j, i < k → j < k → 0 ≤ dq a w i j := fun i j hi hj => D.q0 i j (by omega) (by omega)
    have hz : ∀ i, i < k → z i = dq a w i k + S k (fun j => dq a w i j * z j) := fun i hi => by
      have ne := D.a_ne (show i < n by omega)
      have h1 := D.row (show k ≤ n by omega) hi z
      have h2 := cramer A k i k hi
      have h3 : S k (fun j => ((A i j : Int) : Rat) * ((C A k j k : Int) : Rat)) = ((det k A : Int) : Rat) * ((A i k : Int) : Rat) := by
        rw [← Rat.intCast_mul, ← h2, Z_cast]
        exact S_congr fun j _ => by rw [Rat.intCast_mul]
      have h4 : S k (fun j => ((A i j : Int) : Rat) * z j) = - (1 / ((det k A : Int) : Rat)) * S k (fun j => ((A i j : Int) : Rat) * ((C A k j k : Int) : Rat)) := by
        rw [← S_mul]
        exact S_congr fun j _ => by show _ * (- (_ / _)) = _; grind
      have h5 : ((A i k : Int) : Rat) = - ((a i : Int) : Rat) * dq a w i k := by
        rw [D.at_ i k (by omega) (by omega), if_neg (by omega)]
        unfold dq
        rw [Rat.intCast_sub]
        have : ((0 : Int) : Rat) = 0 := rfl
        rw [this]
        grind
      rw [h4, h3, h5] at h1
      have h6 : ((a i : Int) : Rat) * dq a w i k = ((a i : Int) : Rat) * (z i - S k (fun j => dq a w i j * z j)) := by grind
      have h7 : dq a w i k = z i - S k (fun j => dq a w i j * z j) := by
        have : ((a i : Int) : Rat) * (dq a w i k - (z i - S k (fun j => dq a w i j * z j))) = 0 := by grind
        rcases Rat.mul_eq_zero.mp this with h | h
        · exact absurd h ne
        · grind
      grind
    have z1 : ∀ i, i < k → z i - 1 ≤ 0 := by
      refine most k (dq a w) (fun i => z i - 1) q0 (D.q1k (show k ≤ n by omega)) fun i hi => .inr ?_
      have e : S k (fun j => dq a w i j * (z j - 1)) = S k (fun j => dq a w i j * z j) - S k (dq a w i) := by
        rw [← S_sub]; exact S_congr fun j _ => by grind
      have l := D.q1k hk i (by omega)
      have l2 : S (k + 1) (dq a w i) = S k (dq a w i) + dq a w i k := rfl
      rw [l2] at l
      have := hz i hi
      show z i - 1 ≤ S k (fun j => dq a w i j * (z j - 1))
      rw [e]
      grind
    have e1 := E_eq A k k k
    rw [E_diag] at e1
    have e2 : ((det (k + 1) A : Int) : Rat) = ((det k A : Int) : Rat) * (((A k k : Int) : Rat) + S k (fun p => ((A k p : Int) : Rat) * z p)) := by
      rw [e1, Rat.intCast_sub, Rat.intCast_mul, Z_cast]
      have : S k (fun p => ((A k p : Int) : Rat) * z p) = - (1 / ((det k A : Int) : Rat)) * S k (fun i => ((A k i * C A k i k : Int) : Rat)) := by
        rw [← S_mul]
        exact S_congr fun j _ => by rw [Rat.intCast_mul]; show _ * (- (_ / _)) = _; grind
      rw [this]
      grind
    have ak := Lw.rat_pos (D.a_pos (show k < n by omega))
    have ane := D.a_ne (show k < n by omega)
    have e3 : ((A k k : Int) : Rat) + S k (fun p => ((A k p : Int) : Rat) * z p) = ((a k : Int) : Rat) * (1 - dq a w k k - S k (fun p => dq a w k p * z p)) := by
      have h1 : ((A k k : Int) : Rat) = ((a k : Int) : Rat) * (1 - dq a w k k) := by
        rw [D.at_ k k (by omega) (by omega), if_pos rfl, Rat.intCast_sub]
        unfold dq; grind
      have h2 : S k (fun p => ((A k p : Int) : Rat) * z p) = - ((a k : Int) : Rat) * S k (fun p => dq a w k p * z p) := by
        rw [← S_mul]
        refine S_congr fun p hp => ?_
        rw [D.at_ k p (by omega) (by omega), if_neg (by omega), Rat.intCast_sub]
        unfold dq
        have : ((0 : Int) : Rat) = 0 := rfl
        rw [this]
        grind
      rw [h1, h2]; grind
    have l3 : S k (fun p => dq a w k p * z p) ≤ S k (dq a w k) := S_le fun p hp => by
      have h1 := z1 p hp
      have h2 := D.q0 k p (by omega) (by omega)
      have h3 : z p ≤ 1 := by grind
      have := Rat.mul_le_mul_of_nonneg_left h3 h2
      rw [Rat.mul_one] at this
      exact this
    have l4 := D.q1k hk k (by omega)
    have l5 : S (k + 1) (dq a w k) = S k (dq a w k) + dq a w k k := rfl
    rw [l5] at l4
    have l6 : 0 < 1 - dq a w k k - S k (fun p => dq a w k p * z p) := by grind
    have : (0 : Rat) < ((det (k + 1) A : Int) : Rat) := by
      rw [e2, e3]
      exact Rat.mul_pos dp (Rat.mul_pos ak l6)
    exact_mod_cast this
end
theorem natAbs_Z (n : Nat) (f : Nat → Int) (M : Nat) (h : ∀ i, i < n → (f i).natAbs ≤ M) : (Z n f).natAbs ≤ n * M := by
  induction n with
  | zero => simp [Z]
  | succ n ih =>
    have h1 := ih fun i hi => h i (by omega)
    have h2 := h n (by omega)
    simp only [Z]
    have := Int.natAbs_add_le (Z n f) (f n)
    rw [Nat.add_mul]
    omega
theorem natAbs_sg (n : Nat) : (sg n).natAbs = 1 := by
  induction n with
  | zero => rfl
  | succ n ih => simp only [sg]; rw [Int.natAbs_neg, ih]
theorem det_le (L B : Nat) : ∀ (n : Nat) (f : Nat → Nat → Int), n ≤ L → (∀ i j, i < n → j < n → (f i j).natAbs ≤ B) → (det n f).natAbs ≤ (L * B) ^ n
  | 0, _, _, _ => by simp [det]
  | n + 1, f, hn, h => by
    simp only [det]
    have := natAbs_Z (n + 1) (fun p => sg (n + p) * (f p n * det n (fun i j => f (skip p i) j))) (B * (L * B) ^ n) fun p hp => by
      rw [Int.natAbs_mul, natAbs_sg, Nat.one_mul, Int.natAbs_mul]
      exact Nat.mul_le_mul (h p n hp (by omega)) (det_le L B n _ (by omega) fun i j hi hj => h _ j (by unfold skip; split <;> omega) (by omega))
    refine Nat.le_trans this ?_
    rw [Nat.pow_succ, Nat.mul_comm _ (L * B), ← Nat.mul_assoc]
    exact Nat.mul_le_mul_right _ (Nat.mul_le_mul_right _ hn)
theorem N_le (L B : Nat) {n : Nat} {A : Nat → Nat → Int} (hL : n + 1 ≤ L) (hB : 1 ≤ B) (h : ∀ i j, i < n → j ≤ n → (A i j).natAbs ≤ B) {k i j : Nat} (hk : k ≤ n) (hi : i < n) (hj : j ≤ n) :
    (N A k i j).natAbs ≤ (L * B) ^ (k + 1) := by
  unfold N
  by_cases c : i < k
  · rw [if_pos c]
    unfold C Lu
    rw [Int.natAbs_neg]
    refine det_le L B (k + 1) _ (by omega) fun r q hr hq => ?_
    unfold upd bord
    by_cases c1 : r = k
    · rw [if_pos c1]
      show (if q = i then (1 : Int) else 0).natAbs ≤ B
      by_cases c2 : q = i
      · rw [if_pos c2]; exact hB
      · rw [if_neg c2]; exact Nat.zero_le _
    · rw [if_neg c1]
      exact h _ _ (by split <;> omega) (by split <;> omega)
  · rw [if_neg c]
    unfold E
    refine det_le L B (k + 1) _ (by omega) fun r q hr hq => ?_
    unfold bord
    exact h _ _ (by split <;> omega) (by split <;> omega)
end Lp
namespace Lw
open Lp
/-- a matrix as a list of rows -/
def rowL (n : Nat) (f : Nat → Int) : List Int := (List.range n).map f
def matL (n m : Nat) (f : Nat → Nat → Int) : List (List Int) := (List.range n).map fun i => rowL m (f i)
theorem rowL_length (n : Nat) (f : Nat → Int) : (rowL n f).length = n := by unfold rowL; simp
theorem rowL_at {n j : Nat} (f : Nat → Int) (h : j < n) : (rowL n f)[j]? = some (f j) := by
  unfold rowL; rw [List.getElem?_map, List.getElem?_range h]; rfl
theorem rowL_getD {n j : Nat} (f : Nat → Int) (h : j < n) : (rowL n f).getD j 0 = f j := by
  rw [List.getD_eq_getElem?_getD, rowL_at f h]; rfl
theorem matL_length (n m : Nat) (f : Nat → Nat → Int) : (matL n m f).length = n := by unfold matL; simp
theorem matL_at {n m i : Nat} (f : Nat → Nat → Int) (h : i < n) : (matL n m f)[i]? = some (rowL m (f i)) := by
  unfold matL; rw [List.getElem?_map, List.getElem?_range h]; rfl
theorem rowL_congr {n : Nat} {f g : Nat → Int} (h : ∀ j, j < n → f j = g j) : rowL n f = rowL n g := by
  unfold rowL; exact List.map_congr_left fun j hj => h j (List.mem_range.mp hj)
theorem matL_congr {n m : Nat} {f g : Nat → Nat → Int} (h : ∀ i j, i < n → j < m → f i j = g i j) : matL n m f = matL n m g := by
  unfold matL; exact List.map_congr_left fun i hi => rowL_congr fun j hj => h i j (List.mem_range.mp hi) hj
theorem matL_set {n m i : Nat} (f : Nat → Nat → Int) (g : Nat → Int) (h : i < n) : (matL n m f).set i (rowL m g) = matL n m (Lp.upd f i g) := by
  apply List.ext_getElem?
  intro r
  rw [List.getElem?_set]
  by_cases c : i = r
  · subst c
    rw [if_pos rfl, matL_length, if_pos h, matL_at _ h]
    unfold Lp.upd
    simp
  · rw [if_neg c]
    by_cases hr : r < n
    · rw [matL_at _ hr, matL_at _ hr]
      unfold Lp.upd
      have : ¬ r = i := fun q => c q.symm
      simp [this]
    · rw [List.getElem?_eq_none (by rw [matL_length]; omega), List.getElem?_eq_none (by rw [matL_length]; omega)]
def redRow (row piv : List Int) (k : Nat) (d : Int) : List Int := (row.zip piv).map fun xy => (piv.getD k 0 * xy.1 - row.getD k 0 * xy.2) / d
theorem redRow_eq {m k : Nat} {f g h : Nat → Int} {d : Int} (hk : k < m) (hd : d ≠ 0) (e : ∀ j, j < m → g k * f j - f k * g j = d * h j) : redRow (rowL m f) (rowL m g) k d = rowL m h := by
  unfold redRow
  rw [rowL_getD f hk, rowL_getD g hk]
  apply List.ext_getElem?
  intro j
  by_cases hj : j < m
  · rw [List.getElem?_map, (List.getElem?_zip_eq_some.mpr ⟨rowL_at f hj, rowL_at g hj⟩ : ((rowL m f).zip (rowL m g))[j]? = some (f j, g j)), rowL_at h hj]
    show some ((g k * f j - f k * g j) / d) = some (h j)
    rw [e j hj, Int.mul_ediv_cancel_left _ hd]
  · rw [List.getElem?_eq_none (by simp [rowL_length]; omega), List.getElem?_eq_none (by rw [rowL_length]; omega)]
/-- the equations of a choice -/
def eqA (b : Int) (n : Nat) (p : Nat → Pull) (i j : Nat) : Int := if j < n then (if i = j then 100 * (p i).total else 0) - b * wtOf (p i) j else 100 * (p i).total * (p i).gain
theorem wt_sum {n : Nat} {p : Pull} (h : PullWf n p) : Z n (wtOf p) = p.total := by
  have h1 := S_wt n (fun _ => 1) p.moves fun m hm => ⟨(h.mv m hm).1, (h.mv m hm).2.1⟩
  refine int_eq_of_rat ?_
  rw [Z_cast, ← h.sum, cast_sum]
  have e : (p.moves.map fun m => (m.2 : Rat) * 1) = p.moves.map fun m => ((m.2 : Int) : Rat) := List.map_congr_left fun m _ => by grind
  rw [← e, ← h1]
  exact S_congr fun y _ => by unfold wtOf; grind
theorem wt_le {n : Nat} {p : Pull} (h : PullWf n p) {y : Nat} (hy : y < n) : wtOf p y ≤ p.total := by
  rw [← wt_sum h]
  have : ∀ m, y < m → wtOf p y ≤ Z m (wtOf p) := by
    intro m
    induction m with
    | zero => intro h; omega
    | succ m ih =>
      intro hm
      simp only [Z]
      have nn := wt_nonneg h m
      by_cases c : y = m
      · subst c
        have := Z_nonneg (n := y) (f := wtOf p) fun i _ => wt_nonneg h i
        omega
      · have := ih (by omega); omega
  exact this n hy
section
variable {b : Int} {n : Nat} {p : Nat → Pull}
theorem eqA_dom (hb : 1 ≤ b ∧ b ≤ 99) (hp : ∀ i, i < n → PullWf n (p i)) : Dom n (eqA b n p) (fun i => 100 * (p i).total) (fun i j => b * wtOf (p i) j) :=
  ⟨fun i j hi hj => by unfold eqA; rw [if_pos hj], fun i j hi hj => Int.mul_nonneg (by omega) (wt_nonneg (hp i hi) j), fun i hi => by
    rw [Z_mul, wt_sum (hp i hi)]
    have := (hp i hi).tot.1
    exact Int.mul_lt_mul_of_pos_right (by omega) this⟩
theorem eqA_le (hb : 1 ≤ b ∧ b ≤ 99) (hp : ∀ i, i < n → PullWf n (p i)) (i j : Nat) (hi : i < n) (hj : j ≤ n) : (eqA b n p i j).natAbs ≤ 40000000 := by
  have ht := (hp i hi).tot
  have hg := (hp i hi).gn
  unfold eqA
  by_cases c : j < n
  · rw [if_pos c]
    have h1 := wt_nonneg (hp i hi) j
    have h2 := wt_le (hp i hi) c
    have h3 : 0 ≤ b * wtOf (p i) j := Int.mul_nonneg (by omega) h1
    have h4 : b * wtOf (p i) j ≤ 99 * 400 := Int.mul_le_mul hb.2 (by omega) h1 (by omega)
    split <;> omega
  · rw [if_neg c, Int.natAbs_mul]
    have h1 : (100 * (p i).total).natAbs ≤ 40000 := by omega
    have h2 : (p i).gain.natAbs ≤ 1000 := by omega
    exact Nat.mul_le_mul h1 h2
/-- so small are the entries at each turn -/
theorem N_small (hb : 1 ≤ b ∧ b ≤ 99) (hp : ∀ i, i < n → PullWf n (p i)) (hn : n ≤ 24) {k i j : Nat} (hk : k ≤ n) (hi : i < n) (hj : j ≤ n) : (N (eqA b n p) k i j).natAbs < 2 ^ 800 := by
  have := N_le 25 40000000 (show n + 1 ≤ 25 by omega) (by decide) (eqA_le hb hp) hk hi hj
  refine Nat.lt_of_le_of_lt this (Nat.lt_of_le_of_lt (Nat.pow_le_pow_right (by decide) (show k + 1 ≤ 25 by omega)) ?_)
  decide +kernel
theorem det_small (hb : 1 ≤ b ∧ b ≤ 99) (hp : ∀ i, i < n → PullWf n (p i)) (hn : n ≤ 24) {k : Nat} (hk : k ≤ n) : 0 < det k (eqA b n p) ∧ (det k (eqA b n p)).natAbs < 2 ^ 800 := by
  refine ⟨(eqA_dom hb hp).det_pos k hk, ?_⟩
  have := det_le 25 40000000 k (eqA b n p) (by omega) fun i j hi hj => eqA_le hb hp i j (by omega) (by omega)
  refine Nat.lt_of_le_of_lt this (Nat.lt_of_le_of_lt (Nat.pow_le_pow_right (by decide) (show k ≤ 25 by omega)) ?_)
  decide +kernel
/-- **One turn of one row** -/
theorem turn_row (hb : 1 ≤ b ∧ b ≤ 99) (hp : ∀ i, i < n → PullWf n (p i)) {k i : Nat} (hk : k < n) (hi : i ≠ k) :
    redRow (rowL (n + 1) (N (eqA b n p) k i)) (rowL (n + 1) (N (eqA b n p) k k)) k (det k (eqA b n p)) = rowL (n + 1) (N (eqA b n p) (k + 1) i) := by
  have D := eqA_dom hb hp
  have d0 := D.det_pos k (by omega)
  exact redRow_eq (by omega) (by omega) fun j _ => (bareiss (eqA b n p) k (D.ns (show k + 1 ≤ n by omega)) (by omega) j).1 i hi
theorem turn_piv (hb : 1 ≤ b ∧ b ≤ 99) (hp : ∀ i, i < n → PullWf n (p i)) {k : Nat} (hk : k < n) (j : Nat) : N (eqA b n p) (k + 1) k j = N (eqA b n p) k k j := by
  have D := eqA_dom hb hp
  have d0 := D.det_pos k (by omega)
  exact (bareiss (eqA b n p) k (D.ns (show k + 1 ≤ n by omega)) (by omega) j).2
theorem N_zero (A : Nat → Nat → Int) (i j : Nat) : N A 0 i j = A i j := by
  unfold N
  rw [if_neg (by omega), E_eq]
  simp [det, Z]
theorem N_piv (A : Nat → Nat → Int) (k : Nat) : N A k k k = det (k + 1) A := by
  unfold N
  rw [if_neg (by omega), E_diag]
/-- the numerators and the divisor -/
def solN (b : Int) (n : Nat) (p : Nat → Pull) : List Int := rowL n fun i => N (eqA b n p) n i n
def solD (b : Int) (n : Nat) (p : Nat → Pull) : Int := det n (eqA b n p)
/-- **What is solved keeps the equations.** -/
theorem sol_eq (hb : 1 ≤ b ∧ b ≤ 99) (hp : ∀ i, i < n → PullWf n (p i)) {i : Nat} (hi : i < n) :
    vOf (solN b n p) (solD b n p) i = Qv b n (p i) (vOf (solN b n p) (solD b n p)) := by
  have D := eqA_dom hb hp
  have d0 := D.det_pos n (Nat.le_refl n)
  have dp := rat_pos d0
  have dne : ((det n (eqA b n p) : Int) : Rat) ≠ 0 := fun q => by rw [q] at dp; exact absurd dp (by decide)
  have tp := rat_pos (hp i hi).tot.1
  have tne : (((p i).total : Int) : Rat) ≠ 0 := fun q => by rw [q] at tp; exact absurd tp (by decide)
  have h1 := cramer (eqA b n p) n i n hi
  have hv : ∀ j, j < n → vOf (solN b n p) (solD b n p) j = ((Lp.C (eqA b n p) n j n : Int) : Rat) / ((det n (eqA b n p) : Int) : Rat) := fun j hj => by
    unfold vOf solN solD
    rw [rowL_getD _ hj]
    unfold N
    rw [if_pos hj]
  have h2 := D.row (Nat.le_refl n) hi (vOf (solN b n p) (solD b n p))
  have h3 : S n (fun j => ((eqA b n p i j : Int) : Rat) * vOf (solN b n p) (solD b n p) j) = ((eqA b n p i n : Int) : Rat) := by
    have e : S n (fun j => ((eqA b n p i j : Int) : Rat) * vOf (solN b n p) (solD b n p) j) = (1 / ((det n (eqA b n p) : Int) : Rat)) * ((Z n (fun q => eqA b n p i q * Lp.C (eqA b n p) n q n) : Int) : Rat) := by
      rw [Z_cast, ← S_mul]
      exact S_congr fun j hj => by rw [hv j hj, Rat.intCast_mul]; grind
    rw [e, h1, Rat.intCast_mul]
    grind
  have h4 : ((eqA b n p i n : Int) : Rat) = ((100 * (p i).total : Int) : Rat) * (((p i).gain : Int) : Rat) := by
    unfold eqA
    rw [if_neg (by omega), Rat.intCast_mul]
  rw [h3, h4] at h2
  have ane := D.a_ne hi
  have h5 : (((p i).gain : Int) : Rat) = vOf (solN b n p) (solD b n p) i - S n (fun j => dq (fun i => 100 * (p i).total) (fun i j => b * wtOf (p i) j) i j * vOf (solN b n p) (solD b n p) j) := by
    have : ((100 * (p i).total : Int) : Rat) * ((((p i).gain : Int) : Rat) - (vOf (solN b n p) (solD b n p) i - S n (fun j => dq (fun i => 100 * (p i).total) (fun i j => b * wtOf (p i) j) i j * vOf (solN b n p) (solD b n p) j))) = 0 := by grind
    rcases Rat.mul_eq_zero.mp this with h | h
    · exact absurd h ane
    · grind
  unfold Qv
  rw [h5]
  have h6 : S n (fun j => dq (fun i => 100 * (p i).total) (fun i j => b * wtOf (p i) j) i j * vOf (solN b n p) (solD b n p) j) = S n (fun y => qp b (p i) y * vOf (solN b n p) (solD b n p) y) := S_congr fun j _ => by
    unfold dq qp
    simp only [Rat.intCast_mul]
    have : ((100 : Int) : Rat) = 100 := rfl
    rw [this]
    grind
  rw [h6]
  grind
end
def eqRow (b : Int) (p : Pull) (number n : Nat) : List Int :=
  let r := p.moves.foldl (fun r m => r.set m.1.toNat (-b * m.2)) (List.replicate n 0)
  r.set number (r.getD number 0 + 100 * p.total) ++ [100 * p.total * p.gain]
theorem fold_set (b : Int) (n : Nat) : ∀ (l : List (Int × Int)) (r : List Int), r.length = n → (l.map (·.1)).Nodup → (∀ m ∈ l, 0 ≤ m.1 ∧ m.1 < n) →
    (l.foldl (fun r m => r.set m.1.toNat (-b * m.2)) r).length = n ∧ ∀ y, y < n → (l.foldl (fun r m => r.set m.1.toNat (-b * m.2)) r).getD y 0 =
      if (∃ m ∈ l, m.1 = (y : Int)) then - b * (l.map fun m => if m.1 = (y : Int) then m.2 else 0).sum else r.getD y 0
  | [], r, h, _, _ => ⟨h, fun y _ => by simp⟩
  | m :: l, r, h, nd, hm => by
    rw [List.map_cons, List.nodup_cons] at nd
    have h0 := hm m (by simp)
    obtain ⟨h1, h2⟩ := fold_set b n l (r.set m.1.toNat (-b * m.2)) (by rw [List.length_set, h]) nd.2 fun x hx => hm x (by simp [hx])
    refine ⟨h1, fun y hy => ?_⟩
    rw [List.foldl_cons, h2 y hy, List.map_cons, List.sum_cons]
    by_cases c : m.1 = (y : Int)
    · have no : ¬ ∃ x ∈ l, x.1 = (y : Int) := fun ⟨x, hx, e⟩ => nd.1 (List.mem_map.mpr ⟨x, hx, by rw [e, c]⟩)
      have z : (l.map fun m => if m.1 = (y : Int) then m.2 else 0).sum = 0 := by
        have : ∀ l : List (Int × Int), (¬ ∃ x ∈ l, x.1 = (y : Int)) → (l.map fun m => if m.1 = (y : Int) then m.2 else 0).sum = 0 := by
          intro l
          induction l with
          | nil => intro _; rfl
          | cons a l ih =>
            intro hh
            rw [List.map_cons, List.sum_cons, ih fun ⟨x, hx, e⟩ => hh ⟨x, by simp [hx], e⟩, if_neg fun e => hh ⟨a, by simp, e⟩]; rfl
        exact this l no
      rw [if_neg no, if_pos ⟨m, by simp, c⟩, if_pos c, z]
      have ey : m.1.toNat = y := by omega
      rw [List.getD_eq_getElem?_getD, ey, List.getElem?_set_self (by omega)]
      simp
    · rw [if_neg c]
      have ne : m.1.toNat ≠ y := by clear h2; omega
      have ex : (∃ x ∈ m :: l, x.1 = (y : Int)) ↔ ∃ x ∈ l, x.1 = (y : Int) := by
        constructor
        · rintro ⟨x, hx, e⟩
          rcases List.mem_cons.mp hx with rfl | hx
          · exact absurd e c
          · exact ⟨x, hx, e⟩
        · rintro ⟨x, hx, e⟩
          exact ⟨x, by simp [hx], e⟩
      rw [List.getD_eq_getElem?_getD, List.getElem?_set_ne ne, ← List.getD_eq_getElem?_getD]
      by_cases d : ∃ x ∈ l, x.1 = (y : Int)
      · rw [if_pos d, if_pos (ex.mpr d)]; congr 1; omega
      · rw [if_neg d, if_neg fun q => d (ex.mp q)]
theorem eqRow_eq {b : Int} {n i : Nat} {p : Nat → Pull} (hp : PullWf n (p i)) (hi : i < n) : eqRow b (p i) i n = rowL (n + 1) (eqA b n p i) := by
  obtain ⟨h1, h2⟩ := fold_set b n (p i).moves (List.replicate n 0) (by simp) hp.nd fun m hm => ⟨(hp.mv m hm).1, (hp.mv m hm).2.1⟩
  have h3 : ∀ y, y < n → ((p i).moves.foldl (fun r m => r.set m.1.toNat (-b * m.2)) (List.replicate n 0)).getD y 0 = - (b * wtOf (p i) y) := fun y hy => by
    rw [h2 y hy]
    unfold wtOf
    by_cases c : ∃ m ∈ (p i).moves, m.1 = (y : Int)
    · rw [if_pos c, Int.neg_mul]
    · rw [if_neg c]
      have : ∀ l : List (Int × Int), (¬ ∃ x ∈ l, x.1 = (y : Int)) → (l.map fun m => if m.1 = (y : Int) then m.2 else 0).sum = 0 := by
        intro l
        induction l with
        | nil => intro _; rfl
        | cons a l ih =>
          intro hh
          rw [List.map_cons, List.sum_cons, ih fun ⟨x, hx, e⟩ => hh ⟨x, by simp [hx], e⟩, if_neg fun e => hh ⟨a, by simp, e⟩]; rfl
      rw [this _ c]
      simp [List.getD_eq_getElem?_getD, hy]
  unfold eqRow
  generalize hr : (p i).moves.foldl (fun r m => r.set m.1.toNat (-b * m.2)) (List.replicate n 0) = r at *
  apply List.ext_getElem?
  intro j
  simp only
  by_cases c : j < n
  · rw [List.getElem?_append_left (by rw [List.length_set]; omega), rowL_at _ (by omega)]
    unfold eqA
    rw [if_pos c]
    by_cases d : i = j
    · subst d
      rw [List.getElem?_set_self (by omega), h3 i c, if_pos rfl]
      congr 1; omega
    · rw [List.getElem?_set_ne d, if_neg d]
      have := h3 j c
      rw [List.getD_eq_getElem?_getD, List.getElem?_eq_getElem (by omega)] at this
      rw [List.getElem?_eq_getElem (by omega)]
      simp only [Option.getD_some] at this
      rw [this]
      congr 1; omega
  · by_cases d : j = n
    · subst d
      rw [List.getElem?_append_right (by rw [List.length_set]; omega), List.length_set, h1, rowL_at _ (by omega)]
      unfold eqA
      rw [if_neg c]
      simp
    · rw [List.getElem?_eq_none (by simp; omega), List.getElem?_eq_none (by rw [rowL_length]; omega)]
end Lw
end
/-! LpPolicy -/
section
set_option linter.all false
namespace Lw
open Lp
/-- pulls of all states, whatever they come from -/
structure PsWf (pulls : List (List Pull)) : Prop where
  len : pulls.length ≤ 24
  wf : ∀ x, x < pulls.length → ∀ p ∈ pulls.getD x [], PullWf pulls.length p
  some : ∀ x, x < pulls.length → 0 < (pulls.getD x []).length
  few : ∀ x, x < pulls.length → (pulls.getD x []).length ≤ 1000
def lens (pulls : List (List Pull)) : List Nat := pulls.map List.length
def noPull : Pull := ⟨0, 0, []⟩
def pu (pulls : List (List Pull)) (x i : Nat) : Pull := (pulls.getD x []).getD i noPull
/-- the pulls of a choice -/
def pc (pulls : List (List Pull)) (c : List Nat) (x : Nat) : Pull := pu pulls x (c.getD x 0)
def more (b : Int) (p r : Pull) (vs : List Int) (d : Int) : Bool := decide (pullNum b r vs d * p.total < pullNum b p vs d * r.total)
/-- the best of a state, the one at hand first -/
def betterAt (b : Int) (l : List Pull) (vs : List Int) (d : Int) (m c : Nat) : Nat := (List.range m).foldl (fun ch i => if more b (l.getD i noPull) (l.getD ch noPull) vs d then i else ch) c
def better (b : Int) (pulls : List (List Pull)) (c : List Nat) (vs : List Int) (d : Int) : List Nat := (List.range pulls.length).map fun x => betterAt b (pulls.getD x []) vs d (pulls.getD x []).length (c.getD x 0)
theorem fold_best (u : Nat → Rat) (c : Nat) : ∀ m, u c ≤ u ((List.range m).foldl (fun ch i => if u ch < u i then i else ch) c) ∧ (∀ i, i < m → u i ≤ u ((List.range m).foldl (fun ch i => if u ch < u i then i else ch) c)) ∧
    ((List.range m).foldl (fun ch i => if u ch < u i then i else ch) c = c ∨ ((List.range m).foldl (fun ch i => if u ch < u i then i else ch) c < m ∧ u c < u ((List.range m).foldl (fun ch i => if u ch < u i then i else ch) c)))
  | 0 => ⟨Rat.le_refl, fun _ h => by omega, .inl rfl⟩
  | m + 1 => by
    obtain ⟨h1, h2, h3⟩ := fold_best u c m
    rw [List.range_succ, List.foldl_append]
    generalize (List.range m).foldl (fun ch i => if u ch < u i then i else ch) c = r at *
    simp only [List.foldl_cons, List.foldl_nil]
    by_cases q : u r < u m
    · rw [if_pos q]
      refine ⟨by grind, fun i hi => ?_, .inr ⟨by omega, by grind⟩⟩
      by_cases e : i = m
      · rw [e]; exact Rat.le_refl
      · have := h2 i (by omega); grind
    · rw [if_neg q]
      refine ⟨h1, fun i hi => ?_, ?_⟩
      · by_cases e : i = m
        · rw [e]; grind
        · exact h2 i (by omega)
      · rcases h3 with h | h
        · exact .inl h
        · exact .inr ⟨by omega, h.2⟩
section
variable {b : Int} {pulls : List (List Pull)}
theorem getD_mem {A : Type} {l : List A} {i : Nat} {d : A} (h : i < l.length) : l.getD i d ∈ l := by
  rw [List.getD_eq_getElem?_getD, List.getElem?_eq_getElem h]; exact List.getElem_mem h
theorem PsWf.at_ (W : PsWf pulls) {x i : Nat} (hx : x < pulls.length) (hi : i < (pulls.getD x []).length) : PullWf pulls.length (pu pulls x i) := W.wf x hx _ (getD_mem hi)
theorem lens_getD {x : Nat} : (lens pulls).getD x 0 = (pulls.getD x []).length := by
  unfold lens
  rw [List.getD_eq_getElem?_getD, List.getElem?_map, List.getD_eq_getElem?_getD]
  cases pulls[x]? <;> rfl
theorem lens_length : (lens pulls).length = pulls.length := by unfold lens; simp
theorem Vld.choice {c : List Nat} (V : Vld c (lens pulls)) {x : Nat} (hx : x < pulls.length) : c.getD x 0 < (pulls.getD x []).length := by
  have := V.lt (i := x) (by rw [lens_length]; exact hx)
  rwa [lens_getD] at this
theorem PsWf.pc (W : PsWf pulls) {c : List Nat} (V : Vld c (lens pulls)) : ∀ x, x < pulls.length → PullWf pulls.length (pc pulls c x) := fun x hx => W.at_ hx (V.choice hx)
theorem vld_of : ∀ {c l : List Nat}, c.length = l.length → (∀ x, x < l.length → c.getD x 0 < l.getD x 0) → Vld c l
  | [], [], _, _ => trivial
  | a :: c, m :: l, h, k => ⟨by simpa using k 0 (by simp), vld_of (by simpa using h) fun x hx => by simpa using k (x + 1) (by simpa using hx)⟩
  | [], _ :: _, h, _ => by simp at h
  | _ :: _, [], h, _ => by simp at h
theorem betterAt_eq (W : PsWf pulls) {x : Nat} (hx : x < pulls.length) (vs : List Int) {d : Int} (hd : 0 < d) {c : Nat} (hc : c < (pulls.getD x []).length) : ∀ m, m ≤ (pulls.getD x []).length →
    betterAt b (pulls.getD x []) vs d m c = (List.range m).foldl (fun ch i => if Qv b pulls.length (pu pulls x ch) (vOf vs d) < Qv b pulls.length (pu pulls x i) (vOf vs d) then i else ch) c
  | 0, _ => rfl
  | m + 1, hm => by
    have ih := betterAt_eq W hx vs hd hc m (by omega)
    unfold betterAt at *
    rw [List.range_succ, List.foldl_append, List.foldl_append, ih]
    have fb := (fold_best (fun i => Qv b pulls.length (pu pulls x i) (vOf vs d)) c m).2.2
    generalize (List.range m).foldl (fun ch i => if Qv b pulls.length (pu pulls x ch) (vOf vs d) < Qv b pulls.length (pu pulls x i) (vOf vs d) then i else ch) c = r at *
    have hr : r < (pulls.getD x []).length := by rcases fb with h | h <;> omega
    have mi := more_iff (b := b) (W.at_ hx (show m < _ by omega)) (W.at_ hx hr) vs hd
    simp only [List.foldl_cons, List.foldl_nil]
    unfold more
    unfold pu at mi ⊢
    by_cases q : Qv b pulls.length ((pulls.getD x []).getD r noPull) (vOf vs d) < Qv b pulls.length ((pulls.getD x []).getD m noPull) (vOf vs d)
    · rw [if_pos q, if_pos (decide_eq_true (mi.mpr q))]
    · rw [if_neg q, if_neg (fun z => q (mi.mp (of_decide_eq_true z)))]
/-- the worths of a choice -/
def val (b : Int) (pulls : List (List Pull)) (c : List Nat) : Nat → Rat := vOf (solN b pulls.length (pc pulls c)) (solD b pulls.length (pc pulls c))
def bett (b : Int) (pulls : List (List Pull)) (c : List Nat) : List Nat := better b pulls c (solN b pulls.length (pc pulls c)) (solD b pulls.length (pc pulls c))
theorem val_eq (hb : 1 ≤ b ∧ b ≤ 99) (W : PsWf pulls) {c : List Nat} (V : Vld c (lens pulls)) {x : Nat} (hx : x < pulls.length) : val b pulls c x = Qv b pulls.length (pc pulls c x) (val b pulls c) := sol_eq hb (W.pc V) hx
theorem bett_at (hb : 1 ≤ b ∧ b ≤ 99) (W : PsWf pulls) {c : List Nat} (V : Vld c (lens pulls)) {x : Nat} (hx : x < pulls.length) :
    (bett b pulls c).getD x 0 < (pulls.getD x []).length ∧ Qv b pulls.length (pc pulls c x) (val b pulls c) ≤ Qv b pulls.length (pc pulls (bett b pulls c) x) (val b pulls c) ∧
    (∀ i, i < (pulls.getD x []).length → Qv b pulls.length (pu pulls x i) (val b pulls c) ≤ Qv b pulls.length (pc pulls (bett b pulls c) x) (val b pulls c)) ∧
    ((bett b pulls c).getD x 0 = c.getD x 0 ∨ Qv b pulls.length (pc pulls c x) (val b pulls c) < Qv b pulls.length (pc pulls (bett b pulls c) x) (val b pulls c)) := by
  have hd := (det_small hb (W.pc V) W.len (Nat.le_refl _)).1
  have e : (bett b pulls c).getD x 0 = (List.range (pulls.getD x []).length).foldl (fun ch i => if Qv b pulls.length (pu pulls x ch) (val b pulls c) < Qv b pulls.length (pu pulls x i) (val b pulls c) then i else ch) (c.getD x 0) := by
    unfold bett better
    rw [List.getD_eq_getElem?_getD, List.getElem?_map, List.getElem?_range hx]
    exact betterAt_eq W hx _ hd (V.choice hx) _ (Nat.le_refl _)
  have fb := fold_best (fun i => Qv b pulls.length (pu pulls x i) (val b pulls c)) (c.getD x 0) (pulls.getD x []).length
  rw [← e] at fb
  have hc := V.choice hx
  refine ⟨by rcases fb.2.2 with h | h <;> omega, fb.1, fb.2.1, ?_⟩
  rcases fb.2.2 with h | h
  · exact .inl h
  · exact .inr h.2
theorem bett_vld (hb : 1 ≤ b ∧ b ≤ 99) (W : PsWf pulls) {c : List Nat} (V : Vld c (lens pulls)) : Vld (bett b pulls c) (lens pulls) := by
  refine vld_of (by unfold bett better; simp [lens]) fun x hx => ?_
  rw [lens_length] at hx
  rw [lens_getD]
  exact (bett_at hb W V hx).1
theorem qp_nonneg (hb : 1 ≤ b ∧ b ≤ 99) {n : Nat} {p : Pull} (h : PullWf n p) (y : Nat) : 0 ≤ qp b p y := by
  unfold qp
  have h1 : (0 : Rat) ≤ ((wtOf p y : Int) : Rat) := by exact_mod_cast wt_nonneg h y
  have h2 := rat_pos h.tot.1
  have h3 : (0 : Rat) ≤ (b : Rat) / 100 := by
    have : (0 : Rat) ≤ ((b : Int) : Rat) := by exact_mod_cast (show (0 : Int) ≤ b by omega)
    grind
  rw [Rat.div_def]
  exact Rat.mul_nonneg (Rat.mul_nonneg h3 h1) (Rat.le_of_lt (Rat.inv_pos.mpr h2))
theorem qp_lt (hb : 1 ≤ b ∧ b ≤ 99) {n : Nat} {p : Pull} (h : PullWf n p) : S n (qp b p) < 1 := by
  rw [S_qp h]
  have : ((b : Int) : Rat) ≤ ((99 : Int) : Rat) := Rat.intCast_le_intCast.mpr hb.2
  have e : ((99 : Int) : Rat) = 99 := rfl
  rw [e] at this
  grind
theorem Qv_sub {n : Nat} (p : Pull) (u v : Nat → Rat) : Qv b n p u - Qv b n p v = S n (fun y => qp b p y * (u y - v y)) := by
  unfold Qv
  have : S n (fun y => qp b p y * (u y - v y)) = S n (fun y => qp b p y * u y) - S n (fun y => qp b p y * v y) := by
    rw [← S_sub]; exact S_congr fun y _ => by grind
  rw [this]; grind
theorem val_le (hb : 1 ≤ b ∧ b ≤ 99) (W : PsWf pulls) {c : List Nat} (V : Vld c (lens pulls)) : ∀ x, x < pulls.length → val b pulls c x ≤ val b pulls (bett b pulls c) x := by
  have V' := bett_vld hb W V
  have := most pulls.length (fun x => qp b (pc pulls (bett b pulls c) x)) (fun x => val b pulls c x - val b pulls (bett b pulls c) x) (fun x y hx _ => qp_nonneg hb (W.pc V' x hx) y) (fun x hx => qp_lt hb (W.pc V' x hx)) fun x hx => .inr ?_
  · intro x hx
    have := this x hx
    grind
  · rw [← Qv_sub]
    have h1 := val_eq hb W V hx
    have h2 := val_eq hb W V' hx
    have h3 := (bett_at hb W V hx).2.1
    grind
theorem S_lt {n : Nat} {f g : Nat → Rat} (h : ∀ i, i < n → f i ≤ g i) {j : Nat} (hj : j < n) (s : f j < g j) : S n f < S n g := by
  induction n with
  | zero => omega
  | succ n ih =>
    simp only [S]
    have h1 := S_le (n := n) fun i hi => h i (by omega)
    have h2 := h n (by omega)
    by_cases c : j = n
    · subst c; grind
    · have := ih (fun i hi => h i (by omega)) (by omega); grind
theorem val_lt (hb : 1 ≤ b ∧ b ≤ 99) (W : PsWf pulls) {c : List Nat} (V : Vld c (lens pulls)) (ne : bett b pulls c ≠ c) : S pulls.length (val b pulls c) < S pulls.length (val b pulls (bett b pulls c)) := by
  have V' := bett_vld hb W V
  have hl : (bett b pulls c).length = c.length := by rw [V'.len, V.len]
  have ⟨x, hx, hne⟩ : ∃ x, x < pulls.length ∧ (bett b pulls c).getD x 0 ≠ c.getD x 0 := by
    refine Classical.byContradiction fun no => ne ?_
    apply List.ext_getElem?
    intro x
    by_cases hx : x < c.length
    · have e : (bett b pulls c).getD x 0 = c.getD x 0 := Classical.byContradiction fun q => no ⟨x, by rw [V.len, lens_length] at hx; exact hx, q⟩
      rw [List.getElem?_eq_getElem hx, List.getElem?_eq_getElem (by omega)]
      rw [List.getD_eq_getElem?_getD, List.getD_eq_getElem?_getD, List.getElem?_eq_getElem hx, List.getElem?_eq_getElem (by omega)] at e
      exact congrArg some e
    · rw [List.getElem?_eq_none (by omega), List.getElem?_eq_none (by omega)]
  refine S_lt (val_le hb W V) hx ?_
  rcases (bett_at hb W V hx).2.2.2 with h | h
  · exact absurd h hne
  · have h1 := val_eq hb W V hx
    have h2 := val_eq hb W V' hx
    have h3 : Qv b pulls.length (pc pulls (bett b pulls c) x) (val b pulls c) ≤ Qv b pulls.length (pc pulls (bett b pulls c) x) (val b pulls (bett b pulls c)) := by
      have e := Qv_sub (b := b) (n := pulls.length) (pc pulls (bett b pulls c) x) (val b pulls (bett b pulls c)) (val b pulls c)
      have : 0 ≤ S pulls.length (fun y => qp b (pc pulls (bett b pulls c) x) y * (val b pulls (bett b pulls c) y - val b pulls c y)) := S_nonneg fun y hy => by
        refine Rat.mul_nonneg (qp_nonneg hb (W.pc V' x hx) y) ?_
        have := val_le hb W V y hy
        grind
      grind
    grind
/-- how many choices are worth more -/
def meas (b : Int) (pulls : List (List Pull)) (c : List Nat) : Nat := (allN (lens pulls)).countP fun e => decide (S pulls.length (val b pulls c) < S pulls.length (val b pulls e))
theorem countP_lt {A : Type} {p q : A → Bool} : ∀ {l : List A}, (∀ x ∈ l, p x = true → q x = true) → (∃ x ∈ l, q x = true ∧ p x = false) → l.countP p < l.countP q
  | [], _, ⟨x, h, _⟩ => by simp at h
  | a :: l, h, ⟨x, hx, h1, h2⟩ => by
    have sub : ∀ y ∈ l, p y = true → q y = true := fun y hy => h y (by simp [hy])
    have le : l.countP p ≤ l.countP q := List.countP_mono_left sub
    rw [List.countP_cons, List.countP_cons]
    rcases List.mem_cons.mp hx with e | hx
    · subst e
      rw [h1, h2]; simp; omega
    · have := countP_lt sub ⟨x, hx, h1, h2⟩
      have ha := h a (by simp)
      cases ep : p a with
      | true => rw [ha ep]; simp; omega
      | false => cases q a <;> simp <;> omega
theorem Vld.mem : ∀ {c l : List Nat}, Vld c l → c ∈ allN l := fun {c l} h => List.mem_of_getElem? (allN_at h)
/-- **The loop ends.** -/
theorem meas_lt (hb : 1 ≤ b ∧ b ≤ 99) (W : PsWf pulls) {c : List Nat} (V : Vld c (lens pulls)) (ne : bett b pulls c ≠ c) : meas b pulls (bett b pulls c) < meas b pulls c := by
  have lt := val_lt hb W V ne
  refine countP_lt (fun e _ h => ?_) ⟨bett b pulls c, (bett_vld hb W V).mem, decide_eq_true lt, decide_eq_false (fun h => by grind)⟩
  have := of_decide_eq_true h
  exact decide_eq_true (by grind)
/-- what is settled -/
structure Bell (b : Int) (pulls : List (List Pull)) (vs : List Int) (d : Int) : Prop where
  len : vs.length = pulls.length
  pos : 0 < d
  sd : d.natAbs < 2 ^ 800
  sv : ∀ y ∈ vs, y.natAbs < 2 ^ 800
  le : ∀ x, x < pulls.length → ∀ i, i < (pulls.getD x []).length → Qv b pulls.length (pu pulls x i) (vOf vs d) ≤ vOf vs d x
  eq : ∀ x, x < pulls.length → ∃ i, i < (pulls.getD x []).length ∧ vOf vs d x = Qv b pulls.length (pu pulls x i) (vOf vs d)
/-- **What can't be bettered is the worth.** -/
theorem bell (hb : 1 ≤ b ∧ b ≤ 99) (W : PsWf pulls) {c : List Nat} (V : Vld c (lens pulls)) (fx : bett b pulls c = c) : Bell b pulls (solN b pulls.length (pc pulls c)) (solD b pulls.length (pc pulls c)) := by
  have ds := det_small hb (W.pc V) W.len (Nat.le_refl _)
  refine ⟨by unfold solN; rw [rowL_length], ds.1, ds.2, fun y hy => ?_, fun x hx i hi => ?_, fun x hx => ⟨_, V.choice hx, val_eq hb W V hx⟩⟩
  · unfold solN rowL at hy
    obtain ⟨i, hi, rfl⟩ := List.mem_map.mp hy
    exact N_small hb (W.pc V) W.len (Nat.le_refl _) (List.mem_range.mp hi) (Nat.le_refl _)
  · have h1 := (bett_at hb W V hx).2.2.1 i hi
    rw [fx, ← val_eq hb W V hx] at h1
    exact h1
end
end Lw
end
/-! LpBell -/
section
set_option linter.all false
namespace Lw
open Lp Sf69
section
variable {rs : List (List Int)} {b : Int}
theorem allPulls_eq (rs : List (List Int)) : allPulls rs = (allN (sizes rs)).map fun ss => (List.range (rs.length / 2)).map fun i => pullOf rs (cnts rs) (zz ss) i := by
  unfold allPulls
  have : (cnts rs).length = rs.length / 2 := by unfold cnts; simp
  rw [this]
  have e : js (cnts rs) = (allN (sizes rs)).map zz := by rw [cnts_eq, js_eq]
  rw [e, List.map_map]; rfl
theorem allPulls_length (rs : List (List Int)) : (allPulls rs).length = prodN (sizes rs) := by rw [allPulls_eq, List.length_map, allN_length]
theorem stAt_vld {cs : List Nat} {x : Nat} (hx : x < prodN cs) : ∃ ss, Vld ss cs ∧ jnN ss cs = x ∧ (allN cs)[x]? = some ss := by
  have h : x < (allN cs).length := by rw [allN_length]; exact hx
  have e := List.getElem?_eq_getElem h
  have V := mem_allN (List.mem_of_getElem? e)
  refine ⟨_, V, ?_, e⟩
  have := allN_at V
  have nd : (allN cs).Nodup := by
    have := nodup_all (cs.map fun c => (⟨List.replicate c 0, []⟩ : Machine))
    rw [allStates_eq, List.map_map] at this
    have e2 : cs.map (Machine.size ∘ fun c => (⟨List.replicate c 0, []⟩ : Machine)) = cs := by
      have : (Machine.size ∘ fun c => (⟨List.replicate c 0, []⟩ : Machine)) = id := by
        funext c; simp [Machine.size]
      rw [this]; simp
    rwa [e2] at this
  have hj : jnN (allN cs)[x] cs < (allN cs).length := by rw [allN_length]; exact jnN_lt V
  refine nodup_inj nd hj h ?_
  rw [List.getElem?_eq_getElem hj] at this
  exact Option.some.inj this
theorem allPulls_at {ss : List Nat} (V : Vld ss (sizes rs)) : (allPulls rs).getD (jnN ss (sizes rs)) [] = (List.range (rs.length / 2)).map fun i => pullOf rs (cnts rs) (zz ss) i := by
  rw [allPulls_eq, List.getD_eq_getElem?_getD, List.getElem?_map, allN_at V]; rfl
theorem RsOk.wf (R : RsOk rs) : PsWf (allPulls rs) := by
  refine ⟨by rw [allPulls_length]; exact R.prod, fun x hx p hp => ?_, fun x hx => ?_, fun x hx => ?_⟩ <;> rw [allPulls_length] at hx <;> obtain ⟨ss, V, rfl, _⟩ := stAt_vld hx
  · rw [allPulls_at V] at hp
    obtain ⟨i, hi, rfl⟩ := List.mem_map.mp hp
    rw [allPulls_length]
    exact pull_wf R V (List.mem_range.mp hi)
  · rw [allPulls_at V, List.length_map, List.length_range]; exact R.some
  · rw [allPulls_at V, List.length_map, List.length_range]; have := R.few; omega
theorem getD_elem {A : Type} {l : List A} {k : Nat} {d : A} (h : k < l.length) : l[k] = l.getD k d := by
  rw [List.getD_eq_getElem?_getD, List.getElem?_eq_getElem h]; rfl
end
theorem pairs_eq : ∀ {rs : List (List Int)} {l : List (List Int × List Int)}, Sf95Neutral.pairs rs = some l → rs.length = 2 * l.length ∧ l = (List.range (rs.length / 2)).map fun i => (gns rs i, wts rs i)
  | [], l, h => by
    have : l = [] := (Option.some.inj h).symm
    subst this; exact ⟨rfl, rfl⟩
  | [_], l, h => by simp [Sf95Neutral.pairs] at h
  | g :: w :: r, l, h => by
    rw [Sf95Neutral.pairs] at h
    obtain ⟨l', h1, rfl⟩ := Option.map_eq_some_iff.mp h
    obtain ⟨e1, e2⟩ := pairs_eq h1
    refine ⟨by simp [e1]; omega, ?_⟩
    have e3 : (g :: w :: r).length / 2 = r.length / 2 + 1 := by simp; omega
    rw [e3, List.range_succ_eq_map, List.map_cons, List.map_map]
    congr 1
/-- what is not refused -/
structure Fine (b : Int) (ss : List Int) (rs : List (List Int)) : Prop where
  b : 1 ≤ b ∧ b ≤ 99
  few : rs.length / 2 ≤ 3
  len : ss.length = rs.length / 2
  ok : ∀ i, i < rs.length / 2 → Sf95.machineOk (gns rs i, wts rs i) = true
  st : ∀ i, i < rs.length / 2 → 0 ≤ ss.getD i 0 ∧ ss.getD i 0 < ((gns rs i).length : Int)
theorem refB_iff (b : Int) (ss : List Int) (rs : List (List Int)) : refB b ss rs = false ↔ Fine b ss rs := by
  unfold refB badAt
  simp only [Bool.or_eq_false_iff, decide_eq_false_iff_not, List.any_eq_false, List.mem_range]
  constructor
  · rintro ⟨h1, h2, h3, h4, h5⟩
    refine ⟨⟨by omega, by omega⟩, by omega, by omega, fun i hi => ?_, fun i hi => ?_⟩
    · have := h5 i hi
      simp at this
      exact this.1
    · have := h5 i hi
      simp only [Bool.or_eq_true, decide_eq_true_eq, not_or] at this
      omega
  · rintro ⟨h1, h2, h3, h4, h5⟩
    refine ⟨by omega, by omega, by omega, by omega, fun i hi => ?_⟩
    have := h5 i hi
    rw [h4 i hi]
    simp only [Bool.or_eq_true, decide_eq_true_eq, not_or]
    exact ⟨by simp, by omega, by omega⟩
theorem zip_all_iff (ss : List Int) (l : List (List Int × List Int)) (h : ss.length = l.length) : ((List.zip ss l).all fun (y : Int × List Int × List Int) => decide (0 ≤ y.1) && decide (y.1 < (y.2.1.length : Int))) = true ↔ ∀ i, i < l.length → 0 ≤ ss.getD i 0 ∧ ss.getD i 0 < (((l.getD i ([], [])).1.length : Nat) : Int) := by
  induction ss generalizing l with
  | nil =>
    cases l with
    | nil => simp
    | cons => simp at h
  | cons s ss ih =>
    cases l with
    | nil => simp at h
    | cons m l =>
      have ih' := ih l (by simpa using h)
      rw [List.zip_cons_cons, List.all_cons, Bool.and_eq_true, ih', Bool.and_eq_true, decide_eq_true_eq, decide_eq_true_eq]
      constructor
      · rintro ⟨h1, h2⟩ i hi
        cases i with
        | zero => exact h1
        | succ i => exact h2 i (by simpa using hi)
      · intro h1
        exact ⟨h1 0 (by simp), fun i hi => h1 (i + 1) (by simpa using hi)⟩
theorem given_ok {b : Int} {ss : List Int} {rs : List (List Int)} {l : List (List Int × List Int)} (hl : l = (List.range (rs.length / 2)).map fun i => (gns rs i, wts rs i)) (h1 : 1 ≤ rs.length / 2) :
    (Sf95.Given.ok ⟨b, ss, l⟩ = true ↔ Fine b ss rs) := by
  have hlen : l.length = rs.length / 2 := by rw [hl]; simp
  have hat : ∀ i, i < rs.length / 2 → l.getD i ([], []) = (gns rs i, wts rs i) := fun i hi => by
    rw [hl, List.getD_eq_getElem?_getD, List.getElem?_map, List.getElem?_range hi]; rfl
  unfold Sf95.Given.ok Sf69.within Sf69.MACHINES
  simp only [Bool.and_eq_true, decide_eq_true_eq, beq_iff_eq]
  constructor
  · rintro ⟨⟨h2, h3⟩, h4, h5, h6, h7, h8⟩
    rw [zip_all_iff ss l h7] at h8
    rw [List.all_eq_true] at h6
    refine ⟨⟨by omega, by omega⟩, by omega, by omega, fun i hi => ?_, fun i hi => ?_⟩
    · refine h6 _ ?_
      rw [hl]
      exact List.mem_map.mpr ⟨i, List.mem_range.mpr hi, rfl⟩
    · have := h8 i (by omega)
      rw [hat i hi] at this
      exact this
  · rintro ⟨h2, h3, h4, h5, h6⟩
    refine ⟨⟨by omega, by omega⟩, by omega, by omega, ?_, by omega, ?_⟩
    · rw [List.all_eq_true]
      intro m hm
      rw [hl] at hm
      obtain ⟨i, hi, rfl⟩ := List.mem_map.mp hm
      exact h5 i (List.mem_range.mp hi)
    · rw [zip_all_iff ss l (by omega)]
      intro i hi
      rw [hat i (by omega)]
      exact h6 i (by omega)
theorem all_eq {b : Int} {ss : List Int} {rs : List (List Int)} {l : List (List Int × List Int)} (hl : l = (List.range (rs.length / 2)).map fun i => (gns rs i, wts rs i)) : Sf95.Given.all ⟨b, ss, l⟩ = mach rs := by
  unfold Sf95.Given.all mach
  rw [hl, List.map_map]; rfl
/-- what is asked of what is handed in -/
structure Askd (ss : List Int) (rs : List (List Int)) : Prop where
  two : rs.length = 2 * (rs.length / 2)
  one : 1 ≤ rs.length / 2
  four : rs.length / 2 ≤ 4
  pr : Sf95Neutral.pairs rs = some ((List.range (rs.length / 2)).map fun i => (gns rs i, wts rs i))
  short : ss.length ≤ 5
  rows : ∀ r ∈ rs, r.length ≤ 36
  few : (∀ i, i < rs.length / 2 → Sf95.machineOk (gns rs i, wts rs i) = true) → prodN (sizes rs) ≤ 24
theorem foldl_prod : ∀ (l : List Nat) (a : Nat), l.foldl (fun (a b : Nat) => a * b) a = a * prodN l
  | [], a => by simp [prodN]
  | x :: l, a => by rw [List.foldl_cons, foldl_prod l, prodN, Nat.mul_assoc]
theorem askd_of {b : Int} {ss : List Int} {rs : List (List Int)} (h : Sf95Neutral.given b ss rs = true) (hr : ∀ r ∈ rs, r.length ≤ 36) : Askd ss rs := by
  unfold Sf95Neutral.given at h
  rw [Bool.and_eq_true, Bool.and_eq_true] at h
  obtain ⟨_, h1, h2⟩ := h
  cases e : Sf95Neutral.pairs rs with
  | none => rw [e] at h2; cases h2
  | some l =>
    rw [e] at h2
    obtain ⟨e1, e2⟩ := pairs_eq e
    have hl : l.length = rs.length / 2 := by omega
    simp only [Bool.and_eq_true, decide_eq_true_eq] at h2
    obtain ⟨a1, a2, a3, a4⟩ := h2
    unfold Sf95Neutral.row at h1
    rw [Bool.and_eq_true, decide_eq_true_eq] at h1
    refine ⟨by omega, by omega, by omega, by rw [← e2]; exact e, h1.2, hr, fun hok => ?_⟩
    unfold Sf95Neutral.few at a4
    rw [Bool.or_eq_true, decide_eq_true_eq] at a4
    have es : (l.map fun (m : List Int × List Int) => m.1.length) = sizes rs := by
      rw [e2, List.map_map]; rfl
    rcases a4 with a4 | a4
    · rw [List.any_eq_true] at a4
      obtain ⟨m, hm, hq⟩ := a4
      rw [e2] at hm
      obtain ⟨i, hi, rfl⟩ := List.mem_map.mp hm
      have := ((mok_iff _ _).mp (hok i (List.mem_range.mp hi))).1
      rw [Bool.or_eq_true, decide_eq_true_eq] at hq
      rcases hq with hq | hq
      · rw [List.isEmpty_iff] at hq
        simp only at hq
        rw [hq] at this
        simp at this
      · simp only at hq; omega
    · rw [es, foldl_prod, Nat.one_mul] at a4
      exact a4
theorem order_due {b : Int} {ss : List Int} {rs : List (List Int)} (A : Askd ss rs) :
    PySf95.order b ss rs = if refB b ss rs = true then [-1] else 0 :: (Sf95.ordered b.toNat (mach rs) (ss.map Int.toNat)).map fun (i : Nat) => (i : Int) := by
  have e : PySf95.order b ss rs = (let y := Sf95.does (.order ⟨b, ss, (List.range (rs.length / 2)).map fun i => (gns rs i, wts rs i)⟩); y.value :: y.out) := by
    unfold PySf95.order Sf95Neutral.f
    show (match (Sf95Neutral.pairs rs).map fun l => Sf95.Call.order ⟨b, ss, l⟩ with | some x => _ | none => _) = _
    rw [A.pr]; rfl
  rw [e]
  have g := given_ok (b := b) (ss := ss) (rs := rs) rfl A.one
  by_cases c : refB b ss rs = true
  · have : ¬ Fine b ss rs := fun F => by rw [(refB_iff b ss rs).mpr F] at c; cases c
    have h0 : Sf95.Given.ok ⟨b, ss, (List.range (rs.length / 2)).map fun i => (gns rs i, wts rs i)⟩ = false := by
      rw [Bool.eq_false_iff]; exact fun q => this (g.mp q)
    rw [if_pos c]
    simp only [Sf95.does, h0]; rfl
  · have F := (refB_iff b ss rs).mp (by simpa using c)
    have h0 := g.mpr F
    rw [if_neg c]
    simp only [Sf95.does, h0]
    rw [if_neg (by decide), all_eq rfl]; rfl
end Lw
end
/-! LpRest -/
section
set_option linter.all false
namespace Lp
section
variable {n : Nat} {be : Rat} {q : Nat → Nat → Rat} {g nu : Nat → Rat}
/-- beginning anew: what the state is then worth tells the index -/
theorem restart (M : Mach n be q) (I : IsIx n q g nu) {s0 : Nat} (h0 : s0 < n) (v : Nat → Rat)
    (le1 : ∀ x, x < n → g x + S n (fun t => q x t * v t) ≤ v x) (le2 : ∀ x, x < n → g s0 + S n (fun t => q s0 t * v t) ≤ v x)
    (eq : ∀ x, x < n → v x = g x + S n (fun t => q x t * v t) ∨ v x = g s0 + S n (fun t => q s0 t * v t)) : (1 - be) * v s0 = nu s0 := by
  have hm : v s0 = g s0 + S n (fun t => q s0 t * v t) := by rcases eq s0 h0 with h | h <;> exact h
  generalize hy : (1 - be) * v s0 = y
  have hQ : ∀ x, x < n → g x + S n (fun t => q x t * v t) - v s0 = g x - y + S n (fun t => q x t * (v t - v s0)) := fun x hx => by
    have e : S n (fun t => q x t * (v t - v s0)) = S n (fun t => q x t * v t) - be * v s0 := by
      rw [← M.sum x hx, ← S_mulr, ← S_sub]
      exact S_congr fun t _ => by grind
    rw [e, ← hy]; grind
  have hh : ∀ x, x < n → 0 ≤ v x - v s0 := fun x hx => by have := le2 x hx; rw [← hm] at this; grind
  have hz : g s0 - y + S n (fun t => q s0 t * (v t - v s0)) = 0 := by
    rw [← hQ s0 h0, ← hm]; grind
  have up : ∀ C R T, C s0 = true → St n q C g R → St n q C (fun _ => 1) T → R s0 ≤ y * T s0 := fun C R T hC hR hT => by
    have hu := hR.comb hT (-y)
    have le : ∀ s, s < n → (R s + -y * T s) - (v s - v s0) ≤ 0 := most n q (fun s => (R s + -y * T s) - (v s - v s0)) M.pos M.sublt fun s hs => by
      by_cases c : C s = true
      · right
        have h1 := hu.inn hs c
        have h2 := hQ s hs
        have h3 := le1 s hs
        have e : S n (fun j => q s j * ((R j + -y * T j) - (v j - v s0))) = S n (fun t => q s t * (R t + -y * T t)) - S n (fun t => q s t * (v t - v s0)) := by
          rw [← S_sub]; exact S_congr fun t _ => by grind
        show (R s + -y * T s) - (v s - v s0) ≤ S n (fun j => q s j * ((R j + -y * T j) - (v j - v s0)))
        rw [e]
        grind
      · left
        have h1 := hu.out hs (by simpa using c)
        have := hh s hs
        show (R s + -y * T s) - (v s - v s0) ≤ 0
        grind
    have h1 := hu.inn h0 hC
    have h2 : S n (fun t => q s0 t * (R t + -y * T t)) ≤ S n (fun t => q s0 t * (v t - v s0)) := St.mono_feed M (fun t ht => by have := le t ht; grind) h0
    grind
  have a : nu s0 ≤ y := by
    obtain ⟨C, R, T, hC, hR, hT, e⟩ := I.got s0 h0
    have h1 := up C R T hC hR hT
    have tp := T_pos M hT h0 hC
    rw [e] at h1
    refine Rat.not_lt.mp fun c => ?_
    have := (Rat.mul_lt_mul_right tp).mpr c
    grind
  have b : y ≤ nu s0 := by
    let C : Nat → Bool := fun x => decide (x = s0) || decide (0 < v x - v s0)
    obtain ⟨R, hR⟩ := St.ex M C g
    obtain ⟨T, hT⟩ := St.ex M C (fun _ => 1)
    have hC : C s0 = true := by show (decide (s0 = s0) || _) = true; simp
    have hu := hR.comb hT (-y)
    have hhS : St n q C (fun s => g s + -y * 1) (fun s => v s - v s0) := fun s hs => by
      show v s - v s0 = if C s = true then _ else 0
      by_cases c : C s = true
      · rw [if_pos c]
        have c' : (decide (s = s0) || decide (0 < v s - v s0)) = true := c
        rw [Bool.or_eq_true, decide_eq_true_eq, decide_eq_true_eq] at c'
        rcases c' with rfl | c'
        · grind
        · have h1 := hQ s hs
          rcases eq s hs with h | h
          · grind
          · rw [← hm] at h; grind
      · rw [if_neg c]
        have c' : ¬ (decide (s = s0) || decide (0 < v s - v s0)) = true := c
        rw [Bool.or_eq_true, decide_eq_true_eq, decide_eq_true_eq, not_or] at c'
        have := hh s hs
        grind
    have d1 := (hu.comb hhS (-1)).nonneg M (fun s hs c => by show 0 ≤ (g s + -y * 1) + -1 * (g s + -y * 1); grind) s0 h0
    have d2 := (hhS.comb hu (-1)).nonneg M (fun s hs c => by show 0 ≤ (g s + -y * 1) + -1 * (g s + -y * 1); grind) s0 h0
    have e : R s0 = y * T s0 := by
      have x1 : 0 ≤ (R s0 + -y * T s0) + -1 * (v s0 - v s0) := d1
      have x2 : 0 ≤ (v s0 - v s0) + -1 * (R s0 + -y * T s0) := d2
      grind
    have h1 := I.le s0 h0 C R T hC hR hT
    have tp := T_pos M hT h0 hC
    rw [e] at h1
    refine Rat.not_lt.mp fun c => ?_
    have := (Rat.mul_lt_mul_right tp).mpr c
    grind
  grind
end
end Lp
namespace Lw
open Lp Sf69
/-- one machine by itself -/
def ownPulls (rs : List (List Int)) : List Pull := (allPulls rs).map fun l => l.getD 0 noPull
def anew (own : List Pull) (s : Nat) : List (List Pull) := own.map fun p => [p, own.getD s noPull]
section
variable {gs ws : List Int} {b : Int}
theorem half_one : ([gs, ws] : List (List Int)).length / 2 = 1 := by simp
theorem sizes_one : sizes [gs, ws] = [gs.length] := by
  unfold sizes; rw [half_one]; rfl
theorem one_ok (h : Sf95.machineOk (gs, ws) = true) : RsOk [gs, ws] := by
  have h1 := ((mok_iff gs ws).mp h).1
  refine ⟨by rw [half_one]; decide, by rw [half_one]; decide, fun i hi => ?_, ?_⟩
  · have : i = 0 := by rw [half_one] at hi; omega
    subst this; exact h
  · rw [sizes_one]; show gs.length * 1 ≤ 24; omega
theorem jn_one (t n : Nat) : jnN [t] [n] = t := by simp [jnN]
theorem vld_one {t : Nat} (h : t < gs.length) : Vld [t] (sizes [gs, ws]) := by rw [sizes_one]; exact ⟨h, trivial⟩
theorem own_length : (ownPulls [gs, ws]).length = gs.length := by
  unfold ownPulls
  rw [List.length_map, allPulls_length, sizes_one]
  simp [prodN]
theorem own_at {t : Nat} (h : t < gs.length) : (ownPulls [gs, ws]).getD t noPull = pullOf [gs, ws] (cnts [gs, ws]) (zz [t]) 0 := by
  have V : Vld [t] (sizes [gs, ws]) := vld_one h
  have e := allPulls_at V
  rw [sizes_one, jn_one] at e
  have hl : t < (allPulls [gs, ws]).length := by rw [allPulls_length, sizes_one]; simp [prodN]; exact h
  unfold ownPulls
  rw [List.getD_eq_getElem?_getD, List.getElem?_map, List.getElem?_eq_getElem hl]
  rw [List.getD_eq_getElem?_getD, List.getElem?_eq_getElem hl] at e
  simp only [Option.map_some, Option.getD_some] at *
  rw [e, half_one]; rfl
theorem own_wf (h : Sf95.machineOk (gs, ws) = true) {t : Nat} (ht : t < gs.length) : PullWf gs.length ((ownPulls [gs, ws]).getD t noPull) := by
  rw [own_at ht]
  have := pull_wf (one_ok h) (vld_one ht : Vld [t] (sizes [gs, ws])) (i := 0) (by rw [half_one]; decide)
  rw [sizes_one] at this
  simpa [prodN] using this
theorem own_Qv (h : Sf95.machineOk (gs, ws) = true) (hb : 1 ≤ b ∧ b ≤ 99) {t : Nat} (ht : t < gs.length) (v : Nat → Rat) :
    Qv b gs.length ((ownPulls [gs, ws]).getD t noPull) v = (Sf95.machineOf (gs, ws)).gains t + S gs.length (fun u => qq b.toNat (Sf95.machineOf (gs, ws)) t u * v u) := by
  have e := Qv_pull (one_ok h) (vld_one ht : Vld [t] (sizes [gs, ws])) (i := 0) (by rw [half_one]; decide) (show 0 ≤ b by omega) v
  rw [own_at ht]
  have e2 : prodN (sizes [gs, ws]) = gs.length := by rw [sizes_one]; simp [prodN]
  rw [e2] at e
  rw [e, pull_eq]
  have e3 : machine (mach [gs, ws]) 0 = Sf95.machineOf (gs, ws) := machine_eq (by rw [half_one]; decide)
  rw [e3]
  congr 1
  refine S_congr fun u _ => ?_
  congr 1
  show v (jnN [u] _) = v u
  rw [sizes_one, jn_one]
theorem anew_length (s : Nat) : (anew (ownPulls [gs, ws]) s).length = gs.length := by unfold anew; rw [List.length_map, own_length]
theorem anew_at {s x : Nat} (hx : x < gs.length) : (anew (ownPulls [gs, ws]) s).getD x [] = [(ownPulls [gs, ws]).getD x noPull, (ownPulls [gs, ws]).getD s noPull] := by
  unfold anew
  have hl : x < (ownPulls [gs, ws]).length := by rw [own_length]; exact hx
  rw [List.getD_eq_getElem?_getD, List.getElem?_map, List.getElem?_eq_getElem hl]
  simp only [Option.map_some, Option.getD_some]
  rw [getD_elem (d := noPull) hl]
theorem anew_wf (h : Sf95.machineOk (gs, ws) = true) {s : Nat} (hs : s < gs.length) : PsWf (anew (ownPulls [gs, ws]) s) := by
  have h1 := ((mok_iff gs ws).mp h).1
  refine ⟨by rw [anew_length]; omega, fun x hx p hp => ?_, fun x hx => ?_, fun x hx => ?_⟩ <;> rw [anew_length] at hx
  · rw [anew_at hx] at hp
    rw [anew_length]
    simp only [List.mem_cons, List.not_mem_nil, or_false] at hp
    rcases hp with rfl | rfl
    · exact own_wf h hx
    · exact own_wf h hs
  · rw [anew_at hx]; simp
  · rw [anew_at hx]; simp
/-- **rate** -/
theorem Bell.rate (h : Sf95.machineOk (gs, ws) = true) (hb : 1 ≤ b ∧ b ≤ 99) {s : Nat} (hs : s < gs.length) {vs : List Int} {d : Int} (B : Bell b (anew (ownPulls [gs, ws]) s) vs d) :
    ((vs.getD s 0 * (100 - b) : Int) : Rat) / ((d * 100 : Int) : Rat) = Sf95.rate b.toNat (Sf95.machineOf (gs, ws)) s := by
  have bo : BOk b.toNat := BOk.of (by omega)
  have mo := mok_MOk h
  have hl : ∀ x, x < gs.length → ((anew (ownPulls [gs, ws]) s).getD x []).length = 2 := fun x hx => by rw [anew_at hx]; rfl
  have p0 : ∀ x, x < gs.length → pu (anew (ownPulls [gs, ws]) s) x 0 = (ownPulls [gs, ws]).getD x noPull := fun x hx => by unfold pu; rw [anew_at hx]; rfl
  have p1 : ∀ x, x < gs.length → pu (anew (ownPulls [gs, ws]) s) x 1 = (ownPulls [gs, ws]).getD s noPull := fun x hx => by unfold pu; rw [anew_at hx]; rfl
  have hle := B.le
  have heq := B.eq
  rw [anew_length] at hle heq
  have r := restart (mo.mach bo) (rate_ix mo bo) (s0 := s) hs (vOf vs d) (fun x hx => by
    have := hle x hx 0 (by rw [hl x hx]; decide)
    rw [p0 x hx, own_Qv h hb hx] at this; exact this) (fun x hx => by
    have := hle x hx 1 (by rw [hl x hx]; decide)
    rw [p1 x hx, own_Qv h hb hs] at this; exact this) (fun x hx => by
    obtain ⟨i, hi, e⟩ := heq x hx
    rw [hl x hx] at hi
    match i, hi with
    | 0, _ => left; rw [p0 x hx, own_Qv h hb hx] at e; exact e
    | 1, _ => right; rw [p1 x hx, own_Qv h hb hs] at e; exact e)
  rw [← r]
  have hlat : later b.toNat = (b : Rat) / 100 := by
    unfold later
    rw [Int.toNat_of_nonneg (show 0 ≤ b by omega)]
  rw [hlat]
  unfold vOf
  have dp := rat_pos B.pos
  have dne : ((d : Int) : Rat) ≠ 0 := fun q => by rw [q] at dp; exact absurd dp (by decide)
  rw [Rat.intCast_mul, Rat.intCast_mul, Rat.intCast_sub]
  have : ((100 : Int) : Rat) = 100 := rfl
  rw [this]
  grind
end
end Lw
end
/-! LpStep -/
section
set_option linter.all false
namespace Lw
open Lp Sf69
section
variable {rs : List (List Int)} {b : Int}
end
end Lw
end
/-! LwA_s05_order -/
section
set_option Elab.async false
set_option linter.all false
set_option maxRecDepth 100000
set_option maxHeartbeats 4000000
namespace Lw
open L2 PySem PySem.Spec PyProof.Rows
def top (i : Nat) : Stmt := PySem.Challenge.pw_leverpulls_s05_order.main.body.getD i (.Pass ⟨0, 0, 0, 0⟩)
abbrev sWeightRow : Stmt := top 11
abbrev sStateCounts : Stmt := top 12
abbrev sJointNumber : Stmt := top 13
abbrev sJointStates : Stmt := top 14
/-- what of the top the defs read -/
structure Txt (mg : Str → Option Value) : Prop where
  range : mg "range" = none
  len : mg "len" = none
  sum : mg "sum" = none
  any : mg "any" = none
  min : mg "min" = none
  max : mg "max" = none
  zip : mg "zip" = none
  enumerate : mg "enumerate" = none
  list : mg "list" = none
  refused : ∃ u, mg "REFUSED" = some u ∧ RelV (.int (-1)) u
  hundred : ∃ u, mg "HUNDRED" = some u ∧ RelV (.int 100) u
  machines : ∃ u, mg "MOST_MACHINES" = some u ∧ RelV (.int 3) u
  states : ∃ u, mg "MOST_STATES" = some u ∧ RelV (.int 4) u
  gain : ∃ u, mg "MOST_GAIN" = some u ∧ RelV (.int 1000) u
  weight : ∃ u, mg "MOST_WEIGHT" = some u ∧ RelV (.int 100) u
section
variable {P : Program} {w : World} {K : PySem.W.Frag} {mg : Str → Option Value} {base : Heap}
theorem map_at {A B : Type} {f : A → B} {l : List A} {i : Nat} {y : B} (h : (l.map f)[i]? = some y) : ∃ x, l[i]? = some x ∧ y = f x := by
  rw [List.getElem?_map] at h
  obtain ⟨x, h1, h2⟩ := Option.map_eq_some_iff.mp h
  exact ⟨x, h1, h2.symm⟩
def spWeightRow (K : PySem.W.Frag) : Sp := fun vs H Q _ => ∃ (a : Addr) (ws : List Int) (c s : Nat), vs = [.ref a, .int c, .int s] ∧ IL K H a ws ∧ (s + 1) * c ≤ ws.length ∧ c < 1000 ∧ s < 1000 ∧
  ∀ (H' : Hp) (p : Addr), Same H H' → H p = none → H' p = some (.lst ((wrow ws c s).map V.int)) → Q (.ref p) H'
theorem scWeightRow : FnScope ["weights", "count", "state"] ["weights", "count", "state"] (defScope sWeightRow) := ⟨rfl, rfl, rfl, by decide +kernel, rfl, by decide +kernel, by decide +kernel⟩
theorem ok_weight_row {f : Addr} {fd : FuncData} (F : Fun K "weight_row" "weight_row" sWeightRow f fd) : FnOk P w K mg base CX0 1 f fd ["weights", "count", "state"] (spWeightRow K) := by
  refine F.ok scWeightRow (fun vs H Q E h => ?_) (fun cdv A outer s H vs Q E hr h => ?_)
  · obtain ⟨a, ws, c, s, rfl, _⟩ := h
    rfl
  · obtain ⟨a, ws, c, st, rfl, hS, hlen, hc, hs, k⟩ := h
    refine ⟨_, pss_one (ps_ret (pe_slice sl_list (pv 0) (po_some (pe_op op_mul (pv 2) (pv 1))) (po_some (pe_op op_mul (pe_op op_add (pv 2) pe_int) (pv 1))))), ?_⟩
    refine ⟨_, rfl, _, rfl, _, rfl, _, _, rfl, rfl, cmul_l (by omega) (by omega), _, rfl, _, rfl, _, _, rfl, rfl, _, rfl, _, _, rfl, rfl, cmul_l (by omega) (by omega), _, rfl, _, _, rfl, hS, fun p hp => ?_⟩
    refine k _ p (Same.put hp) hp ?_
    rw [upd_same]
    have e1 : ((st : Int) * (c : Int)) = ((st * c : Nat) : Int) := by push_cast; rfl
    have e2 : (((st : Int) + 1) * (c : Int)) = (((st + 1) * c : Nat) : Int) := by push_cast; rfl
    rw [e1, e2, cut_nat _ _ _ (by rw [List.length_map]; exact hlen), ← List.map_drop, ← List.map_take, show (st + 1) * c - st * c = c by rw [Nat.add_mul]; omega]
    rfl
abbrev Rows (K : PySem.W.Frag) : Hp → Addr → List (List Int) → Prop := LO K (IL K)
theorem Rows.mono {K : PySem.W.Frag} : Mono (Rows K) := LO.mono IL.mono
theorem range_take {A : Type} (f : Nat → A) {n i : Nat} (h : i < n) : ((List.range n).map f).take (i + 1) = ((List.range n).map f).take i ++ [f i] := by
  rw [List.take_add_one]
  congr 1
  rw [List.getElem?_map, List.getElem?_range h]
  rfl
theorem take_len_map {A : Type} (f : Nat → A) (n : Nat) : ((List.range n).map f).take n = (List.range n).map f := List.take_of_length_le (by simp)
def spStateCounts (K : PySem.W.Frag) : Sp := fun vs H Q _ => ∃ (m : Addr) (rs : List (List Int)), vs = [.ref m] ∧ Rows K H m rs ∧ rs.length ≤ 1000 ∧
  ∀ (H' : Hp) (p : Addr), Same H H' → H p = none → H' p = some (.lst ((cnts rs).map V.int)) → Q (.ref p) H'
theorem scStateCounts : FnScope ["machines", "i"] ["machines"] (defScope sStateCounts) := ⟨rfl, rfl, rfl, by decide +kernel, rfl, by decide +kernel, by decide +kernel⟩
theorem ok_state_counts {f : Addr} {fd : FuncData} (F : Fun K "state_counts" "state_counts" sStateCounts f fd) (T : Txt mg) : FnOk P w K mg base CX0 1 f fd ["machines"] (spStateCounts K) := by
  refine F.ok scStateCounts (fun vs H Q E h => ?_) (fun cdv A outer s H vs Q E hr h => ?_)
  · obtain ⟨m, rs, rfl, _⟩ := h
    rfl
  · obtain ⟨m, rs, rfl, hR, hlen, k⟩ := h
    obtain ⟨xs, hS, hx⟩ := hR.len
    refine ⟨_, pss_one (ps_ret (pe_lc rfl scStateCounts.nd (pi_range1 rfl T.range (pa_cons (pe_op op_fdiv (pe_callB (call_lenK (K := K)) (by rfl) T.len PySem.boot_len (pa_cons (pv 0) pa_nil)) pe_int) pa_nil)) (own := [("i", 1)]) (blkOk_by (show blkC ["machines", "i"] (defScope sStateCounts) _ _ = true by decide +kernel))
      (fun _ _ _ _ _ => pg_name (i := 1) scStateCounts.nd rfl (Or.inl rfl)) (fun _ _ _ _ _ => pts_nil)
      (fun _ _ _ _ _ => pe_callB (call_lenK (K := K)) (by rfl) T.len PySem.boot_len (pa_cons (pe_ix (ix_listK (K := K)) (pv 0) (pe_op op_mul pe_int (pv 1)) (fun _ _ => rfl)) pa_nil)))), ?_⟩
    refine ⟨_, rfl, m, _, rfl, .inl hS, _, _, rfl, rfl, ⟨by decide, by decide⟩, _, rfl, by omega, by omega, fun D hD => ?_⟩
    have en : ((xs.length : Int) / 2).toNat = rs.length / 2 := by omega
    rw [en]
    refine lc_range (fun i H' => Same H H' ∧ H' D = some (.lst (((cnts rs).take i).map V.int))) ⟨Same.put hD, upd_same⟩ ?_ ?_
    · rintro i H' hi ⟨s1, h1⟩
      refine ⟨rfl, tyes ?_⟩
      have hg : rs[2 * i]? = some (rs.getD (2 * i) []) := by
        have : 2 * i < rs.length := by omega
        simp [List.getD_eq_getElem?_getD, this]
      obtain ⟨ys, p, hy, _, hp, hq⟩ := (Rows.mono _ _ _ _ s1 hR).get hg
      refine ⟨_, rfl, _, rfl, _, _, rfl, rfl, cmul_l (by decide) (by decide), m, ys, _, .ref p, rfl, rfl, hy, at_of (j := 2 * i) (by omega) hp, p, _, rfl, .inl hq, _, h1, ?_, ?_, ?_⟩
      · rw [List.length_map, List.length_take]; exact Nat.lt_of_le_of_lt (Nat.min_le_left _ _) (small1000 (by omega))
      · exact s1.put2 hD
      · rw [upd_same]
        unfold cnts
        rw [range_take _ hi, List.map_append]
        simp
    · rintro H' ⟨s1, h1⟩
      refine k H' D s1 hD ?_
      rw [h1]
      unfold cnts
      rw [take_len_map]
theorem jn_step {ss cs : List Int} {i : Nat} {x y : Int} (hx : ss[i]? = some x) (hy : cs[i]? = some y) : jn (ss.take (i + 1)) (cs.take (i + 1)) = jn (ss.take i) (cs.take i) * y + x := by
  have h1 := (List.getElem?_eq_some_iff.mp hx)
  have h2 := (List.getElem?_eq_some_iff.mp hy)
  obtain ⟨a1, e1⟩ := h1
  obtain ⟨a2, e2⟩ := h2
  have l1 : (ss.take i).length = (cs.take i).length := by rw [List.length_take, List.length_take]; omega
  unfold jn
  rw [List.take_add_one, List.take_add_one, hx, hy]
  show ((ss.take i ++ [x]).zip (cs.take i ++ [y])).foldl _ 0 = _
  rw [List.zip_append l1, List.foldl_append]
  rfl
def spJointNumber (K : PySem.W.Frag) : Sp := fun vs H Q _ => ∃ (a c : Addr) (ss cs : List Int), vs = [.ref a, .ref c] ∧ IL K H a ss ∧ IL K H c cs ∧ ss.length = cs.length ∧ (∀ x ∈ cs, 0 ≤ x ∧ x ≤ 1000) ∧
  ∀ H' : Hp, Same H H' → Q (.int (jn ss cs)) H'
theorem scJointNumber : FnScope ["states", "counts", "number", "state", "count"] ["states", "counts"] (defScope sJointNumber) := ⟨rfl, rfl, rfl, by decide +kernel, rfl, by decide +kernel, by decide +kernel⟩
theorem ok_joint_number {f : Addr} {fd : FuncData} (F : Fun K "joint_number" "joint_number" sJointNumber f fd) (T : Txt mg) : FnOk P w K mg base CX0 1 f fd ["states", "counts"] (spJointNumber K) := by
  refine F.ok scJointNumber (fun vs H Q E h => ?_) (fun cdv A outer s H vs Q E hr h => ?_)
  · obtain ⟨a, c, ss, cs, rfl, _⟩ := h
    rfl
  · obtain ⟨a, c, ss, cs, rfl, ha, hc, hlen, hb, k⟩ := h
    refine ⟨_, pss_cons (ps_set (i := 2) scJointNumber.nd rfl (Or.inl rfl) pe_int)
      (pss_cons (ps_for PassesOwn.never rfl (pi_zip rfl T.zip (pa_cons (pv 0) (pa_cons (pv 1) pa_nil))) (pg_tup rfl (pgs_cons (pg_name (i := 3) scJointNumber.nd rfl (Or.inl rfl)) (pgs_cons (pg_name (i := 4) scJointNumber.nd rfl (Or.inl rfl)) pgs_nil)))
        (pss_one (ps_set (i := 2) scJointNumber.nd rfl (Or.inl rfl) (pe_op op_add (pe_op op_mul (pv 2) (pv 4)) (pv 3)))))
      (pss_one (ps_ret (pv 2)))), ?_⟩
    refine ⟨_, rfl, _, rfl, a, c, _, _, rfl, ha, hc, for_zip (K := K) (xs := ss.map V.int) (ys := cs.map V.int) (fun i σ H' => ∃ v3 v4 : Option V, σ = [some (.ref a), some (.ref c), some (.int (jn (ss.take i) (cs.take i))), v3, v4] ∧ Same H H')
      ⟨none, none, rfl, Same.refl H⟩ (by rw [List.length_map, List.length_map, hlen]) (fun i σ H' _ ⟨_, _, _, s1⟩ => ⟨s1.seq ha, s1.seq hc⟩) ?_ ?_⟩
    · rintro i x y σ H' t hx hy ht ⟨v3, v4, rfl, s1⟩
      obtain ⟨x, gx, rfl⟩ := map_at hx
      obtain ⟨y, gy, rfl⟩ := map_at hy
      have hy' := hb y (List.mem_of_getElem? gy)
      refine ⟨t, _, rfl, SqT.of upd_same, rfl, _, _, rfl, _, _, rfl, rfl, _, rfl, _, rfl, _, _, rfl, rfl, cmul_r (by omega) (by omega), _, rfl, _, _, rfl, rfl, ?_⟩
      refine ⟨some (.int x), some (.int y), ?_, s1.trans (Same.put ht)⟩
      rw [jn_step gx gy]
      rfl
    · rintro σ H' ⟨v3, v4, rfl, s1⟩
      refine ⟨_, rfl, ?_⟩
      rw [List.length_map, List.take_length, hlen, List.take_length]
      exact k H' s1
/-- a list that is tracked, and one of such -/
def TL (H : Hp) (p : Addr) (ns : List Int) : Prop := H p = some (.lst (ns.map V.int))
def TRows (H : Hp) (a : Addr) (rs : List (List Int)) : Prop := ∃ as : List Addr, H a = some (.lst (as.map V.ref)) ∧ Paired (TL H) as rs
theorem TL.mono : Mono TL := fun _ _ _ _ s h => s _ _ h
theorem js_step {cs : List Int} {i : Nat} {c : Int} (h : cs[i]? = some c) : js (cs.take (i + 1)) = jstep (js (cs.take i)) c := by
  unfold js
  rw [List.take_add_one, h, List.foldl_append]
  rfl
def spJointStates (K : PySem.W.Frag) : Sp := fun vs H Q _ => ∃ (c : Addr) (cs : List Int), vs = [.ref c] ∧ IL K H c cs ∧ (∀ x ∈ cs, 0 ≤ x ∧ x ≤ 1000) ∧ (∀ i, i ≤ cs.length → (js (cs.take i)).length ≤ 1000) ∧ cs.length ≤ 1000 ∧ (∀ i, i ≤ cs.length → ∀ st ∈ js (cs.take i), st.length ≤ 1000) ∧
  ∀ (H' : Hp) (p : Addr), Same H H' → TRows H' p (js cs) → Q (.ref p) H'
theorem scJointStates : FnScope ["counts", "found", "count", "longer", "states", "state"] ["counts"] (defScope sJointStates) := ⟨rfl, rfl, rfl, by decide +kernel, rfl, by decide +kernel, by decide +kernel⟩
theorem ok_joint_states {f : Addr} {fd : FuncData} (F : Fun K "joint_states" "joint_states" sJointStates f fd) (T : Txt mg) : FnOk P w K mg base CX0 1 f fd ["counts"] (spJointStates K) := by
  refine F.ok scJointStates (fun vs H Q E h => ?_) (fun cdv A outer s H vs Q E hr h => ?_)
  · obtain ⟨c, cs, rfl, _⟩ := h
    rfl
  · obtain ⟨c, cs, rfl, hc, hb, hlen, hcl, hsl, k⟩ := h
    refine ⟨_, pss_cons (ps_set (i := 1) scJointStates.nd rfl (Or.inl rfl) (pe_lst (pa_cons (pe_lst pa_nil) pa_nil)))
      (pss_cons (ps_for PassesOwn.never rfl (pi_list (pv 0)) (pg_name (i := 2) scJointStates.nd rfl (Or.inl rfl))
        (pss_cons (ps_set (i := 3) scJointStates.nd rfl (Or.inl rfl) (pe_lst pa_nil))
        (pss_cons (ps_for PassesOwn.never rfl (pi_list (pv 1)) (pg_name (i := 4) scJointStates.nd rfl (Or.inr rfl))
          (pss_one (ps_expr (pe_bm PySem.F.plainAttrs_list PySem.F.slot_list_extend PySem.F.type_list_extend mt_extend (pv 3)
            (pa_cons (pe_lc rfl scJointStates.nd (pi_range1 rfl T.range (pa_cons (pv 2) pa_nil)) (own := [("state", 5)]) (blkOk_by (show blkC ["counts", "found", "count", "longer", "states", "state"] (defScope sJointStates) _ _ = true by decide +kernel))
              (fun _ _ _ _ _ => pg_name (i := 5) scJointStates.nd rfl (Or.inl rfl)) (fun _ _ _ _ _ => pts_nil)
              (fun _ _ _ _ _ => pe_op op_cat (pv 4) (pe_lst (pa_cons (pv 5) pa_nil)))) pa_nil)))))
        (pss_one (ps_set (i := 1) scJointStates.nd rfl (Or.inl rfl) (pv 3))))))
      (pss_one (ps_ret (pv 1)))), ?_⟩
    refine ⟨Nat.zero_le _, fun e he => ⟨by show 1 ≤ sizeLine; decide, fun fa hfa => ?_⟩⟩
    have sA : Same H (upd (upd H e (.lst [])) fa (.lst [.ref e])) := (Same.put he).trans (Same.put hfa)
    have nef : e ≠ fa := fun q => by rw [← q, upd_same] at hfa; cases hfa
    refine ⟨_, rfl, c, rfl, ⟨_, sA.seq hc⟩, for_list (K := K) (a := c) (xs := cs.map V.int) (fun i σ H' => ∃ (fa : Addr) (v2 v3 v4 : Option V), σ = [some (.ref c), some (.ref fa), v2, v3, v4, none] ∧ Same H H' ∧ TRows H' fa (js (cs.take i)))
      ⟨fa, none, none, none, rfl, sA, [e], upd_same, .cons (by show upd (upd H e (.lst [])) fa _ e = _; rw [upd_ne nef, upd_same]; rfl) .nil⟩ (fun i σ H' _ ⟨_, _, _, _, _, s1, _⟩ => s1.seq hc) ?_ ?_⟩
    · rintro i x σ H1 hx ⟨fa, v2, v3, v4, rfl, s1, hF⟩
      obtain ⟨n, gx, rfl⟩ := map_at hx
      have hn := hb n (List.mem_of_getElem? gx)
      have hi : i < cs.length := (List.getElem?_eq_some_iff.mp gx).1
      refine ⟨Nat.zero_le _, fun la hla => ?_⟩
      have s2 : Same H1 (upd H1 la (.lst [])) := Same.put hla
      obtain ⟨fs, hfs, hP⟩ := hF
      have hfl : fs.length = (js (cs.take i)).length := pair_len hP
      have total := js_step gx
      have tlen := hlen (i + 1) hi
      rw [total] at tlen
      refine ⟨_, rfl, fa, rfl, ⟨_, SqL.of (s2 _ _ hfs)⟩, for_list (K := K) (a := fa) (xs := fs.map V.ref) (fun j σ H' => ∃ v4 : Option V, σ = [some (.ref c), some (.ref fa), some (.int n), some (.ref la), v4, none] ∧ Same H1 H' ∧
          ∃ as : List Addr, H' la = some (.lst (as.map V.ref)) ∧ Paired (fun p ns => p ≠ la ∧ TL H' p ns) as (jstep ((js (cs.take i)).take j) n))
        ⟨v4, rfl, s2, [], upd_same, .nil⟩ (fun j σ H' _ ⟨_, _, s3, _⟩ => SqL.of (s3 _ _ hfs)) ?_ ?_⟩
      · rintro j x σ H2 hj ⟨v4, rfl, s3, as, has, hA⟩
        obtain ⟨p, hp, rfl⟩ := map_at hj
        have hjl : j < (js (cs.take i)).length := by rw [← hfl]; exact (List.getElem?_eq_some_iff.mp hp).1
        obtain ⟨p', hp', hst⟩ := pair_get hP (List.getElem?_eq_getElem hjl)
        rw [hp] at hp'
        cases hp'
        generalize hgen : (js (cs.take i))[j] = st at hst
        have hstl : st.length ≤ 1000 := hsl i (by omega) st (by rw [← hgen]; exact List.getElem_mem _)
        have step : jstep ((js (cs.take i)).take (j + 1)) n = jstep ((js (cs.take i)).take j) n ++ (List.range n.toNat).map fun s => st ++ [((s : Nat) : Int)] := by
          unfold jstep
          rw [List.take_add_one, List.getElem?_eq_getElem hjl, hgen, List.flatMap_append]
          simp
        have plen : (jstep ((js (cs.take i)).take (j + 1)) n).length ≤ 1000 := by
          refine Nat.le_trans ?_ tlen
          unfold jstep
          rw [← List.take_append_drop (j + 1) (js (cs.take i)), List.flatMap_append, List.length_append]
          rw [List.take_append_drop]
          omega
        refine ⟨_, rfl, .inl ⟨rfl, _, SqL.of has⟩, _, rfl, n, rfl, by omega, by omega, fun D hD => ?_⟩
        refine lc_range (n := n.toNat) (lo := 0) (fun t H' => Same H2 H' ∧ ∃ bs : List Addr, H' D = some (.lst (bs.map V.ref)) ∧ Paired (fun p ns => (p ≠ D ∧ H2 p = none) ∧ TL H' p ns) bs ((List.range t).map fun s => st ++ [((s : Nat) : Int)]))
          ⟨Same.put hD, [], upd_same, .nil⟩ ?_ ?_
        · rintro t H3 ht ⟨s4, bs, hbs, hB⟩
          refine ⟨rfl, tyes ?_⟩
          have hst3 : H3 p = some (.lst (st.map V.int)) := s4 _ _ (s3 _ _ hst)
          refine ⟨_, rfl, _, rfl, by show 1 ≤ sizeLine; decide, fun l1 hl1 => ?_⟩
          have s5 : Same H3 (upd H3 l1 (.lst [.int (0 + (t : Int))])) := Same.put hl1
          refine ⟨p, l1, _, _, rfl, rfl, s5 _ _ hst3, upd_same, ?_, fun l2 hl2 => ?_⟩
          · rw [List.length_map]; show st.length + 1 ≤ sizeLine; exact Nat.le_trans (Nat.succ_le_succ hstl) (by decide)
          have s6 : Same H3 (upd (upd H3 l1 (.lst [.int (0 + (t : Int))])) l2 (.lst (st.map V.int ++ [.int (0 + (t : Int))]))) := s5.trans (Same.put hl2)
          have nD : l2 ≠ D := fun q => by
            have := s5 _ _ hbs
            rw [q] at hl2
            rw [hl2] at this
            cases this
          refine ⟨_, s6 _ _ hbs, ?_, ?_, bs ++ [l2], ?_, ?_⟩
          · rw [List.length_map, pair_len hB, List.length_map, List.length_range]; exact small1000 (by omega)
          · exact (s4.trans s6).put2 hD
          · rw [upd_same, List.map_append]; rfl
          · rw [List.range_succ, List.map_append]
            refine pair_app (pair_imp (fun q x ⟨⟨h1, h2⟩, h3⟩ => ⟨⟨h1, h2⟩, by
              show upd _ D _ q = _
              rw [upd_ne h1]; exact s6 _ _ h3⟩) hB) (.cons ⟨⟨nD, s4.free (s5.free hl2)⟩, by
              show upd _ D _ l2 = _
              rw [upd_ne nD, upd_same]
              simp⟩ .nil)
        · rintro H3 ⟨s4, bs, hbs, hB⟩
          have hla3 : H3 la = some (.lst (as.map V.ref)) := s4 _ _ has
          refine ⟨la, D, _, _, rfl, rfl, hla3, hbs, ?_, ?_⟩
          · rw [List.length_map, List.length_map, pair_len hA, pair_len hB]
            have := plen
            rw [step, List.length_append] at this
            exact Nat.le_trans this (by decide)
          refine ⟨_, rfl, (s3.trans s4).put2 hla, as ++ bs, ?_, ?_⟩
          · rw [upd_same, List.map_append]
          · rw [step]
            refine pair_app (pair_imp (fun q x ⟨h1, h2⟩ => ⟨h1, by
              show upd H3 la _ q = _
              rw [upd_ne h1]; exact s4 _ _ h2⟩) hA) (pair_imp (fun q x ⟨⟨h1, h2⟩, h3⟩ => by
              have nq : q ≠ la := fun z => by rw [z, has] at h2; cases h2
              refine ⟨nq, ?_⟩
              show upd H3 la _ q = _
              rw [upd_ne nq]; exact h3) hB)
      · rintro σ H2 ⟨v4, rfl, s3, as, has, hA⟩
        refine ⟨_, rfl, la, _, _, _, rfl, s1.trans s3, as, has, ?_⟩
        rw [List.length_map, hfl, List.take_length] at hA
        rw [total]
        exact pair_imp (fun q x h => h.2) hA
    · rintro σ H2 ⟨fa, v2, v3, v4, rfl, s1, hF⟩
      refine ⟨_, rfl, ?_⟩
      rw [List.length_map, List.take_length] at hF
      exact k H2 fa s1 hF
end
end Lw
end
/-! LwB_s05_order -/
section
set_option Elab.async false
set_option linter.all false
set_option maxRecDepth 100000
set_option maxHeartbeats 4000000
namespace Lw
open L2 PySem PySem.Spec PyProof.Rows
abbrev sIsRefused : Stmt := top 9
abbrev sIsBadMachine : Stmt := top 10
/-- a def that another calls -/
structure Cal (P : Program) (w : World) (K : PySem.W.Frag) (mg : Str → Option Value) (base : Heap) (x : Str) (ps : List Str) (k : Nat) (sp : Sp) (f : Addr) (fd : FuncData) : Prop where
  ok : FnOk P w K mg base CX0 k f fd ps sp
  b : Binds K fd ps []
  kp : PySem.W.keepIn K (.ref f) = true
  m : mg x = some (.ref f)
section
variable {P : Program} {w : World} {K : PySem.W.Frag} {mg : Str → Option Value} {base : Heap}
theorem mok_not {gs ws : List Int} (h : ¬ Sf95.machineOk (gs, ws) = true) : (!Sf95.machineOk (gs, ws)) = true := by
  cases e : Sf95.machineOk (gs, ws) with
  | true => exact absurd e h
  | false => rfl
theorem sum_nonneg : ∀ {l : List Int}, (∀ x ∈ l, 0 ≤ x) → 0 ≤ l.sum
  | [], _ => by simp
  | x :: l, h => by
    rw [List.sum_cons]
    have := h x (by simp)
    have := sum_nonneg (l := l) fun y hy => h y (by simp [hy])
    omega
def spIsBadMachine (K : PySem.W.Frag) : Sp := fun vs H Q _ => ∃ (g v : Addr) (gs ws : List Int), vs = [.ref g, .ref v] ∧ IL K H g gs ∧ IL K H v ws ∧ gs.length ≤ 1000 ∧
  ∀ H' : Hp, Same H H' → Q (.bl (!Sf95.machineOk (gs, ws))) H'
theorem scIsBadMachine : FnScope ["gains", "weights", "count", "state"] ["gains", "weights"] (defScope sIsBadMachine) := ⟨rfl, rfl, rfl, by decide +kernel, rfl, by decide +kernel, by decide +kernel⟩
theorem ok_is_bad_machine {f fW : Addr} {fd fdW : FuncData} (F : Fun K "is_bad_machine" "is_bad_machine" sIsBadMachine f fd) (T : Txt mg)
    (W : Cal P w K mg base "weight_row" ["weights", "count", "state"] 1 (spWeightRow K) fW fdW) : FnOk P w K mg base CX0 2 f fd ["gains", "weights"] (spIsBadMachine K) := by
  refine F.ok scIsBadMachine (fun vs H Q E h => ?_) (fun cdv A outer s H vs Q E hr h => ?_)
  · obtain ⟨g, v, gs, ws, rfl, _⟩ := h
    rfl
  · obtain ⟨g, v, gs, ws, rfl, hg, hw, hgl, k⟩ := h
    obtain ⟨u1, m1, r1⟩ := T.states
    obtain ⟨u2, m2, r2⟩ := T.gain
    obtain ⟨u3, m3, r3⟩ := T.weight
    refine ⟨_, pss_cons (ps_set (i := 2) scIsBadMachine.nd rfl (Or.inr rfl) (pe_callB (call_lenK (K := K)) (by rfl) T.len PySem.boot_len (pa_cons (pv 0) pa_nil)))
      (pss_cons (ps_if (pw_or (pt_cmpR op_lt (pv 2) pe_int (nomark _)) (pw_or (pt_cmpR op_gt (pv 2) (pe_glob (by rfl) m1 r1) (nomark _)) (pw_or1 (pt_cmpR op_ne (pe_callB (call_lenK (K := K)) (by rfl) T.len PySem.boot_len (pa_cons (pv 1) pa_nil)) (pe_op op_mul (pv 2) (pv 2)) (nomark _))))).pt (pss_one (ps_ret pe_bl)) pss_nil)
      (pss_cons (ps_if (pw_or (pt_cmpR op_lt (pe_callB (cr_minK (K := K) rfl) (by rfl) T.min boot_min (pa_cons (pv 0) pa_nil)) (pe_un un_neg (pe_glob (by rfl) m2 r2)) (nomark _)) (pw_or1 (pt_cmpR op_gt (pe_callB (cr_maxK (K := K) rfl) (by rfl) T.max boot_max (pa_cons (pv 0) pa_nil)) (pe_glob (by rfl) m2 r2) (nomark _)))).pt (pss_one (ps_ret pe_bl)) pss_nil)
      (pss_cons (ps_if (pw_or (pt_cmpR op_lt (pe_callB (cr_minK (K := K) rfl) (by rfl) T.min boot_min (pa_cons (pv 1) pa_nil)) pe_int (nomark _)) (pw_or1 (pt_cmpR op_gt (pe_callB (cr_maxK (K := K) rfl) (by rfl) T.max boot_max (pa_cons (pv 1) pa_nil)) (pe_glob (by rfl) m3 r3) (nomark _)))).pt (pss_one (ps_ret pe_bl)) pss_nil)
      (pss_one (ps_ret (pe_callB (cr_anyK (K := K) rfl) (by rfl) T.any boot_any (pa_cons (pe_lc rfl scIsBadMachine.nd (pi_range1 rfl T.range (pa_cons (pv 2) pa_nil)) (own := [("state", 3)]) (blkOk_by (show blkC ["gains", "weights", "count", "state"] (defScope sIsBadMachine) _ _ = true by decide +kernel))
        (fun _ _ _ _ _ => pg_name (i := 3) scIsBadMachine.nd rfl (Or.inl rfl)) (fun _ _ _ _ _ => pts_nil)
        (fun _ _ _ _ _ => pe_cmpR op_eq (pe_callB (cr_sumK (K := K) rfl) (by rfl) T.sum boot_sum (pa_cons (pe_call W.ok hr rfl W.m W.kp W.b .nil pass0 (pa_cons (pv 1) (pa_cons (pv 2) (pa_cons (pv 3) pa_nil)))) pa_nil)) pe_int (nomark _))) pa_nil))))))), ?_⟩
    have bad : (¬ Sf95.machineOk (gs, ws) = true) → ∀ H' : Hp, Same H H' → Q (.bl true) H' := fun hn H' s1 => by
      have := k H' s1
      rw [mok_not hn] at this; exact this
    refine ⟨_, rfl, g, _, rfl, .inl hg, ?_⟩
    have e0 : (((gs.map V.int).length : Nat) : Int) = (gs.length : Int) := by rw [List.length_map]
    show tSeq _ _ _ ([some (.ref g), some (.ref v), some (.int ((gs.map V.int).length : Nat)), none]) H
    rw [e0]
    have gne : ∀ x, 0 < (x : Nat) → 0 < x := fun _ h => h
    refine ⟨_, rfl, _, _, rfl, rfl, _, rfl, ite2 (fun h1 => iteT (bad (fun q => ?_) H (Same.refl H))) fun h1 => ⟨_, rfl, _, _, rfl, rfl, _, rfl, ite2 (fun h2 => iteT (bad (fun q => ?_) H (Same.refl H))) fun h2 => ⟨_, rfl, v, _, rfl, .inl hw, _, rfl, _, rfl, _, _, rfl, rfl, cmul_l (by omega) (by omega), rfl, _, rfl, ite2 (fun h3 => bad (fun q => ?_) H (Same.refl H)) fun h3 => ?_⟩⟩⟩
    · have := (mok_iff gs ws).mp q
      rw [decide_eq_true_eq] at h1; omega
    · have := (mok_iff gs ws).mp q
      rw [decide_eq_true_eq] at h2; omega
    · have := ((mok_iff gs ws).mp q).1.2.2
      rw [List.length_map, dec_int, this] at h3
      simp at h3
    rw [decide_eq_true_eq] at h1 h2
    have h3' : ws.length = gs.length * gs.length := by
      rw [List.length_map, dec_int] at h3
      simp at h3
      have : ((ws.length : Nat) : Int) = ((gs.length * gs.length : Nat) : Int) := by rw [h3]; simp
      omega
    have g0 : 0 < gs.length := by omega
    have w0 : 0 < ws.length := by rw [h3']; exact Nat.mul_pos g0 g0
    refine ⟨_, rfl, g, gs, rfl, hg, g0, fun mn hmn lmn => ⟨_, rfl, _, _, rfl, rfl, _, rfl, ite2 (fun h4 => iteT (bad (fun q => ?_) H (Same.refl H))) fun h4 => ⟨_, rfl, g, gs, rfl, hg, g0, fun mx hmx lmx => ⟨_, _, rfl, rfl, _, rfl, ite2 (fun h5 => bad (fun q => ?_) H (Same.refl H)) fun h5 => ?_⟩⟩⟩⟩
    · have := ((mok_iff gs ws).mp q).2.1 mn hmn
      rw [decide_eq_true_eq] at h4; omega
    · have := ((mok_iff gs ws).mp q).2.1 mx hmx
      rw [decide_eq_true_eq] at h5; omega
    refine ⟨_, rfl, v, ws, rfl, hw, w0, fun mn2 hmn2 lmn2 => ⟨_, _, rfl, rfl, _, rfl, ite2 (fun h6 => iteT (bad (fun q => ?_) H (Same.refl H))) fun h6 => ⟨_, rfl, v, ws, rfl, hw, w0, fun mx2 hmx2 lmx2 => ⟨_, _, rfl, rfl, _, rfl, ite2 (fun h7 => bad (fun q => ?_) H (Same.refl H)) fun h7 => ?_⟩⟩⟩⟩
    · have := ((mok_iff gs ws).mp q).2.2.1 mn2 hmn2
      rw [decide_eq_true_eq] at h6; omega
    · have := ((mok_iff gs ws).mp q).2.2.1 mx2 hmx2
      rw [decide_eq_true_eq] at h7; omega
    rw [decide_eq_true_eq] at h4 h5 h6 h7
    have hgs : ∀ x ∈ gs, -1000 ≤ x ∧ x ≤ 1000 := fun x hx => by have := lmn x hx; have := lmx x hx; omega
    have hws : ∀ x ∈ ws, 0 ≤ x ∧ x ≤ 100 := fun x hx => by have := lmn2 x hx; have := lmx2 x hx; omega
    have fin : ((List.range gs.length).map fun i => (wrow ws gs.length i).sum == 0).any id = !Sf95.machineOk (gs, ws) := by
      rw [Bool.eq_iff_iff, List.any_eq_true]
      constructor
      · rintro ⟨b, hb, e⟩
        obtain ⟨i, hi, rfl⟩ := List.mem_map.mp hb
        refine mok_not fun q => ?_
        have := ((mok_iff gs ws).mp q).2.2.2 i (List.mem_range.mp hi)
        simp at e; omega
      · intro hn
        have hn' : ¬ Sf95.machineOk (gs, ws) = true := fun q => by rw [q] at hn; cases hn
        rw [mok_iff] at hn'
        have ⟨i, hi⟩ : ∃ i, ¬ (i < gs.length → 0 < (wrow ws gs.length i).sum) := Classical.not_forall.mp fun q => hn' ⟨⟨by omega, by omega, h3'⟩, hgs, hws, q⟩
        have hi2 : i < gs.length := Classical.byContradiction fun z => hi fun z2 => absurd z2 z
        refine ⟨_, List.mem_map.mpr ⟨i, List.mem_range.mpr hi2, rfl⟩, ?_⟩
        have nn := sum_nonneg (l := wrow ws gs.length i) fun x hx => (hws x (mem_wrow hx)).1
        have : (wrow ws gs.length i).sum = 0 := by
          have : ¬ 0 < (wrow ws gs.length i).sum := fun z => hi fun _ => z
          omega
        simp [this]
    refine ⟨_, rfl, _, rfl, by omega, by omega, fun D hD => ?_⟩
    rw [Int.toNat_natCast]
    refine lc_range (fun i H' => Same H H' ∧ H' D = some (.lst ((((List.range gs.length).map fun i => (wrow ws gs.length i).sum == 0).take i).map V.bl))) ⟨Same.put hD, upd_same⟩ ?_ ?_
    · rintro i H' hi ⟨s1, h1⟩
      refine ⟨rfl, tyes ?_⟩
      refine ⟨_, rfl, _, rfl, _, rfl, v, ws, gs.length, i, ?_, s1.seq hw, ?_, by omega, by omega, fun H2 p s2 hp h2 => ?_⟩
      · simp
      · rw [h3']; exact Nat.mul_le_mul_right _ hi
      refine ⟨p, _, rfl, SqL.of h2, rfl, _, s2 _ _ h1, ?_, ?_, ?_⟩
      · rw [List.length_map, List.length_take]; exact Nat.lt_of_le_of_lt (Nat.min_le_left _ _) (small1000 (by omega))
      · exact (s1.trans s2).put2 hD
      · rw [upd_same, range_take _ hi, List.map_append, dec_int]
        rfl
    · rintro H' ⟨s1, h1⟩
      refine ⟨D, _, rfl, SqL.of h1, ?_⟩
      have := k H' s1
      rw [← fin] at this
      rw [take_len_map]; exact this
end
end Lw
end
/-! LwC_s05_order -/
section
set_option Elab.async false
set_option linter.all false
set_option maxRecDepth 100000
set_option maxHeartbeats 4000000
namespace Lw
open L2 PySem PySem.Spec PyProof.Rows
section
variable {P : Program} {w : World} {K : PySem.W.Frag} {mg : Str → Option Value} {base : Heap}
def spIsRefused (K : PySem.W.Frag) : Sp := fun vs H Q _ => ∃ (s m : Addr) (b : Int) (ss : List Int) (rs : List (List Int)), vs = [.int b, .ref s, .ref m] ∧ IL K H s ss ∧ Rows K H m rs ∧ rs.length ≤ 1000 ∧ (∀ r ∈ rs, r.length ≤ 1000) ∧
  ∀ H' : Hp, Same H H' → Q (.bl (refB b ss rs)) H'
theorem scIsRefused : FnScope ["b", "states", "machines", "count", "i"] ["b", "states", "machines"] (defScope sIsRefused) := ⟨rfl, rfl, rfl, by decide +kernel, rfl, by decide +kernel, by decide +kernel⟩
theorem getD_some {A : Type} {l : List A} {d : A} {i : Nat} (h : i < l.length) : l[i]? = some (l.getD i d) := by
  simp [List.getD_eq_getElem?_getD, h]
theorem ok_is_refused {f fB : Addr} {fd fdB : FuncData} (F : Fun K "is_refused" "is_refused" sIsRefused f fd) (T : Txt mg)
    (B : Cal P w K mg base "is_bad_machine" ["gains", "weights"] 2 (spIsBadMachine K) fB fdB) : FnOk P w K mg base CX0 3 f fd ["b", "states", "machines"] (spIsRefused K) := by
  refine F.ok scIsRefused (fun vs H Q E h => ?_) (fun cdv A outer s H vs Q E hr h => ?_)
  · obtain ⟨s, m, b, ss, rs, rfl, _⟩ := h
    rfl
  · obtain ⟨s, m, b, ss, rs, rfl, hs, hm, hl, hrl, k⟩ := h
    obtain ⟨u1, m1, r1⟩ := T.hundred
    obtain ⟨u2, m2, r2⟩ := T.machines
    obtain ⟨xs, hS, hx⟩ := hm.len
    refine ⟨_, pss_cons (ps_set (i := 3) scIsRefused.nd rfl (Or.inl rfl) (pe_op op_fdiv (pe_callB (call_lenK (K := K)) (by rfl) T.len PySem.boot_len (pa_cons (pv 2) pa_nil)) pe_int))
      (pss_cons (ps_if (pw_or (pt_cmpR op_lt (pv 0) pe_int (nomark _)) (pw_or (pt_cmpR op_gt (pv 0) (pe_op op_sub (pe_glob (by rfl) m1 r1) pe_int) (nomark _)) (pw_or (pt_cmpR op_gt (pv 3) (pe_glob (by rfl) m2 r2) (nomark _)) (pw_or1 (pt_cmpR op_ne (pe_callB (call_lenK (K := K)) (by rfl) T.len PySem.boot_len (pa_cons (pv 1) pa_nil)) (pv 3) (nomark _)))))).pt (pss_one (ps_ret pe_bl)) pss_nil)
      (pss_cons (ps_for PassesOwn.never rfl (pi_range1 rfl T.range (pa_cons (pv 3) pa_nil)) (pg_name (i := 4) scIsRefused.nd rfl (Or.inl rfl))
        (pss_cons (ps_if (pt_val (pe_call B.ok hr rfl B.m B.kp B.b .nil pass0 (pa_cons (pe_ix (ix_listK (K := K)) (pv 2) (pe_op op_mul pe_int (pv 4)) (fun _ _ => rfl)) (pa_cons (pe_ix (ix_listK (K := K)) (pv 2) (pe_op op_add (pe_op op_mul pe_int (pv 4)) pe_int) (fun _ _ => rfl)) pa_nil)))) (pss_one (ps_ret pe_bl)) pss_nil)
        (pss_one (ps_if (pw_or (pt_cmpR op_lt (pe_ix (ix_listK (K := K)) (pv 1) (pv 4) (fun _ _ => rfl)) pe_int (nomark _)) (pw_or1 (pt_cmpR op_ge (pe_ix (ix_listK (K := K)) (pv 1) (pv 4) (fun _ _ => rfl)) (pe_callB (call_lenK (K := K)) (by rfl) T.len PySem.boot_len (pa_cons (pe_ix (ix_listK (K := K)) (pv 2) (pe_op op_mul pe_int (pv 4)) (fun _ _ => rfl)) pa_nil)) (nomark _)))).pt (pss_one (ps_ret pe_bl)) pss_nil))))
      (pss_one (ps_ret pe_bl)))), ?_⟩
    have bad : refB b ss rs = true → ∀ H' : Hp, Same H H' → Q (.bl true) H' := fun hn H' s1 => by
      have := k H' s1
      rw [hn] at this; exact this
    refine ⟨_, rfl, m, _, rfl, .inl hS, _, _, rfl, rfl, ⟨by decide, by decide⟩, ?_⟩
    have e0 : ((xs.length : Nat) : Int) / 2 = ((rs.length / 2 : Nat) : Int) := by omega
    show tSeq _ _ _ ([some (.int b), some (.ref s), some (.ref m), some (.int (((xs.length : Nat) : Int) / 2)), none]) H
    rw [e0]
    generalize hn : rs.length / 2 = n at e0
    refine ⟨_, rfl, _, _, rfl, rfl, _, rfl, ite2 (fun h1 => iteT (bad ?_ H (Same.refl H))) fun h1 => ⟨_, rfl, _, _, rfl, rfl, _, _, rfl, rfl, _, rfl, ite2 (fun h2 => iteT (bad ?_ H (Same.refl H))) fun h2 => ⟨_, rfl, _, _, rfl, rfl, _, rfl, ite2 (fun h3 => iteT (bad ?_ H (Same.refl H))) fun h3 => ⟨_, rfl, s, _, rfl, .inl hs, _, rfl, rfl, _, rfl, ite2 (fun h4 => bad ?_ H (Same.refl H)) fun h4 => ?_⟩⟩⟩⟩
    · unfold refB; rw [h1]; rfl
    · have h2' : decide (99 < b) = true := h2
      unfold refB; rw [h2']; simp
    · rw [decide_eq_true_eq] at h3
      have h3' : decide (3 < rs.length / 2) = true := by rw [decide_eq_true_eq]; omega
      unfold refB; rw [h3']; simp
    · rw [List.length_map, dec_int] at h4
      simp at h4
      have h4' : decide (ss.length ≠ rs.length / 2) = true := by rw [decide_eq_true_eq]; omega
      unfold refB; rw [h4']; simp
    have h4' : ss.length = n := by
      rw [List.length_map, dec_int] at h4
      simp at h4
      omega
    have tail : refB b ss rs = (List.range n).any (badAt ss rs) := by
      rw [decide_eq_true_eq] at h1 h3
      have h2' : ¬ 99 < b := by
        have h2'' : ¬ decide (99 < b) = true := h2
        rwa [decide_eq_true_eq] at h2''
      unfold refB
      rw [decide_eq_false h1, decide_eq_false h2', decide_eq_false (by omega : ¬ 3 < rs.length / 2), decide_eq_false (by omega : ¬ ss.length ≠ rs.length / 2), hn]
      simp
    refine ⟨_, rfl, _, rfl, by omega, by omega, ?_⟩
    rw [Int.toNat_natCast]
    refine for_range (fun i σ H' => ∃ v4 : Option V, σ = [some (.int b), some (.ref s), some (.ref m), some (.int (n : Int)), v4] ∧ Same H H' ∧ (List.range i).any (badAt ss rs) = false) ⟨none, rfl, Same.refl H, rfl⟩ ?_ ?_
    · rintro i σ H1 hi ⟨v4, rfl, s1, hno⟩
      have i1 : 2 * i < rs.length := by omega
      have i2 : 2 * i + 1 < rs.length := by omega
      obtain ⟨ys, p, hy, _, hp, hq⟩ := (Rows.mono _ _ _ _ s1 hm).get (getD_some (d := []) i1)
      obtain ⟨zs, p2, hz, _, hp2, hq2⟩ := (Rows.mono _ _ _ _ s1 hm).get (getD_some (d := []) i2)
      have hit : badAt ss rs i = true → refB b ss rs = true := fun h => by
        rw [tail, List.any_eq_true]
        exact ⟨i, List.mem_range.mpr hi, h⟩
      have hgl : (gns rs i).length ≤ 1000 := hrl _ (by unfold gns; rw [List.getD_eq_getElem?_getD, List.getElem?_eq_getElem i1]; exact List.getElem_mem i1)
      refine ⟨_, rfl, _, rfl, _, _, rfl, rfl, cmul_l (by decide) (by decide), m, ys, _, .ref p, rfl, rfl, hy, at_of (j := 2 * i) (by omega) hp, _, rfl, _, rfl, _, _, rfl, rfl, cmul_l (by decide) (by decide), _, _, rfl, rfl, m, zs, _, .ref p2, rfl, rfl, hz, at_of (j := 2 * i + 1) (by omega) hp2,
        p, p2, gns rs i, wts rs i, rfl, hq, hq2, hgl, fun H2 s2 => ⟨_, rfl, ite2 (fun h5 => ?_) fun h5 => ?_⟩⟩
      · refine bad (hit ?_) H2 (s1.trans s2)
        unfold badAt; rw [h5]; rfl
      have s3 := s1.trans s2
      have sg : ss[i]? = some (ss.getD i 0) := getD_some (by omega)
      refine ⟨_, rfl, _, rfl, s, _, _, .int (ss.getD i 0), rfl, rfl, s3.seq hs, ?_, _, _, rfl, rfl, _, rfl, ite2 (fun h6 => iteT ?_) fun h6 => ⟨_, rfl, _, rfl, s, _, _, .int (ss.getD i 0), rfl, rfl, s3.seq hs, ?_, _, rfl, _, rfl, _, _, rfl, rfl, cmul_l (by decide) (by decide), m, ys, _, .ref p, rfl, rfl, s2.seq hy, at_of (j := 2 * i) (by omega) hp,
        p, _, rfl, .inl (s2.seq hq), _, _, rfl, rfl, _, rfl, ite2 (fun h7 => ?_) fun h7 => ?_⟩⟩
      · rw [show (0 : Int) + (i : Int) = (i : Int) by omega]; exact atI_map V.int sg
      · refine bad (hit ?_) H2 s3
        unfold badAt; rw [h6]; simp
      · rw [show (0 : Int) + (i : Int) = (i : Int) by omega]; exact atI_map V.int sg
      · refine bad (hit ?_) H2 s3
        rw [List.length_map] at h7
        have h7' : decide (((gns rs i).length : Int) ≤ ss.getD i 0) = true := h7
        unfold badAt; rw [h7']; simp
      · refine ⟨_, rfl, s3, ?_⟩
        rw [List.range_succ, List.any_append, hno]
        rw [List.length_map] at h7
        have h7' : decide (((gns rs i).length : Int) ≤ ss.getD i 0) = false := Bool.eq_false_iff.mpr h7
        have h6' : decide (ss.getD i 0 < 0) = false := by simpa using h6
        have h5' : (!Sf95.machineOk (gns rs i, wts rs i)) = false := by simpa using h5
        simp only [List.any_cons, List.any_nil, badAt, h5', h6', h7', Bool.or_false]
    · rintro σ H1 ⟨v4, rfl, s1, hno⟩
      have := k H1 s1
      rw [tail, hno] at this
      exact this
end
end Lw
end
/-! LwD_s05_order -/
section
set_option Elab.async false
set_option linter.all false
set_option maxRecDepth 100000
set_option maxHeartbeats 4000000
namespace Lw
open L2 PySem PySem.Spec PyProof.Rows
abbrev sAllPulls : Stmt := top 15
abbrev sPullOf : Stmt := top 16
def PullAt (K : PySem.W.Frag) (H : Hp) (p : Addr) (u : Pull) : Prop := ∃ l : Addr, SqT K H p [.int u.gain, .int u.total, .ref l] ∧ LO K (PR K) H l u.moves
/-- a pull that is new: its moves too -/
def PullAtF (K : PySem.W.Frag) (H0 H : Hp) (p : Addr) (u : Pull) : Prop := ∃ l : Addr, H0 l = none ∧ SqT K H p [.int u.gain, .int u.total, .ref l] ∧ LO K (PR K) H l u.moves
theorem PullAtF.era {K : PySem.W.Frag} {H0 H : Hp} {p : Addr} {u : Pull} {L : List Addr} (h0 : ∀ a ∈ L, H0 a ≠ none) (hL : Lsts L H) (h : PullAtF K H0 H p u) : PullAt K (era L H) p u := by
  obtain ⟨l, e, h1, h2⟩ := h
  exact ⟨l, SqT.era hL h1, LO.era (fun z => h0 l z e) (fun q x => SqT.era hL) h2⟩
theorem PullAt.mono {K : PySem.W.Frag} : Mono (PullAt K) := fun H H' p u s ⟨l, h1, h2⟩ => ⟨l, s.tup h1, LO.mono PR.mono _ _ _ _ s h2⟩
section
variable {P : Program} {w : World} {K : PySem.W.Frag} {mg : Str → Option Value} {base : Heap}
structure PullOk (rs : List (List Int)) (cs st : List Int) (i n s : Nat) : Prop where
  hi : i < cs.length
  hl : st.length = cs.length
  hc : cs.length ≤ 1000
  h2 : 2 * i + 1 < rs.length
  hn : cs[i]? = some ((n : Nat) : Int)
  hs : st[i]? = some ((s : Nat) : Int)
  gl : (gns rs i).length = n
  wl : (wts rs i).length = n * n
  sn : s < n
  nl : n < 1000
  hb : ∀ x ∈ cs, 0 ≤ x ∧ x ≤ 1000
theorem getD_of {A : Type} {l : List A} {d x : A} {i : Nat} (h : l[i]? = some x) : l.getD i d = x := by
  rw [List.getD_eq_getElem?_getD, h]; rfl
theorem PullOk.row {rs : List (List Int)} {cs st : List Int} {i n s : Nat} (O : PullOk rs cs st i n s) : rowOf rs cs st i = wrow (wts rs i) n s := by
  unfold rowOf; rw [getD_of O.hn, getD_of O.hs]; rfl
def spPullOf (K : PySem.W.Frag) : Sp := fun vs H Q _ => ∃ (m c s : Addr) (rs : List (List Int)) (cs st : List Int) (i n z : Nat), vs = [.ref m, .ref c, .ref s, .int i] ∧ Rows K H m rs ∧ IL K H c cs ∧ IL K H s st ∧ PullOk rs cs st i n z ∧
  ∀ (H' : Hp) (p : Addr), Same H H' → H p = none → PullAtF K H H' p (pullOf rs cs st i) → Q (.ref p) H'
theorem scPullOf : FnScope ["machines", "counts", "states", "i", "row", "moves", "state", "weight", "after"] ["machines", "counts", "states", "i"] (defScope sPullOf) := ⟨rfl, rfl, rfl, by decide +kernel, rfl, by decide +kernel, by decide +kernel⟩
theorem ok_pull_of {f fW fJ : Addr} {fd fdW fdJ : FuncData} (F : Fun K "pull_of" "pull_of" sPullOf f fd) (T : Txt mg)
    (W : Cal P w K mg base "weight_row" ["weights", "count", "state"] 1 (spWeightRow K) fW fdW) (J : Cal P w K mg base "joint_number" ["states", "counts"] 1 (spJointNumber K) fJ fdJ) : FnOk P w K mg base CX0 2 f fd ["machines", "counts", "states", "i"] (spPullOf K) := by
  refine F.ok scPullOf (fun vs H Q E h => ?_) (fun cdv A outer s H vs Q E hr h => ?_)
  · obtain ⟨m, c, s, rs, cs, st, i, n, z, rfl, _⟩ := h
    rfl
  · obtain ⟨m, c, s, rs, cs, st, i, n, z, rfl, hm, hc, hs, O, k⟩ := h
    refine ⟨_, pss_cons (ps_set (i := 4) scPullOf.nd rfl (Or.inl rfl) (pe_call W.ok hr rfl W.m W.kp W.b .nil pass0 (pa_cons (pe_ix (ix_listK (K := K)) (pv 0) (pe_op op_add (pe_op op_mul pe_int (pv 3)) pe_int) (fun _ _ => rfl)) (pa_cons (pe_ix (ix_listK (K := K)) (pv 1) (pv 3) (fun _ _ => rfl)) (pa_cons (pe_ix (ix_listK (K := K)) (pv 2) (pv 3) (fun _ _ => rfl)) pa_nil)))))
      (pss_cons (ps_set (i := 5) scPullOf.nd rfl (Or.inl rfl) (pe_lst pa_nil))
      (pss_cons (ps_for PassesOwn.never rfl (pi_enum rfl T.enumerate (pa_cons (pv 4) pa_nil)) (pg_tup rfl (pgs_cons (pg_name (i := 6) scPullOf.nd rfl (Or.inl rfl)) (pgs_cons (pg_name (i := 7) scPullOf.nd rfl (Or.inl rfl)) pgs_nil)))
        (pss_one (ps_if (pt_cmpR op_gt (pv 7) pe_int (nomark _))
          (pss_cons (ps_set (i := 8) scPullOf.nd rfl (Or.inl rfl) (pe_op op_cat (pe_op op_cat (pe_slice (sl_listK (K := K)) (pv 2) po_none (po_some (pv 3))) (pe_lst (pa_cons (pv 6) pa_nil))) (pe_slice (sl_listK (K := K)) (pv 2) (po_some (pe_op op_add (pv 3) pe_int)) po_none)))
          (pss_one (ps_expr (pe_bm PySem.F.plainAttrs_list PySem.F.slot_list_append PySem.F.type_list_append mt_append (pv 5) (pa_cons (pe_tup (pa_cons (pe_call J.ok hr rfl J.m J.kp J.b .nil pass0 (pa_cons (pv 8) (pa_cons (pv 1) pa_nil))) (pa_cons (pv 7) pa_nil))) pa_nil)))))
          pss_nil)))
      (pss_one (ps_ret (pe_tup (pa_cons (pe_ix (ix_listK (K := K)) (pe_ix (ix_listK (K := K)) (pv 0) (pe_op op_mul pe_int (pv 3)) (fun _ _ => rfl)) (pe_ix (ix_listK (K := K)) (pv 2) (pv 3) (fun _ _ => rfl)) (fun _ _ => rfl)) (pa_cons (pe_callB (cr_sumK (K := K) rfl) (by rfl) T.sum boot_sum (pa_cons (pv 4) pa_nil)) (pa_cons (pv 5) pa_nil)))))))), ?_⟩
    have hic := O.hc
    have hi0 := O.hi
    obtain ⟨ys, p, hy, _, hp, hq⟩ := hm.get (getD_some (d := []) O.h2)
    have hwl : (z + 1) * n ≤ (wts rs i).length := by rw [O.wl]; exact Nat.mul_le_mul_right _ O.sn
    refine ⟨_, rfl, _, rfl, _, _, rfl, rfl, cmul_l (by decide) (by decide), _, _, rfl, rfl, m, ys, _, .ref p, rfl, rfl, hy, at_of (j := 2 * i + 1) (by omega) hp, _, rfl, _, rfl, c, _, _, .int n, rfl, rfl, hc, atI_map V.int O.hn, _, rfl, _, rfl, s, _, _, .int z, rfl, rfl, hs, atI_map V.int O.hs,
      p, wts rs i, n, z, rfl, hq, hwl, O.nl, by have := O.sn; have := O.nl; omega, fun H1 ra s1 hra hrow => ?_⟩
    refine ⟨Nat.zero_le _, fun mv hmv => ?_⟩
    have hrl := wrow_length hwl
    have s2 : Same H1 (upd H1 mv (.lst [])) := Same.put hmv
    refine ⟨_, rfl, ra, _, rfl, SqL.of (s2 _ _ hrow), for_enum (K := K) (a := ra) (xs := (wrow (wts rs i) n z).map V.int) (fun t σ H' => ∃ v6 v7 v8 : Option V, σ = [some (.ref m), some (.ref c), some (.ref s), some (.int i), some (.ref ra), some (.ref mv), v6, v7, v8] ∧ Same H1 H' ∧
        ∃ ps : List Addr, H' mv = some (.lst (ps.map V.ref)) ∧ Paired (fun q (u : Int × Int) => H' q = some (.tup [.int u.1, .int u.2])) ps (mvs cs st i (wrow (wts rs i) n z) t))
      ⟨none, none, none, rfl, s2, [], upd_same, .nil⟩ (fun t σ H' _ ⟨_, _, _, _, s3, _⟩ => SqL.of (s3 _ _ hrow)) ?_ ?_⟩
    · rintro t x σ H2 tp hx ht ⟨v6, v7, v8, rfl, s3, ps, hps, hP⟩
      obtain ⟨x, gx, rfl⟩ := map_at hx
      have gd : (wrow (wts rs i) n z).getD t 0 = x := getD_of gx
      have htn : t < n := by rw [← hrl]; exact (List.getElem?_eq_some_iff.mp gx).1
      have s4 : Same H2 (upd H2 tp (.tup [.int (t : Nat), .int x])) := Same.put ht
      refine ⟨tp, _, rfl, SqT.of upd_same, rfl, _, _, rfl, _, _, rfl, rfl, _, rfl, _, _, rfl, rfl, _, rfl, ite2 (fun h1 => ?_) fun h1 => ?_⟩
      · rw [decide_eq_true_eq] at h1
        have step : mvs cs st i (wrow (wts rs i) n z) (t + 1) = mvs cs st i (wrow (wts rs i) n z) t ++ [(jn (st.set i ((t : Nat) : Int)) cs, x)] := by
          unfold mvs
          rw [List.range_succ, List.filter_append, List.map_append]
          congr 1
          rw [List.filter_cons, gd, if_pos (by rw [decide_eq_true_eq]; exact h1)]
          simp [gx]
        have hs2 : ∀ {H' : Hp}, Same H2 H' → IL K H' s st := fun q => q.seq (s3.seq (s1.seq hs))
        refine ⟨_, rfl, _, rfl, _, rfl, s, _, rfl, hs2 s4, fun l1 hl1 => ⟨_, rfl, by show 1 ≤ sizeLine; decide, fun l2 hl2 => ?_⟩⟩
        rw [cut_to _ _ (by rw [List.length_map, O.hl]; omega)] at hl2 ⊢
        have s5 := s4.trans (Same.put (o := .lst ((st.map V.int).take i)) hl1)
        have s6 := s5.trans (Same.put (o := .lst [.int ((t : Nat) : Int)]) hl2)
        have n12 : l1 ≠ l2 := fun q => by rw [← q, upd_same] at hl2; cases hl2
        refine ⟨l1, l2, _, _, rfl, rfl, by rw [upd_ne n12, upd_same], upd_same, ?_, fun l3 hl3 => ?_⟩
        · rw [List.length_take, List.length_map]; exact Nat.le_trans (Nat.add_le_add_right (Nat.min_le_right _ _) 1) (by rw [O.hl]; exact Nat.le_trans (Nat.succ_le_succ hic) (by decide))
        have s7 := s6.trans (Same.put (o := .lst ((st.map V.int).take i ++ [.int ((t : Nat) : Int)])) hl3)
        refine ⟨_, rfl, _, rfl, _, _, rfl, rfl, _, rfl, s, _, rfl, hs2 s7, fun l4 hl4 => ?_⟩
        have e4 : ((i : Int) + 1) = ((i + 1 : Nat) : Int) := by omega
        rw [e4, cut_from _ _ (by rw [List.length_map, O.hl]; omega)]
        have s8 := s7.trans (Same.put (o := .lst ((st.map V.int).drop (i + 1))) hl4)
        have n34 : l3 ≠ l4 := fun q => by rw [← q, upd_same] at hl4; cases hl4
        have eA : (st.map V.int).take i ++ [V.int ((t : Nat) : Int)] ++ (st.map V.int).drop (i + 1) = (st.set i ((t : Nat) : Int)).map V.int := by
          rw [← List.map_take, ← List.map_drop, List.set_eq_take_append_cons_drop, if_pos (by rw [O.hl]; exact hi0), List.map_append, List.map_cons, List.append_assoc]; rfl
        refine ⟨l3, l4, _, _, rfl, rfl, by rw [upd_ne n34, upd_same], upd_same, ?_, fun l5 hl5 => ?_⟩
        · rw [← List.length_append, eA, List.length_map, List.length_set, O.hl]; exact Nat.le_trans hic (by decide)
        rw [eA]
        have s9 := s8.trans (Same.put (o := .lst ((st.set i ((t : Nat) : Int)).map V.int)) hl5)
        refine ⟨_, rfl, .inl ⟨rfl, _, SqL.of (s9 _ _ hps)⟩, _, rfl, _, rfl, l5, c, st.set i ((t : Nat) : Int), cs, rfl, SqL.of upd_same, s9.seq (s3.seq (s1.seq hc)), by rw [List.length_set, O.hl], O.hb, fun H3 s10 => ⟨_, rfl, by show 2 ≤ sizeLine; decide, fun tq htq => ?_⟩⟩
        have s11 := (s9.trans s10).trans (Same.put (o := .tup [.int (jn (st.set i ((t : Nat) : Int)) cs), .int x]) htq)
        refine ⟨mv, _, _, rfl, rfl, s11 _ _ hps, ?_, ?_⟩
        · rw [List.length_map, pair_len hP]
          unfold mvs
          rw [List.length_map]
          exact Nat.lt_of_le_of_lt (List.length_filter_le _ _) (by rw [List.length_range]; exact small1000 (by have := O.nl; omega))
        refine ⟨some (.int ((t : Nat) : Int)), some (.int x), some (.ref l5), rfl, (s3.trans s11).put2 hmv, ps ++ [tq], ?_, ?_⟩
        · rw [upd_same, List.map_append]; rfl
        · rw [step]
          have nt : tq ≠ mv := fun q => by
            rw [q] at htq
            have := (s9.trans s10) _ _ hps
            rw [htq] at this; cases this
          refine pair_app (pair_imp (fun q u h => by
            have nq : q ≠ mv := ne_of h hps (by intro e; cases e)
            rw [upd_ne nq]; exact s11 _ _ h) hP) (.cons (by rw [upd_ne nt, upd_same]) .nil)
      · rw [decide_eq_true_eq] at h1
        have step : mvs cs st i (wrow (wts rs i) n z) (t + 1) = mvs cs st i (wrow (wts rs i) n z) t := by
          unfold mvs
          rw [List.range_succ, List.filter_append, List.map_append]
          rw [List.filter_cons, gd, if_neg (by rw [decide_eq_true_eq]; exact h1)]
          simp
        refine ⟨some (.int ((t : Nat) : Int)), some (.int x), v8, rfl, s3.trans s4, ps, s4 _ _ hps, ?_⟩
        rw [step]
        exact pair_imp (fun q u h => s4 _ _ h) hP
    · rintro σ H2 ⟨v6, v7, v8, rfl, s3, ps, hps, hP⟩
      have s4 := s1.trans s3
      obtain ⟨zs, p2, hz, _, hp2, hq2⟩ := hm.get (getD_some (d := []) (show 2 * i < rs.length by have := O.h2; omega))
      have hg : (gns rs i)[z]? = some ((gns rs i).getD z 0) := getD_some (by rw [O.gl]; exact O.sn)
      refine ⟨_, rfl, _, rfl, _, _, rfl, rfl, cmul_l (by decide) (by decide), m, zs, _, .ref p2, rfl, rfl, s4.seq hz, at_of (j := 2 * i) (by omega) hp2, _, rfl, _, rfl, s, _, _, .int z, rfl, rfl, s4.seq hs, atI_map V.int O.hs,
        p2, _, _, .int ((gns rs i).getD z 0), rfl, rfl, s4.seq hq2, atI_map V.int hg, _, rfl, ra, _, rfl, SqL.of (s3 _ _ hrow), _, rfl, by show 3 ≤ sizeLine; decide, fun tp htp => ?_⟩
      have s5 : Same H2 (upd H2 tp (.tup [.int ((gns rs i).getD z 0), .int (wrow (wts rs i) n z).sum, .ref mv])) := Same.put htp
      refine k _ tp (s4.trans s5) (s4.free htp) ⟨mv, s1.free hmv, ?_, ps, SqL.of (s5 _ _ hps), ?_⟩
      · refine SqT.of ?_
        rw [upd_same]
        unfold pullOf
        rw [O.row, getD_of O.hs]
        rfl
      · rw [List.length_map] at hP
        unfold pullOf
        rw [O.row]
        exact pair_imp (fun q u h => SqT.of (s5 _ _ h)) hP
end
end Lw
end
/-! LwE_s05_order -/
section
set_option Elab.async false
set_option linter.all false
set_option maxRecDepth 100000
set_option maxHeartbeats 4000000
namespace Lw
open L2 PySem PySem.Spec PyProof.Rows
section
variable {P : Program} {w : World} {K : PySem.W.Frag} {mg : Str → Option Value} {base : Heap}
abbrev PList (K : PySem.W.Frag) : Hp → Addr → List Pull → Prop := LO K (PullAt K)
theorem PList.mono {K : PySem.W.Frag} : Mono (PList K) := LO.mono PullAt.mono
abbrev PLists (K : PySem.W.Frag) : Hp → Addr → List (List Pull) → Prop := LO K (PList K)
theorem PLists.mono {K : PySem.W.Frag} : Mono (PLists K) := LO.mono PList.mono
def spAllPulls (K : PySem.W.Frag) : Sp := fun vs H Q _ => ∃ (m : Addr) (rs : List (List Int)), vs = [.ref m] ∧ Rows K H m rs ∧ RsOk rs ∧
  ∀ (H' : Hp) (p : Addr), Same H H' → PLists K H' p (allPulls rs) → Q (.ref p) H'
theorem prodN_take : ∀ {l : List Nat}, (∀ x ∈ l, 1 ≤ x) → ∀ i, prodN (l.take i) ≤ prodN l
  | [], _, i => by simp
  | x :: l, h, 0 => by
    have : ∀ l : List Nat, (∀ x ∈ l, 1 ≤ x) → 1 ≤ prodN l := by
      intro l
      induction l with
      | nil => intro _; decide
      | cons a l ih => intro hl; exact Nat.mul_pos (hl a (by simp)) (ih fun y hy => hl y (by simp [hy]))
    exact this _ h
  | x :: l, h, i + 1 => by
    rw [List.take_succ_cons]
    exact Nat.mul_le_mul_left _ (prodN_take (fun y hy => h y (by simp [hy])) i)
theorem zz_take (l : List Nat) (i : Nat) : (zz l).take i = zz (l.take i) := by unfold zz; rw [List.map_take]
theorem zz_length (l : List Nat) : (zz l).length = l.length := by unfold zz; simp
theorem size_facts {rs : List (List Int)} (R : RsOk rs) : ∀ x ∈ sizes rs, 1 ≤ x ∧ x ≤ 4 := fun x hx => by
  unfold sizes at hx
  obtain ⟨i, hi, rfl⟩ := List.mem_map.mp hx
  have := ((mok_iff _ _).mp (R.ok i (List.mem_range.mp hi))).1
  omega
theorem js_small {rs : List (List Int)} (R : RsOk rs) (i : Nat) : (js ((cnts rs).take i)).length ≤ 1000 ∧ ∀ st ∈ js ((cnts rs).take i), st.length ≤ 1000 := by
  rw [cnts_eq, zz_take, js_eq]
  have h1 := prodN_take (fun x hx => (size_facts R x hx).1) i
  have h2 := R.prod
  refine ⟨by rw [List.length_map, allN_length]; omega, fun st hst => ?_⟩
  obtain ⟨ss, hss, rfl⟩ := List.mem_map.mp hst
  have := (mem_allN hss).len
  rw [zz_length, this, List.length_take, sizes_length]
  have := R.few
  omega
theorem zz_at {l : List Nat} {i : Nat} (h : i < l.length) : (zz l)[i]? = some ((l.getD i 0 : Nat) : Int) := by
  unfold zz
  rw [List.getElem?_map, List.getElem?_eq_getElem h, List.getD_eq_getElem?_getD, List.getElem?_eq_getElem h]; rfl
theorem pull_ok {rs : List (List Int)} (R : RsOk rs) (two : 2 * (rs.length / 2) ≤ rs.length) {ss : List Nat} (V : Vld ss (sizes rs)) {i : Nat} (hi : i < rs.length / 2) : PullOk rs (cnts rs) (zz ss) i (gns rs i).length (ss.getD i 0) := by
  have h1 := ((mok_iff _ _).mp (R.ok i hi)).1
  have hc : (cnts rs).length = rs.length / 2 := by rw [cnts_eq, zz_length, sizes_length]
  have f := R.few
  refine ⟨by rw [hc]; exact hi, by rw [zz_length, V.len, hc, sizes_length], by omega, by omega, ?_, ?_, rfl, h1.2.2, (row_facts R V hi).2.2.2, by omega, fun x hx => ?_⟩
  · rw [cnts_eq, zz_at (by rw [sizes_length]; exact hi), sizes_at hi]
  · exact zz_at (by rw [V.len, sizes_length]; exact hi)
  · rw [cnts_eq] at hx
    obtain ⟨n, hn, rfl⟩ := List.mem_map.mp hx
    have := size_facts R n hn
    omega
theorem scAllPulls : FnScope ["machines", "counts", "listed", "states", "i"] ["machines"] (defScope sAllPulls) := ⟨rfl, rfl, rfl, by decide +kernel, rfl, by decide +kernel, by decide +kernel⟩
theorem ok_all_pulls {f fC fJ fP : Addr} {fd fdC fdJ fdP : FuncData} (F : Fun K "all_pulls" "all_pulls" sAllPulls f fd) (T : Txt mg)
    (C : Cal P w K mg base "state_counts" ["machines"] 1 (spStateCounts K) fC fdC) (J : Cal P w K mg base "joint_states" ["counts"] 1 (spJointStates K) fJ fdJ)
    (U : Cal P w K mg base "pull_of" ["machines", "counts", "states", "i"] 2 (spPullOf K) fP fdP) : FnOk P w K mg base CX0 3 f fd ["machines"] (spAllPulls K) := by
  refine F.ok scAllPulls (fun vs H Q E h => ?_) (fun cdv A outer s H vs Q E hr h => ?_)
  · obtain ⟨m, rs, rfl, _⟩ := h
    rfl
  · obtain ⟨m, rs, rfl, hm, R, k⟩ := h
    have hr1 : Room 1 _ := hr.mono (by decide)
    refine ⟨_, pss_cons (ps_set (i := 1) scAllPulls.nd rfl (Or.inr rfl) (pe_call C.ok hr1 rfl C.m C.kp C.b .nil pass0 (pa_cons (pv 0) pa_nil)))
      (pss_cons (ps_set (i := 2) scAllPulls.nd rfl (Or.inl rfl) (pe_lst pa_nil))
      (pss_cons (ps_for PassesOwn.never rfl (pi_list (pe_call J.ok hr1 rfl J.m J.kp J.b .nil pass0 (pa_cons (pv 1) pa_nil))) (pg_name (i := 3) scAllPulls.nd rfl (Or.inr rfl))
        (pss_one (ps_expr (pe_bm PySem.F.plainAttrs_list PySem.F.slot_list_append PySem.F.type_list_append mt_append (pv 2)
          (pa_cons (pe_lc rfl scAllPulls.nd (pi_range1 rfl T.range (pa_cons (pe_callB (call_lenK (K := K)) (by rfl) T.len PySem.boot_len (pa_cons (pv 1) pa_nil)) pa_nil)) (own := [("i", 4)]) (blkOk_by (show blkC ["machines", "counts", "listed", "states", "i"] (defScope sAllPulls) _ _ = true by decide +kernel))
            (fun _ _ _ _ _ => pg_name (i := 4) scAllPulls.nd rfl (Or.inl rfl)) (fun _ _ _ _ _ => pts_nil)
            (fun _ _ _ _ _ => pe_call U.ok hr rfl U.m U.kp U.b .nil pass0 (pa_cons (pv 0) (pa_cons (pv 1) (pa_cons (pv 3) (pa_cons (pv 4) pa_nil)))))) pa_nil)))))
      (pss_one (ps_ret (pv 2))))), ?_⟩
    have few := R.few
    have hrl : rs.length ≤ 1000 := by omega
    have hcl : (cnts rs).length = rs.length / 2 := by rw [cnts_eq, zz_length, sizes_length]
    have hcb : ∀ x ∈ cnts rs, 0 ≤ x ∧ x ≤ 1000 := fun x hx => by
      rw [cnts_eq] at hx
      obtain ⟨n, hn, rfl⟩ := List.mem_map.mp hx
      have := size_facts R n hn
      omega
    have two : 2 * (rs.length / 2) ≤ rs.length := by omega
    refine ⟨_, rfl, m, rs, rfl, hm, hrl, fun H1 c s1 hc hc1 => ?_⟩
    refine ⟨Nat.zero_le _, fun la hla => ?_⟩
    have s2 : Same H1 (upd H1 la (.lst [])) := Same.put hla
    have hC : ∀ {H' : Hp}, Same H1 H' → IL K H' c (cnts rs) := fun q => SqL.of (q _ _ hc1)
    refine ⟨_, rfl, c, cnts rs, rfl, hC s2, hcb, fun i _ => (js_small R i).1, by omega, fun i _ => (js_small R i).2, fun H2 ja s3 hJ => ?_⟩
    have s4 : Same H1 H2 := s2.trans s3
    obtain ⟨fs, hfs, hP⟩ := hJ
    have hjs : js (cnts rs) = (allN (sizes rs)).map zz := by rw [cnts_eq, js_eq]
    rw [hjs] at hP
    have hfl : fs.length = (allN (sizes rs)).length := by rw [pair_len hP, List.length_map]
    have hla2 : H2 la = some (.lst []) := s3 _ _ upd_same
    have pos : 0 < (allN (sizes rs)).length := by
      have h0 : Vld ((sizes rs).map fun _ => 0) (sizes rs) := by
        have : ∀ l : List Nat, (∀ x ∈ l, 1 ≤ x) → Vld (l.map fun _ => 0) l := by
          intro l
          induction l with
          | nil => intro _; trivial
          | cons a l ih => intro hl; exact ⟨hl a (by simp), ih fun y hy => hl y (by simp [hy])⟩
        exact this _ fun x hx => (size_facts R x hx).1
      rw [allN_length]
      exact Nat.lt_of_le_of_lt (Nat.zero_le _) (jnN_lt h0)
    have nja : ja ∉ [la] := fun z => by
      rw [List.mem_singleton] at z
      rw [z, hla2] at hfs
      have : ([] : List V) = fs.map V.ref := by injection (Option.some.inj hfs)
      have : ([] : List V).length = fs.length := by rw [this, List.length_map]
      simp at this; omega
    have hE : Same H1 (era [la] H2) := same_era1 (by simpa using hla) s4
    have hlen : ((allPulls rs)).length = fs.length := by rw [allPulls_length, hfl, allN_length]
    refine ⟨ja, rfl, ⟨_, SqL.of hfs⟩, for_list (K := K) (a := ja) (xs := fs.map V.ref) (fun j σ H' => ∃ v3 : Option V, σ = [some (.ref m), some (.ref c), some (.ref la), v3, none] ∧ Same (era [la] H2) (era [la] H') ∧
        ∃ as : List Addr, H' la = some (.lst (as.map V.ref)) ∧ Paired (PList K (era [la] H')) as ((allPulls rs).take j))
      ⟨none, rfl, Same.refl _, [], hla2, .nil⟩ (fun j σ H' _ ⟨_, _, kp, _⟩ => SqL.of (era_same _ _ _ _ (kp _ _ (by rw [era_at nja]; exact hfs)))) ?_ ?_⟩
    · rintro j x σ H3 hx ⟨v3, rfl, kp, as, has, hA⟩
      obtain ⟨q, hq, rfl⟩ := map_at hx
      have hj : j < fs.length := (List.getElem?_eq_some_iff.mp hq).1
      have hja : j < (allN (sizes rs)).length := by omega
      obtain ⟨q', hq', hst⟩ := pair_get hP (j := j) (y := zz (allN (sizes rs))[j]) (by rw [List.getElem?_map, List.getElem?_eq_getElem hja]; rfl)
      rw [hq] at hq'
      cases hq'
      have hV := mem_allN (List.getElem_mem hja)
      have e3 : (allPulls rs)[j]? = some ((List.range (rs.length / 2)).map fun i => pullOf rs (cnts rs) (zz (allN (sizes rs))[j]) i) := by
        rw [allPulls_eq, List.getElem?_map, List.getElem?_eq_getElem hja]; rfl
      generalize (allN (sizes rs))[j] = ss at *
      have nq : q ∉ [la] := fun z => by
        rw [List.mem_singleton] at z
        rw [z] at hst
        have h1 : H2 la = some (.lst ((zz ss).map V.int)) := hst
        rw [hla2] at h1
        have : ([] : List V) = (zz ss).map V.int := by injection (Option.some.inj h1)
        have h2 : ([] : List V).length = ss.length := by rw [this, List.length_map, zz_length]
        have := hV.len
        have := R.some
        rw [sizes_length] at *
        simp at h2; omega
      have hst3 : IL K H3 q (zz ss) := SqL.of (era_same _ _ _ _ (kp _ _ (by rw [era_at nq]; exact hst)))
      have s5 : Same H1 H3 := (hE.trans kp).trans (era_same _ _)
      refine ⟨_, rfl, .inl ⟨rfl, _, SqL.of has⟩, _, rfl, c, _, rfl, .inl (hC s5), _, rfl, by omega, by rw [List.length_map]; omega, fun D hD => ?_⟩
      rw [List.length_map, hcl]
      rw [Int.toNat_natCast]
      have nD : D ≠ la := fun z => by rw [z, has] at hD; cases hD
      refine lc_range (n := rs.length / 2) (lo := 0) (fun i H' => Same H3 H' ∧ ∃ bs : List Addr, H' D = some (.lst (bs.map V.ref)) ∧ Paired (PullAt K (era [D, la] H')) bs ((List.range i).map fun i => pullOf rs (cnts rs) (zz ss) i))
        ⟨Same.put hD, [], upd_same, .nil⟩ ?_ ?_
      · rintro i H4 hi ⟨s6, bs, hbs, hB⟩
        refine ⟨rfl, tyes ?_⟩
        have s7 := s5.trans s6
        have ei : (0 : Int) + (i : Int) = (i : Int) := by omega
        refine ⟨_, rfl, _, rfl, _, rfl, _, rfl, m, c, q, rs, cnts rs, zz ss, i, (gns rs i).length, ss.getD i 0, by rw [ei]; rfl, Rows.mono _ _ _ _ (s1.trans s7) hm, hC s7, s6.seq hst3, pull_ok R two hV hi, fun H5 p s8 hp hU => ?_⟩
        have hla4 : H4 la = some (.lst (as.map V.ref)) := s6 _ _ has
        refine ⟨_, s8 _ _ hbs, ?_, ?_, bs ++ [p], ?_, ?_⟩
        · rw [List.length_map, pair_len hB, List.length_map, List.length_range]; exact small1000 (by omega)
        · exact (s6.trans s8).put2 hD
        · rw [upd_same, List.map_append]; rfl
        · rw [List.range_succ, List.map_append]
          have m1 : ∀ {H' : Hp}, Same H' H5 → Same (era [D, la] H') (era [D, la] (upd H5 D (.lst (bs.map V.ref ++ [V.ref p])))) := fun z => same_era fun r o hr e => by
            refine ⟨hr, ?_⟩
            rw [upd_ne (fun y => hr (by rw [y]; simp))]
            exact z _ _ e
          refine pair_app (pair_imp (fun r u h => PullAt.mono _ _ _ _ (m1 s8) h) hB) (.cons (PullAt.mono _ _ _ _ (m1 (Same.refl _)) (PullAtF.era (H0 := H4) (fun a ha => ?_) (fun a ha => ?_) hU)) .nil)
          · simp only [List.mem_cons, List.not_mem_nil, or_false] at ha
            rcases ha with rfl | rfl
            · rw [hbs]; simp
            · rw [hla4]; simp
          · simp only [List.mem_cons, List.not_mem_nil, or_false] at ha
            rcases ha with rfl | rfl
            · exact ⟨_, s8 _ _ hbs⟩
            · exact ⟨_, s8 _ _ hla4⟩
      · rintro H4 ⟨s6, bs, hbs, hB⟩
        have hla4 : H4 la = some (.lst (as.map V.ref)) := s6 _ _ has
        refine ⟨la, _, _, rfl, rfl, hla4, ?_, ?_⟩
        · rw [List.length_map, pair_len hA, List.length_take]
          exact Nat.lt_of_le_of_lt (Nat.min_le_left _ _) (small1000 (by have := R.prod; rw [allPulls_length] at hlen; omega))
        have m2 : Same (era [la] H3) (era [la] (upd H4 la (.lst (as.map V.ref ++ [V.ref D])))) := same_era fun r o hr e => by
          refine ⟨hr, ?_⟩
          rw [upd_ne (fun y => hr (by rw [y]; simp))]
          exact s6 _ _ e
        refine ⟨_, rfl, kp.trans m2, as ++ [D], by rw [upd_same, List.map_append]; rfl, ?_⟩
        rw [List.take_add_one, e3]
        refine pair_app (pair_imp (fun r u h => PList.mono _ _ _ _ m2 h) hA) (.cons ⟨bs, ?_, ?_⟩ .nil)
        · refine SqL.of ?_
          rw [era_at (by simpa using nD), upd_ne nD]
          exact hbs
        · refine pair_imp (fun r u h => PullAt.mono _ _ _ _ (same_era fun r o hr e => ?_) h) hB
          simp only [List.mem_cons, List.not_mem_nil, or_false, not_or] at hr
          refine ⟨by simpa using hr.2, ?_⟩
          rw [upd_ne hr.2]
          exact e
    · rintro σ H3 ⟨v3, rfl, kp, as, has, hA⟩
      refine ⟨_, rfl, ?_⟩
      rw [List.length_map, List.take_of_length_le (by omega)] at hA
      refine k H3 la (s1.trans ((hE.trans kp).trans (era_same _ _))) ⟨as, SqL.of has, pair_imp (fun r u h => PList.mono _ _ _ _ (era_same _ _) h) hA⟩
end
end Lw
end
/-! LwF_s05_order -/
section
set_option Elab.async false
set_option linter.all false
set_option maxRecDepth 100000
set_option maxHeartbeats 4000000
namespace Lw
open L2 PySem PySem.Spec PyProof.Rows
abbrev sPullNumerator : Stmt := top 24
section
variable {P : Program} {w : World} {K : PySem.W.Frag} {mg : Str → Option Value} {base : Heap}
theorem rep_flat (n : Nat) : (List.replicate n [V.int 0]).flatten = (List.replicate n (0 : Int)).map V.int := by
  induction n with
  | zero => rfl
  | succ n ih => rw [List.replicate_succ, List.replicate_succ, List.flatten_cons, List.map_cons, ih]; rfl
/-- what is settled: numerators and their divisor -/
def SetAt (K : PySem.W.Frag) (H : Hp) (s : Addr) (vs : List Int) (d : Int) : Prop := ∃ l : Addr, SqT K H s [.ref l, .int d] ∧ IL K H l vs
theorem SetAt.mono {H H' : Hp} {a : Addr} {vs : List Int} {d : Int} (s : Same H H') (h : SetAt K H a vs d) : SetAt K H' a vs d := by
  obtain ⟨l, h1, h2⟩ := h
  exact ⟨l, s.tup h1, s.seq h2⟩
theorem moves_len {n : Nat} {u : Pull} (h : PullWf n u) : u.moves.length ≤ 400 := by
  have : ∀ l : List (Int × Int), (∀ m ∈ l, 0 < m.2) → (l.length : Int) ≤ (l.map fun (m : Int × Int) => m.2).sum := by
    intro l
    induction l with
    | nil => intro _; simp
    | cons x l ih =>
      intro hl
      have h1 := ih fun m hm => hl m (by simp [hm])
      have h2 := hl x (by simp)
      rw [List.map_cons, List.sum_cons, List.length_cons]
      omega
  have h1 := this u.moves fun m hm => (h.mv m hm).2.2.1
  rw [h.sum] at h1
  have := h.tot
  omega
def spPullNum (K : PySem.W.Frag) : Sp := fun vs H Q _ => ∃ (p s : Addr) (b : Int) (u : Pull) (ns : List Int) (d : Int) (n : Nat), vs = [.int b, .ref p, .ref s] ∧ PullAt K H p u ∧ SetAt K H s ns d ∧ PullWf n u ∧ n ≤ ns.length ∧ (1 ≤ b ∧ b ≤ 99) ∧
  ∀ H' : Hp, Same H H' → Q (.int (pullNum b u ns d)) H'
theorem scPullNum : FnScope ["b", "pull", "settled", "expected", "after", "weight"] ["b", "pull", "settled"] (defScope sPullNumerator) := ⟨rfl, rfl, rfl, by decide +kernel, rfl, by decide +kernel, by decide +kernel⟩
theorem ok_pull_num {f : Addr} {fd : FuncData} (F : Fun K "pull_numerator" "pull_numerator" sPullNumerator f fd) (T : Txt mg) : FnOk P w K mg base CX0 1 f fd ["b", "pull", "settled"] (spPullNum K) := by
  refine F.ok scPullNum (fun vs H Q E h => ?_) (fun cdv A outer s H vs Q E hr h => ?_)
  · obtain ⟨p, s, b, u, ns, d, n, rfl, _⟩ := h
    rfl
  · obtain ⟨p, s, b, u, ns, d, n, rfl, ⟨l, hp, as, hl, hP⟩, ⟨v, hs, hv⟩, W, hn, hb, k⟩ := h
    obtain ⟨u1, m1, r1⟩ := T.hundred
    refine ⟨_, pss_cons (ps_set (i := 3) scPullNum.nd rfl (Or.inl rfl) (pe_callB (cr_sumK (K := K) rfl) (by rfl) T.sum boot_sum (pa_cons
        (pe_lc rfl scPullNum.nd (pi_list (pe_ix (ix_tupK (K := K)) (pv 1) pe_int (fun _ _ => rfl))) (own := [("after", 4), ("weight", 5)]) (blkOk_by (show blkC ["b", "pull", "settled", "expected", "after", "weight"] (defScope sPullNumerator) _ _ = true by decide +kernel))
          (fun _ _ _ _ _ => pg_tupK (K := K) (n := 2) rfl (pgs_cons (pg_name (i := 4) scPullNum.nd rfl (Or.inl rfl)) (pgs_cons (pg_name (i := 5) scPullNum.nd rfl (Or.inl rfl)) pgs_nil))) (fun _ _ _ _ _ => pts_nil)
          (fun _ _ _ _ _ => pe_op op_mul (pv 5) (pe_ix (ix_listK (K := K)) (pe_ix (ix_tupK (K := K)) (pv 2) pe_int (fun _ _ => rfl)) (pv 4) (fun _ _ => rfl)))) pa_nil)))
      (pss_one (ps_ret (pe_op op_add (pe_op op_mul (pe_op op_mul (pe_op op_mul (pe_glob (by rfl) m1 r1) (pe_ix (ix_tupK (K := K)) (pv 1) pe_int (fun _ _ => rfl))) (pe_ix (ix_tupK (K := K)) (pv 2) pe_int (fun _ _ => rfl))) (pe_ix (ix_tupK (K := K)) (pv 1) pe_int (fun _ _ => rfl))) (pe_op op_mul (pv 0) (pv 3))))), ?_⟩
    have ml := moves_len W
    have hal := pair_len hP
    refine ⟨_, rfl, p, _, _, .ref l, rfl, rfl, hp, at_of (j := 2) rfl rfl, l, rfl, ⟨_, hl⟩, fun D hD => ?_⟩
    refine lc_list (K := K) (a := l) (xs := as.map V.ref) (fun i H' => Same H H' ∧ H' D = some (.lst (((u.moves.map fun m => m.2 * ns.getD m.1.toNat 0).take i).map V.int))) ⟨Same.put hD, upd_same⟩ (fun i H' _ ⟨s1, _⟩ => s1.seq hl) ?_ ?_
    · rintro i x H1 hx ⟨s1, h1⟩
      obtain ⟨q, hq, rfl⟩ := map_at hx
      have hi : i < u.moves.length := by rw [← hal]; exact (List.getElem?_eq_some_iff.mp hq).1
      obtain ⟨q', hq', hm⟩ := pair_get hP (List.getElem?_eq_getElem hi)
      rw [hq] at hq'
      cases hq'
      have mw := W.mv _ (List.getElem_mem hi)
      have tk : (u.moves.map fun m => m.2 * ns.getD m.1.toNat 0).take (i + 1) = (u.moves.map fun m => m.2 * ns.getD m.1.toNat 0).take i ++ [u.moves[i].2 * ns.getD u.moves[i].1.toNat 0] := by
        rw [List.take_add_one, List.getElem?_map, List.getElem?_eq_getElem hi]; rfl
      generalize u.moves[i] = mm at *
      have hj : mm.1.toNat < ns.length := by omega
      refine ⟨q, _, rfl, s1.tup hm, rfl, _, _, rfl, _, _, rfl, rfl, rfl, tyes ?_⟩
      refine ⟨_, rfl, _, rfl, s, _, _, .ref v, rfl, rfl, s1.tup hs, at_of (j := 0) rfl rfl, _, rfl, v, _, _, .int (ns.getD mm.1.toNat 0), rfl, rfl, s1.seq hv, at_of (j := mm.1.toNat) (by omega) (IL.at (K := K) hv (getD_some hj)), _, _, rfl, rfl, cmul_l (by omega) (by omega), _, h1, ?_, s1.put2 hD, ?_⟩
      · rw [List.length_map, List.length_take, List.length_map]; exact Nat.lt_of_le_of_lt (Nat.min_le_right _ _) (small1000 (by omega))
      · rw [upd_same, tk, List.map_append]; rfl
    · rintro H1 ⟨s1, h1⟩
      rw [List.take_of_length_le (by rw [List.length_map, List.length_map]; omega)] at h1
      have ht := W.tot
      have hg := W.gn
      refine ⟨D, _, rfl, SqL.of h1, _, rfl, p, _, _, .int u.total, rfl, rfl, s1.tup hp, at_of (j := 1) rfl rfl, _, _, rfl, rfl, cmul_l (by decide) (by decide), _, rfl, s, _, _, .int d, rfl, rfl, s1.tup hs, at_of (j := 1) rfl rfl, _, _, rfl, rfl, cmul_l (by omega) (by omega),
        _, rfl, p, _, _, .int u.gain, rfl, rfl, s1.tup hp, at_of (j := 0) rfl rfl, _, _, rfl, rfl, cmul_r (by omega) (by omega), _, rfl, _, rfl, _, _, rfl, rfl, cmul_l (by omega) (by omega), _, _, rfl, rfl, k H1 s1⟩
end
end Lw
end
/-! LwG_s05_order -/
section
set_option Elab.async false
set_option linter.all false
set_option maxRecDepth 100000
set_option maxHeartbeats 4000000
namespace Lw
open L2 PySem PySem.Spec PyProof.Rows
abbrev sIsWorthMore : Stmt := top 23
abbrev sEquation : Stmt := top 19
abbrev sReducedRow : Stmt := top 21
section
variable {P : Program} {w : World} {K : PySem.W.Frag} {mg : Str → Option Value} {base : Heap}
def spWorthMore (K : PySem.W.Frag) : Sp := fun vs H Q _ => ∃ (p o s : Addr) (b : Int) (u r : Pull) (ns : List Int) (d : Int) (n : Nat), vs = [.int b, .ref p, .ref o, .ref s] ∧ PullAt K H p u ∧ PullAt K H o r ∧ SetAt K H s ns d ∧ PullWf n u ∧ PullWf n r ∧ n ≤ ns.length ∧ (1 ≤ b ∧ b ≤ 99) ∧
  ∀ H' : Hp, Same H H' → Q (.bl (more b u r ns d)) H'
theorem scWorthMore : FnScope ["b", "pull", "other", "settled"] ["b", "pull", "other", "settled"] (defScope sIsWorthMore) := ⟨rfl, rfl, rfl, by decide +kernel, rfl, by decide +kernel, by decide +kernel⟩
theorem ok_worth_more {f fN : Addr} {fd fdN : FuncData} (F : Fun K "is_worth_more" "is_worth_more" sIsWorthMore f fd)
    (N : Cal P w K mg base "pull_numerator" ["b", "pull", "settled"] 1 (spPullNum K) fN fdN) : FnOk P w K mg base CX0 2 f fd ["b", "pull", "other", "settled"] (spWorthMore K) := by
  refine F.ok scWorthMore (fun vs H Q E h => ?_) (fun cdv A outer s H vs Q E hr h => ?_)
  · obtain ⟨p, o, s, b, u, r, ns, d, n, rfl, _⟩ := h
    rfl
  · obtain ⟨p, o, s, b, u, r, ns, d, n, rfl, hp, ho, hs, W1, W2, hn, hb, k⟩ := h
    refine ⟨_, pss_one (ps_ret (pe_cmpR op_gt (pe_op op_mul (pe_call N.ok hr rfl N.m N.kp N.b .nil pass0 (pa_cons (pv 0) (pa_cons (pv 1) (pa_cons (pv 3) pa_nil)))) (pe_ix (ix_tupK (K := K)) (pv 2) pe_int (fun _ _ => rfl)))
      (pe_op op_mul (pe_call N.ok hr rfl N.m N.kp N.b .nil pass0 (pa_cons (pv 0) (pa_cons (pv 2) (pa_cons (pv 3) pa_nil)))) (pe_ix (ix_tupK (K := K)) (pv 1) pe_int (fun _ _ => rfl))) (nomark _))), ?_⟩
    have t1 := W1.tot
    have t2 := W2.tot
    refine ⟨_, rfl, _, rfl, _, rfl, p, s, b, u, ns, d, n, rfl, hp, hs, W1, hn, hb, fun H1 s1 => ?_⟩
    obtain ⟨l2, ho1, _⟩ := PullAt.mono _ _ _ _ s1 ho
    refine ⟨_, rfl, o, _, _, .int r.total, rfl, rfl, ho1, at_of (j := 1) rfl rfl, _, _, rfl, rfl, cmul_r (by omega) (by omega), _, rfl, _, rfl, _, rfl, o, s, b, r, ns, d, n, rfl, PullAt.mono _ _ _ _ s1 ho, SetAt.mono s1 hs, W2, hn, hb, fun H2 s2 => ?_⟩
    obtain ⟨l1, hp1, _⟩ := PullAt.mono _ _ _ _ (s1.trans s2) hp
    exact ⟨_, rfl, p, _, _, .int u.total, rfl, rfl, hp1, at_of (j := 1) rfl rfl, _, _, rfl, rfl, cmul_r (by omega) (by omega), _, _, rfl, rfl, k H2 (s1.trans s2)⟩
theorem ixN_of {n : Nat} {k : Int} (h0 : 0 ≤ k) (h1 : k < n) : ixN n k = some k.toNat := by unfold ixN; rw [if_pos h0, if_pos h1]
def eqFold (b : Int) (l : List (Int × Int)) (n : Nat) : List Int := l.foldl (fun r m => r.set m.1.toNat (-b * m.2)) (List.replicate n 0)
theorem eqFold_len (b : Int) (n : Nat) : ∀ (l : List (Int × Int)), (eqFold b l n).length = n := by
  have : ∀ (l : List (Int × Int)) (r : List Int), (l.foldl (fun r m => r.set m.1.toNat (-b * m.2)) r).length = r.length := by
    intro l
    induction l with
    | nil => intro r; rfl
    | cons x l ih => intro r; rw [List.foldl_cons, ih, List.length_set]
  intro l
  unfold eqFold
  rw [this, List.length_replicate]
def spEquation (K : PySem.W.Frag) : Sp := fun vs H Q _ => ∃ (p : Addr) (b : Int) (u : Pull) (i n : Nat), vs = [.int b, .ref p, .int i, .int n] ∧ PullAt K H p u ∧ PullWf n u ∧ i < n ∧ n ≤ 1000 ∧ (1 ≤ b ∧ b ≤ 99) ∧
  ∀ (H' : Hp) (r : Addr), Same H H' → H r = none → H' r = some (.lst ((eqRow b u i n).map V.int)) → Q (.ref r) H'
theorem scEquation : FnScope ["b", "pull", "number", "count", "row", "after", "weight"] ["b", "pull", "number", "count"] (defScope sEquation) := ⟨rfl, rfl, rfl, by decide +kernel, rfl, by decide +kernel, by decide +kernel⟩
theorem ok_equation {f : Addr} {fd : FuncData} (F : Fun K "equation" "equation" sEquation f fd) (T : Txt mg) : FnOk P w K mg base CX0 1 f fd ["b", "pull", "number", "count"] (spEquation K) := by
  refine F.ok scEquation (fun vs H Q E h => ?_) (fun cdv A outer s H vs Q E hr h => ?_)
  · obtain ⟨p, b, u, i, n, rfl, _⟩ := h
    rfl
  · obtain ⟨p, b, u, i, n, rfl, ⟨l, hp, as, hl, hP⟩, W, hi, hn, hb, k⟩ := h
    obtain ⟨u1, m1, r1⟩ := T.hundred
    refine ⟨_, pss_cons (ps_set (i := 4) scEquation.nd rfl (Or.inl rfl) (pe_op op_rep (pe_lst (pa_cons pe_int pa_nil)) (pv 3)))
      (pss_cons (ps_for PassesOwn.never rfl (pi_list (pe_ix (ix_tupK (K := K)) (pv 1) pe_int (fun _ _ => rfl))) (pg_tup rfl (pgs_cons (pg_name (i := 5) scEquation.nd rfl (Or.inl rfl)) (pgs_cons (pg_name (i := 6) scEquation.nd rfl (Or.inl rfl)) pgs_nil)))
        (pss_one (ps_asg (pe_op op_mul (pe_un un_neg (pv 0)) (pv 6)) (pg_sub (pv 4) (pv 5) set_list))))
      (pss_cons (ps_asg (pe_op op_add (pe_ix (ix_listK (K := K)) (pv 4) (pv 2) (fun _ _ => rfl)) (pe_op op_mul (pe_glob (by rfl) m1 r1) (pe_ix (ix_tupK (K := K)) (pv 1) pe_int (fun _ _ => rfl)))) (pg_sub (pv 4) (pv 2) set_list))
      (pss_cons (ps_expr (pe_bm PySem.F.plainAttrs_list PySem.F.slot_list_append PySem.F.type_list_append mt_append (pv 4) (pa_cons (pe_op op_mul (pe_op op_mul (pe_glob (by rfl) m1 r1) (pe_ix (ix_tupK (K := K)) (pv 1) pe_int (fun _ _ => rfl))) (pe_ix (ix_tupK (K := K)) (pv 1) pe_int (fun _ _ => rfl))) pa_nil)))
      (pss_one (ps_ret (pv 4)))))), ?_⟩
    have hal := pair_len hP
    have ht := W.tot
    have hg := W.gn
    refine ⟨by show 1 ≤ sizeLine; decide, fun l0 hl0 => ?_⟩
    refine ⟨_, rfl, l0, _, _, rfl, rfl, upd_same, by omega, by omega, ?_, fun ra hra => ?_⟩
    · show 1 * ((n : Int)).toNat ≤ sizeLine
      rw [Int.toNat_natCast, Nat.one_mul]; exact Nat.le_of_lt (small1000 hn)
    rw [Int.toNat_natCast, rep_flat]
    have s0 : Same H (upd H l0 (.lst [.int 0])) := Same.put hl0
    have hr0 : H ra = none := s0.free hra
    have s1 : Same H (upd (upd H l0 (.lst [.int 0])) ra (.lst ((List.replicate n (0 : Int)).map V.int))) := s0.trans (Same.put hra)
    refine ⟨_, rfl, p, _, _, .ref l, rfl, rfl, s1.tup hp, at_of (j := 2) rfl rfl, l, rfl, ⟨_, s1.seq hl⟩, for_list (K := K) (a := l) (xs := as.map V.ref) (fun t σ H' => ∃ v5 v6 : Option V, σ = [some (.int b), some (.ref p), some (.int i), some (.int n), some (.ref ra), v5, v6] ∧ Same H H' ∧ H' ra = some (.lst ((eqFold b (u.moves.take t) n).map V.int)))
      ⟨none, none, rfl, s1, upd_same⟩ (fun t σ H' _ ⟨_, _, _, s2, _⟩ => s2.seq hl) ?_ ?_⟩
    · rintro t x σ H1 hx ⟨v5, v6, rfl, s2, h2⟩
      obtain ⟨q, hq, rfl⟩ := map_at hx
      have hi2 : t < u.moves.length := by rw [← hal]; exact (List.getElem?_eq_some_iff.mp hq).1
      obtain ⟨q', hq', hm⟩ := pair_get hP (List.getElem?_eq_getElem hi2)
      rw [hq] at hq'
      cases hq'
      have mw := W.mv _ (List.getElem_mem hi2)
      have tk : eqFold b (u.moves.take (t + 1)) n = (eqFold b (u.moves.take t) n).set u.moves[t].1.toNat (-b * u.moves[t].2) := by
        unfold eqFold
        rw [List.take_add_one, List.getElem?_eq_getElem hi2, List.foldl_append]; rfl
      generalize u.moves[t] = mm at *
      refine ⟨q, _, rfl, s2.tup hm, rfl, _, _, rfl, _, _, rfl, rfl, _, rfl, _, rfl, _, rfl, _, _, rfl, rfl, cmul_l (by omega) (by omega), _, rfl, _, rfl, ra, _, _, mm.1.toNat, rfl, rfl, h2, ixN_of mw.1 (by rw [List.length_map, eqFold_len]; omega), ?_⟩
      refine ⟨some (.int mm.1), some (.int mm.2), rfl, s2.put2 hr0, ?_⟩
      rw [upd_same, tk, List.map_set]
    · rintro σ H1 ⟨v5, v6, rfl, s2, h2⟩
      rw [List.length_map, hal, List.take_length] at h2
      have hl2 : ((eqFold b u.moves n).map V.int).length = n := by rw [List.length_map, eqFold_len]
      refine ⟨_, rfl, _, rfl, ra, _, _, .int ((eqFold b u.moves n).getD i 0), rfl, rfl, SqL.of h2, atI_map V.int (getD_some (by rw [eqFold_len]; exact hi)), _, rfl, p, _, _, .int u.total, rfl, rfl, s2.tup hp, at_of (j := 1) rfl rfl, _, _, rfl, rfl, cmul_l (by decide) (by decide), _, _, rfl, rfl,
        _, rfl, _, rfl, ra, _, _, i, rfl, rfl, h2, ?_, ?_⟩
      · have := ixN_of (n := ((eqFold b u.moves n).map V.int).length) (k := ((i : Nat) : Int)) (by omega) (by rw [hl2]; omega)
        rw [Int.toNat_natCast] at this; exact this
      rw [← List.map_set]
      have s3 := s2.put2 (o := .lst (((eqFold b u.moves n).set i ((eqFold b u.moves n).getD i 0 + 100 * u.total)).map V.int)) hr0
      refine ⟨_, rfl, .inl ⟨rfl, _, SqL.of upd_same⟩, _, rfl, p, _, _, .int u.total, rfl, rfl, s3.tup hp, at_of (j := 1) rfl rfl, _, _, rfl, rfl, cmul_l (by decide) (by decide), _, rfl, p, _, _, .int u.gain, rfl, rfl, s3.tup hp, at_of (j := 0) rfl rfl, _, _, rfl, rfl, cmul_r (by omega) (by omega), ra, _, _, rfl, rfl, upd_same, ?_, ?_⟩
      · rw [List.length_map, List.length_set, eqFold_len]; exact small1000 hn
      refine ⟨_, rfl, k _ ra (s3.put2 hr0) hr0 ?_⟩
      rw [upd_same]
      unfold eqRow
      rw [List.map_append]
      rfl
def spReduced (K : PySem.W.Frag) : Sp := fun vs H Q _ => ∃ (r q : Addr) (row piv : List Int) (k : Nat) (d : Int), vs = [.ref r, .ref q, .int k, .int d] ∧ IL K H r row ∧ IL K H q piv ∧ row.length = piv.length ∧ row.length ≤ 1000 ∧ k < row.length ∧ (∀ x ∈ row, Small x) ∧ (∀ x ∈ piv, Small x) ∧ 0 < d ∧ Small d ∧
  ∀ (H' : Hp) (p : Addr), Same H H' → H p = none → H' p = some (.lst ((redRow row piv k d).map V.int)) → Q (.ref p) H'
theorem scReduced : FnScope ["row", "pivot_row", "k", "divisor", "pivot", "factor", "x", "y"] ["row", "pivot_row", "k", "divisor"] (defScope sReducedRow) := ⟨rfl, rfl, rfl, by decide +kernel, rfl, by decide +kernel, by decide +kernel⟩
theorem ok_reduced {f : Addr} {fd : FuncData} (F : Fun K "reduced_row" "reduced_row" sReducedRow f fd) (T : Txt mg) : FnOk P w K mg base CX0 1 f fd ["row", "pivot_row", "k", "divisor"] (spReduced K) := by
  refine F.ok scReduced (fun vs H Q E h => ?_) (fun cdv A outer s H vs Q E hr h => ?_)
  · obtain ⟨r, q, row, piv, k, d, rfl, _⟩ := h
    rfl
  · obtain ⟨r, q, row, piv, k, d, rfl, hr1, hq, hlen, hl, hk, sr, sp, d0, ds, kk⟩ := h
    refine ⟨_, pss_cons (ps_set (i := 4) scReduced.nd rfl (Or.inr rfl) (pe_ix (ix_listK (K := K)) (pv 1) (pv 2) (fun _ _ => rfl)))
      (pss_cons (ps_set (i := 5) scReduced.nd rfl (Or.inr rfl) (pe_ix (ix_listK (K := K)) (pv 0) (pv 2) (fun _ _ => rfl)))
      (pss_one (ps_ret (pe_lc rfl scReduced.nd (pi_zip rfl T.zip (pa_cons (pv 0) (pa_cons (pv 1) pa_nil))) (own := [("x", 6), ("y", 7)]) (blkOk_by (show blkC ["row", "pivot_row", "k", "divisor", "pivot", "factor", "x", "y"] (defScope sReducedRow) _ _ = true by decide +kernel))
        (fun _ _ _ _ _ => pg_tupK (K := K) (n := 2) rfl (pgs_cons (pg_name (i := 6) scReduced.nd rfl (Or.inl rfl)) (pgs_cons (pg_name (i := 7) scReduced.nd rfl (Or.inl rfl)) pgs_nil))) (fun _ _ _ _ _ => pts_nil)
        (fun _ _ _ _ _ => pe_op op_fdivB (pe_op op_sub (pe_op op_mulB (pv 4) (pv 6)) (pe_op op_mulB (pv 5) (pv 7))) (pv 3)))))), ?_⟩
    have hkp : k < piv.length := by omega
    have pk : piv.getD k 0 ∈ piv := getD_mem hkp
    have rk : row.getD k 0 ∈ row := getD_mem hk
    refine ⟨_, rfl, _, rfl, q, _, _, .int (piv.getD k 0), rfl, rfl, hq, atI_map V.int (getD_some hkp), _, rfl, _, rfl, r, _, _, .int (row.getD k 0), rfl, rfl, hr1, atI_map V.int (getD_some hk), _, rfl, _, rfl, r, q, _, _, rfl, hr1, hq, fun D hD => ?_⟩
    refine lc_zip (K := K) (xs := row.map V.int) (ys := piv.map V.int) (fun i H' => Same H H' ∧ H' D = some (.lst (((redRow row piv k d).take i).map V.int))) ⟨Same.put hD, upd_same⟩ (by rw [List.length_map, List.length_map, hlen]) (fun i H' _ ⟨s1, _⟩ => ⟨s1.seq hr1, s1.seq hq⟩) ?_ ?_
    · rintro i x y H1 t hx hy ht ⟨s1, h1⟩
      obtain ⟨x, gx, rfl⟩ := map_at hx
      obtain ⟨y, gy, rfl⟩ := map_at hy
      have s2 : Same H1 (upd H1 t (.tup [.int x, .int y])) := Same.put ht
      have hi : i < row.length := (List.getElem?_eq_some_iff.mp gx).1
      refine ⟨t, _, rfl, SqT.of upd_same, rfl, _, _, rfl, _, _, rfl, rfl, rfl, tyes ?_⟩
      refine ⟨_, rfl, _, rfl, _, _, rfl, rfl, ⟨sp _ pk, sr _ (List.mem_of_getElem? gx)⟩, _, rfl, _, rfl, _, _, rfl, rfl, ⟨sr _ rk, sp _ (List.mem_of_getElem? gy)⟩, _, _, rfl, rfl, _, rfl, _, _, rfl, rfl, ⟨d0, ds⟩, _, s2 _ _ h1, ?_, (s1.trans s2).put2 hD, ?_⟩
      · rw [List.length_map, List.length_take]
        refine Nat.lt_of_le_of_lt (Nat.min_le_left _ _) (small1000 (by omega))
      · rw [upd_same]
        have tk : (redRow row piv k d).take (i + 1) = (redRow row piv k d).take i ++ [(piv.getD k 0 * x - row.getD k 0 * y) / d] := by
          unfold redRow
          rw [List.take_add_one, List.getElem?_map, (List.getElem?_zip_eq_some.mpr ⟨gx, gy⟩ : (row.zip piv)[i]? = some (x, y))]
          rfl
        rw [tk, List.map_append]; rfl
    · rintro H1 ⟨s1, h1⟩
      rw [List.take_of_length_le (by unfold redRow; rw [List.length_map, List.length_map, List.length_zip]; omega)] at h1
      exact kk H1 D s1 hD h1
end
end Lw
end
/-! LwH_s05_order -/
section
set_option Elab.async false
set_option linter.all false
set_option maxRecDepth 100000
set_option maxHeartbeats 4000000
namespace Lw
open L2 PySem PySem.Spec PyProof.Rows
abbrev sSolve : Stmt := top 20
abbrev sWorthsOfChoices : Stmt := top 18
section
variable {P : Program} {w : World} {K : PySem.W.Frag} {mg : Str → Option Value} {base : Heap}
theorem small800 {x : Int} (h : x.natAbs < 2 ^ 800) : Small x := Nat.lt_trans h (by decide +kernel)
theorem rowL_small {m : Nat} {f : Nat → Int} (h : ∀ j, j < m → Small (f j)) : ∀ x ∈ rowL m f, Small x := fun x hx => by
  unfold rowL at hx
  obtain ⟨j, hj, rfl⟩ := List.mem_map.mp hx
  exact h j (List.mem_range.mp hj)
def spSolve (K : PySem.W.Frag) : Sp := fun vs H Q _ => ∃ (ra : Addr) (b : Int) (n : Nat) (p : Nat → Pull), vs = [.ref ra] ∧ TRows H ra (matL n (n + 1) (eqA b n p)) ∧ (∀ i, i < n → PullWf n (p i)) ∧ n ≤ 24 ∧ (1 ≤ b ∧ b ≤ 99) ∧
  ∀ (H' : Hp) (s : Addr), Same H H' → SetAt K H' s (solN b n p) (solD b n p) → Q (.ref s) H'
/-- the entries in the midst of a turn -/
def mid (A : Nat → Nat → Int) (k i r j : Nat) : Int := if r < i ∧ r ≠ k then Lp.N A (k + 1) r j else Lp.N A k r j
theorem scSolve : FnScope ["rows", "left", "divisor", "k", "pivot_row", "i", "row"] ["rows"] (defScope sSolve) := ⟨rfl, rfl, rfl, by decide +kernel, rfl, by decide +kernel, by decide +kernel⟩
theorem ok_solve {f fR : Addr} {fd fdR : FuncData} (F : Fun K "solve" "solve" sSolve f fd) (T : Txt mg)
    (U : Cal P w K mg base "reduced_row" ["row", "pivot_row", "k", "divisor"] 1 (spReduced K) fR fdR) : FnOk P w K mg base CX0 2 f fd ["rows"] (spSolve K) := by
  refine F.ok scSolve (fun vs H Q E h => ?_) (fun cdv A outer s H vs Q E hr h => ?_)
  · obtain ⟨ra, b, n, p, rfl, _⟩ := h
    rfl
  · obtain ⟨ra, b, n, p, rfl, ⟨as0, hra, hP0⟩, W, hn, hb, kk⟩ := h
    refine ⟨_, pss_cons (ps_set (i := 1) scSolve.nd rfl (Or.inl rfl) (pe_callTy call_list_of (by rfl) T.list boot_list (pa_cons (pv 0) pa_nil)))
      (pss_cons (ps_set (i := 2) scSolve.nd rfl (Or.inl rfl) pe_int)
      (pss_cons (ps_for PassesOwn.never rfl (pi_range1 rfl T.range (pa_cons (pe_callB (call_lenK (K := K)) (by rfl) T.len PySem.boot_len (pa_cons (pv 0) pa_nil)) pa_nil)) (pg_name (i := 3) scSolve.nd rfl (Or.inl rfl))
        (pss_cons (ps_set (i := 4) scSolve.nd rfl (Or.inl rfl) (pe_ix (ix_listK (K := K)) (pv 1) (pv 3) (fun _ _ => rfl)))
        (pss_cons (ps_for PassesOwn.never rfl (pi_range1 rfl T.range (pa_cons (pe_callB (call_lenK (K := K)) (by rfl) T.len PySem.boot_len (pa_cons (pv 0) pa_nil)) pa_nil)) (pg_name (i := 5) scSolve.nd rfl (Or.inl rfl))
          (pss_one (ps_if (pt_cmpR op_ne (pv 5) (pv 3) (nomark _))
            (pss_one (ps_asg (pe_call U.ok hr rfl U.m U.kp U.b .nil pass0 (pa_cons (pe_ix (ix_listK (K := K)) (pv 1) (pv 5) (fun _ _ => rfl)) (pa_cons (pv 4) (pa_cons (pv 3) (pa_cons (pv 2) pa_nil))))) (pg_sub (pv 1) (pv 5) set_list))) pss_nil)))
        (pss_one (ps_set (i := 2) scSolve.nd rfl (Or.inl rfl) (pe_ix (ix_listK (K := K)) (pv 4) (pv 3) (fun _ _ => rfl)))))))
      (pss_one (ps_ret (pe_tup (pa_cons (pe_lc rfl scSolve.nd (pi_list (pv 1)) (own := [("row", 6)]) (blkOk_by (show blkC ["rows", "left", "divisor", "k", "pivot_row", "i", "row"] (defScope sSolve) _ _ = true by decide +kernel))
        (fun _ _ _ _ _ => pg_name (i := 6) scSolve.nd rfl (Or.inl rfl)) (fun _ _ _ _ _ => pts_nil)
        (fun _ _ _ _ _ => pe_ix (ix_listK (K := K)) (pv 6) (pe_un un_neg pe_int) (fun _ _ => rfl))) (pa_cons (pv 2) pa_nil))))))), ?_⟩
    have hl0 : as0.length = n := by rw [pair_len hP0, matL_length]
    refine ⟨_, rfl, ra, _, rfl, .inl (SqL.of hra), fun la hla => ?_⟩
    have sA : Same H (upd H la (.lst (as0.map V.ref))) := Same.put hla
    have hE : Same H (era [la] (upd H la (.lst (as0.map V.ref)))) := same_era1 (by simpa using hla) sA
    have lenr : ((as0.map V.ref).length : Int) = (n : Int) := by rw [List.length_map, hl0]
    refine ⟨_, rfl, ra, _, rfl, .inl (SqL.of (sA _ _ hra)), _, rfl, by omega, by omega, ?_⟩
    rw [lenr, Int.toNat_natCast]
    refine for_range (lo := 0) (n := n) (fun k σ H' => ∃ v3 v4 v5 : Option V, σ = [some (.ref ra), some (.ref la), some (.int (Lp.det k (eqA b n p))), v3, v4, v5, none] ∧ Same H (era [la] H') ∧
        ∃ as : List Addr, H' la = some (.lst (as.map V.ref)) ∧ Paired (TL (era [la] H')) as (matL n (n + 1) (Lp.N (eqA b n p) k)))
      ⟨none, none, none, rfl, hE, as0, upd_same, ?_⟩ ?_ ?_
    · have : matL n (n + 1) (Lp.N (eqA b n p) 0) = matL n (n + 1) (eqA b n p) := matL_congr fun i j _ _ => N_zero _ i j
      rw [this]
      exact pair_imp (fun q r h => TL.mono _ _ _ _ hE h) hP0
    · rintro k σ H1 hk ⟨v3, v4, v5, rfl, s1, as, has, hA⟩
      have ek : (0 : Int) + (k : Int) = (k : Int) := by omega
      rw [ek]
      obtain ⟨pk, hpk, hpv⟩ := pair_get hA (matL_at (Lp.N (eqA b n p) k) hk)
      have npk : pk ∉ [la] := fun z => by
        have : era [la] H1 pk = some _ := hpv
        unfold era at this
        rw [if_pos z] at this; cases this
      have sra : ∀ {H' : Hp}, Same H (era [la] H') → H' ra = some (.lst (as0.map V.ref)) := fun q => era_same _ _ _ _ (q _ _ hra)
      have dk := det_small hb W hn (k := k) (by omega)
      refine ⟨_, rfl, _, rfl, la, _, _, .ref pk, rfl, rfl, SqL.of has, atI_map V.ref hpk, ?_⟩
      refine ⟨_, rfl, ra, _, rfl, .inl (SqL.of (sra s1)), _, rfl, by omega, by omega, ?_⟩
      rw [lenr, Int.toNat_natCast]
      refine for_range (lo := 0) (n := n) (fun i σ H' => ∃ v5 : Option V, σ = [some (.ref ra), some (.ref la), some (.int (Lp.det k (eqA b n p))), some (.int (k : Int)), some (.ref pk), v5, none] ∧ Same (era [la] H1) (era [la] H') ∧
          ∃ as : List Addr, as[k]? = some pk ∧ H' la = some (.lst (as.map V.ref)) ∧ Paired (TL (era [la] H')) as (matL n (n + 1) (mid (eqA b n p) k i)))
        ⟨v5, rfl, Same.refl _, as, hpk, has, ?_⟩ ?_ ?_
      · have : matL n (n + 1) (mid (eqA b n p) k 0) = matL n (n + 1) (Lp.N (eqA b n p) k) := matL_congr fun i j _ _ => by unfold mid; rw [if_neg (by omega)]
        rw [this]; exact hA
      · rintro i σ H2 hi ⟨v5, rfl, s2, bs, hbk, hbs, hB⟩
        have ei : (0 : Int) + (i : Int) = (i : Int) := by omega
        rw [ei]
        obtain ⟨pi, hpi, hrow⟩ := pair_get hB (matL_at (mid (eqA b n p) k i) hi)
        have npi : pi ∉ [la] := fun z => by
          have : era [la] H2 pi = some _ := hrow
          unfold era at this
          rw [if_pos z] at this; cases this
        have ne_la : ∀ {q : Addr}, q ∉ [la] → q ≠ la := fun h z => h (by simp [z])
        refine ⟨_, rfl, _, rfl, rfl, _, rfl, ite2 (fun c => ?_) fun c => ?_⟩
        · have cik : i ≠ k := fun z => by
            rw [z, dec_int] at c
            simp at c
          have erow : rowL (n + 1) (mid (eqA b n p) k i i) = rowL (n + 1) (Lp.N (eqA b n p) k i) := rowL_congr fun j _ => by unfold mid; rw [if_neg (by omega)]
          rw [erow] at hrow
          have hpv2 : TL H2 pk (rowL (n + 1) (Lp.N (eqA b n p) k k)) := era_same _ _ _ _ (s2 _ _ hpv)
          have hrow2 : TL H2 pi (rowL (n + 1) (Lp.N (eqA b n p) k i)) := era_same _ _ _ _ hrow
          refine ⟨_, rfl, _, rfl, la, _, _, .ref pi, rfl, rfl, SqL.of hbs, atI_map V.ref hpi, _, rfl, _, rfl, _, rfl, pi, pk, _, _, k, _, rfl, SqL.of hrow2, SqL.of hpv2, by rw [rowL_length, rowL_length], by rw [rowL_length]; omega, by rw [rowL_length]; omega,
            rowL_small fun j hj => small800 (N_small hb W hn (by omega) hi (by omega)), rowL_small fun j hj => small800 (N_small hb W hn (by omega) hk (by omega)), dk.1, small800 dk.2, fun H3 q s3 hq h3 => ?_⟩
          rw [turn_row hb W hk cik] at h3
          have nq : q ∉ [la] := fun z => by
            rw [List.mem_singleton] at z
            rw [z, hbs] at hq; cases hq
          refine ⟨_, rfl, _, rfl, la, _, _, i, rfl, rfl, s3 _ _ hbs, ?_, ?_⟩
          · have hil : i < bs.length := (List.getElem?_eq_some_iff.mp hpi).1
            have := ixN_of (n := (bs.map V.ref).length) (k := ((i : Nat) : Int)) (by omega) (by rw [List.length_map]; omega)
            rw [Int.toNat_natCast] at this; exact this
          rw [← List.map_set]
          have m1 : Same (era [la] H2) (era [la] (upd H3 la (.lst ((bs.set i q).map V.ref)))) := same_era fun r o hr e => by
            refine ⟨hr, ?_⟩
            rw [upd_ne (ne_la hr)]
            exact s3 _ _ e
          refine ⟨_, rfl, s2.trans m1, bs.set i q, ?_, upd_same, ?_⟩
          · rw [List.getElem?_set_ne cik]; exact hbk
          · have em : matL n (n + 1) (mid (eqA b n p) k (i + 1)) = (matL n (n + 1) (mid (eqA b n p) k i)).set i (rowL (n + 1) (Lp.N (eqA b n p) (k + 1) i)) := by
              rw [matL_set _ _ hi]
              refine matL_congr fun r j _ _ => ?_
              unfold Lp.upd mid
              by_cases z : r = i
              · rw [if_pos z, z, if_pos ⟨by omega, cik⟩]
              · rw [if_neg z]
                by_cases y : r < i ∧ r ≠ k
                · rw [if_pos y, if_pos ⟨by omega, y.2⟩]
                · rw [if_neg y, if_neg (by omega)]
            rw [em]
            refine pair_set (pair_imp (fun r x h => TL.mono _ _ _ _ m1 h) hB) i ?_
            show era [la] _ q = _
            rw [era_at nq, upd_ne (ne_la nq)]
            exact h3
        · have cik : i = k := by
            rw [dec_int] at c
            simp at c
            omega
          refine ⟨_, rfl, s2, bs, hbk, hbs, ?_⟩
          have em : matL n (n + 1) (mid (eqA b n p) k (i + 1)) = matL n (n + 1) (mid (eqA b n p) k i) := matL_congr fun r j _ _ => by
            unfold mid
            by_cases y : r < i ∧ r ≠ k
            · rw [if_pos y, if_pos ⟨by omega, y.2⟩]
            · rw [if_neg y, if_neg (by omega)]
          rw [em]; exact hB
      · rintro σ H2 ⟨v5, rfl, s2, bs, hbk, hbs, hB⟩
        have hpv2 : TL H2 pk (rowL (n + 1) (Lp.N (eqA b n p) k k)) := era_same _ _ _ _ (s2 _ _ hpv)
        refine ⟨_, rfl, _, rfl, pk, _, _, .int (Lp.N (eqA b n p) k k k), rfl, rfl, SqL.of hpv2, atI_map V.int (rowL_at _ (by omega)), ?_⟩
        rw [N_piv]
        refine ⟨_, _, _, rfl, s1.trans s2, bs, hbs, ?_⟩
        have em : matL n (n + 1) (Lp.N (eqA b n p) (k + 1)) = matL n (n + 1) (mid (eqA b n p) k n) := matL_congr fun r j hr _ => by
          unfold mid
          by_cases y : r = k
          · rw [if_neg (by omega), y, turn_piv hb W hk]
          · rw [if_pos ⟨hr, y⟩]
        rw [em]; exact hB
    · rintro σ H1 ⟨v3, v4, v5, rfl, s1, as, has, hA⟩
      have hal : as.length = n := by rw [pair_len hA, matL_length]
      refine ⟨_, rfl, la, rfl, ⟨_, SqL.of has⟩, fun D hD => ?_⟩
      refine lc_list (K := K) (a := la) (xs := as.map V.ref) (fun i H' => Same H1 H' ∧ H' D = some (.lst (((solN b n p).take i).map V.int))) ⟨Same.put hD, upd_same⟩ (fun i H' _ ⟨s2, _⟩ => SqL.of (s2 _ _ has)) ?_ ?_
      · rintro i x H2 hx ⟨s2, h2⟩
        obtain ⟨q, hq, rfl⟩ := map_at hx
        have hi : i < n := by rw [← hal]; exact (List.getElem?_eq_some_iff.mp hq).1
        obtain ⟨q', hq', hrow⟩ := pair_get hA (matL_at (Lp.N (eqA b n p) n) hi)
        rw [hq] at hq'
        cases hq'
        have hrow2 : TL H2 q (rowL (n + 1) (Lp.N (eqA b n p) n i)) := s2 _ _ (era_same _ _ _ _ hrow)
        have hlast : atI ((rowL (n + 1) (Lp.N (eqA b n p) n i)).map V.int) (-1) = some (.int (Lp.N (eqA b n p) n i n)) := by
          have : (rowL (n + 1) (Lp.N (eqA b n p) n i)).map V.int = (rowL n (Lp.N (eqA b n p) n i)).map V.int ++ [V.int (Lp.N (eqA b n p) n i n)] := by
            unfold rowL
            rw [List.range_succ, List.map_append, List.map_append]; rfl
          rw [this]
          exact atI_last _ _
        refine ⟨rfl, tyes ?_⟩
        refine ⟨_, rfl, _, rfl, q, _, _, .int (Lp.N (eqA b n p) n i n), rfl, rfl, SqL.of hrow2, hlast, _, h2, ?_, s2.put2 hD, ?_⟩
        · rw [List.length_map, List.length_take]; exact Nat.lt_of_le_of_lt (Nat.min_le_left _ _) (small1000 (by omega))
        · rw [upd_same]
          have tk : (solN b n p).take (i + 1) = (solN b n p).take i ++ [Lp.N (eqA b n p) n i n] := by
            rw [List.take_add_one]
            unfold solN
            rw [rowL_at _ hi]; rfl
          rw [tk, List.map_append]; rfl
      · rintro H2 ⟨s2, h2⟩
        rw [List.take_of_length_le (by unfold solN; rw [rowL_length, List.length_map]; omega)] at h2
        refine ⟨_, rfl, by show 2 ≤ sizeLine; decide, fun t ht => ?_⟩
        have s3 : Same H2 (upd H2 t (.tup [.ref D, .int (Lp.det n (eqA b n p))])) := Same.put ht
        exact kk _ t (((s1.trans (era_same _ _)).trans s2).trans s3) ⟨D, SqT.of upd_same, SqL.of (s3 _ _ h2)⟩
def spChoices (K : PySem.W.Frag) : Sp := fun vs H Q _ => ∃ (pa ca : Addr) (b : Int) (pulls : List (List Pull)) (ch : List Nat), vs = [.int b, .ref pa, .ref ca] ∧ PLists K H pa pulls ∧ IL K H ca (zz ch) ∧ PsWf pulls ∧ Vld ch (lens pulls) ∧ (1 ≤ b ∧ b ≤ 99) ∧
  ∀ (H' : Hp) (s : Addr), Same H H' → SetAt K H' s (solN b pulls.length (pc pulls ch)) (solD b pulls.length (pc pulls ch)) → Q (.ref s) H'
theorem scChoices : FnScope ["b", "pulls", "choices", "rows", "number"] ["b", "pulls", "choices"] (defScope sWorthsOfChoices) := ⟨rfl, rfl, rfl, by decide +kernel, rfl, by decide +kernel, by decide +kernel⟩
theorem ok_choices {f fE fS : Addr} {fd fdE fdS : FuncData} (F : Fun K "worths_of_choices" "worths_of_choices" sWorthsOfChoices f fd) (T : Txt mg)
    (U : Cal P w K mg base "equation" ["b", "pull", "number", "count"] 1 (spEquation K) fE fdE) (S : Cal P w K mg base "solve" ["rows"] 2 (spSolve K) fS fdS) : FnOk P w K mg base CX0 3 f fd ["b", "pulls", "choices"] (spChoices K) := by
  refine F.ok scChoices (fun vs H Q E h => ?_) (fun cdv A outer s H vs Q E hr h => ?_)
  · obtain ⟨pa, ca, b, pulls, ch, rfl, _⟩ := h
    rfl
  · obtain ⟨pa, ca, b, pulls, ch, rfl, hp, hc, W, hV, hb, kk⟩ := h
    have hr1 : Room 1 _ := hr.mono (by decide)
    refine ⟨_, pss_cons (ps_set (i := 3) scChoices.nd rfl (Or.inl rfl) (pe_lst pa_nil))
      (pss_cons (ps_for PassesOwn.never rfl (pi_range1 rfl T.range (pa_cons (pe_callB (call_lenK (K := K)) (by rfl) T.len PySem.boot_len (pa_cons (pv 1) pa_nil)) pa_nil)) (pg_name (i := 4) scChoices.nd rfl (Or.inl rfl))
        (pss_one (ps_expr (pe_bm PySem.F.plainAttrs_list PySem.F.slot_list_append PySem.F.type_list_append mt_append (pv 3) (pa_cons
          (pe_call U.ok hr1 rfl U.m U.kp U.b .nil pass0 (pa_cons (pv 0) (pa_cons (pe_ix (ix_listK (K := K)) (pe_ix (ix_listK (K := K)) (pv 1) (pv 4) (fun _ _ => rfl)) (pe_ix (ix_listK (K := K)) (pv 2) (pv 4) (fun _ _ => rfl)) (fun _ _ => rfl)) (pa_cons (pv 4) (pa_cons (pe_callB (call_lenK (K := K)) (by rfl) T.len PySem.boot_len (pa_cons (pv 1) pa_nil)) pa_nil))))) pa_nil)))))
      (pss_one (ps_ret (pe_call S.ok hr rfl S.m S.kp S.b .nil pass0 (pa_cons (pv 3) pa_nil))))), ?_⟩
    obtain ⟨ps, hps, hpl⟩ := hp.len
    have hn := W.len
    refine ⟨Nat.zero_le _, fun ra hra => ?_⟩
    have sA : Same H (upd H ra (.lst [])) := Same.put hra
    have hE : Same H (era [ra] (upd H ra (.lst []))) := same_era1 (by simpa using hra) sA
    have lenr : (ps.length : Int) = (pulls.length : Int) := by omega
    refine ⟨_, rfl, pa, _, rfl, .inl (sA.seq hps), _, rfl, by omega, by omega, ?_⟩
    rw [lenr, Int.toNat_natCast]
    refine for_range (lo := 0) (n := pulls.length) (fun k σ H' => ∃ v4 : Option V, σ = [some (.int b), some (.ref pa), some (.ref ca), some (.ref ra), v4] ∧ Same H (era [ra] H') ∧
        ∃ as : List Addr, H' ra = some (.lst (as.map V.ref)) ∧ Paired (TL (era [ra] H')) as ((matL pulls.length (pulls.length + 1) (eqA b pulls.length (pc pulls ch))).take k))
      ⟨none, rfl, hE, [], upd_same, .nil⟩ ?_ ?_
    · rintro k σ H1 hk ⟨v4, rfl, s1, as, has, hA⟩
      have ek : (0 : Int) + (k : Int) = (k : Int) := by omega
      rw [ek]
      have s2 : Same H H1 := s1.trans (era_same _ _)
      obtain ⟨xs, q, hx, _, hq, hQ⟩ := (PLists.mono _ _ _ _ s2 hp).get (getD_some (d := []) hk)
      have hc1 := hV.choice hk
      obtain ⟨ys, r, hy, _, hr2, hR⟩ := hQ.get (getD_some (d := noPull) hc1)
      have hcl : k < ch.length := by rw [hV.len, lens_length]; exact hk
      refine ⟨_, rfl, .inl ⟨rfl, _, SqL.of has⟩, _, rfl, _, rfl, _, rfl, pa, _, _, .ref q, rfl, rfl, hx, atI_nat hq, _, rfl, _, rfl, ca, _, _, .int ((ch.getD k 0 : Nat) : Int), rfl, rfl, s2.seq hc, atI_map V.int (zz_at hcl), q, _, _, .ref r, rfl, rfl, hy, atI_nat hr2, _, rfl, _, rfl, pa, _, rfl, .inl (s2.seq hps),
        r, b, pc pulls ch k, k, pulls.length, by rw [lenr]; rfl, hR, W.pc hV k hk, hk, by omega, hb, fun H2 e s3 he h2 => ?_⟩
      rw [eqRow_eq (p := pc pulls ch) (W.pc hV k hk) hk] at h2
      have ne : e ∉ [ra] := fun z => by
        rw [List.mem_singleton] at z
        rw [z, has] at he; cases he
      refine ⟨ra, _, _, rfl, rfl, s3 _ _ has, ?_, ?_⟩
      · rw [List.length_map, pair_len hA, List.length_take]; exact Nat.lt_of_le_of_lt (Nat.min_le_left _ _) (small1000 (by omega))
      have ne_ra : ∀ {q : Addr}, q ∉ [ra] → q ≠ ra := fun h z => h (by simp [z])
      have m1 : Same (era [ra] H1) (era [ra] (upd H2 ra (.lst (as.map V.ref ++ [V.ref e])))) := same_era fun r o hr e => by
        refine ⟨hr, ?_⟩
        rw [upd_ne (ne_ra hr)]
        exact s3 _ _ e
      refine ⟨_, rfl, s1.trans m1, as ++ [e], by rw [upd_same, List.map_append]; rfl, ?_⟩
      rw [List.take_add_one, matL_at _ hk]
      refine pair_app (pair_imp (fun r x h => TL.mono _ _ _ _ m1 h) hA) (.cons ?_ .nil)
      show era [ra] _ e = _
      rw [era_at ne, upd_ne (ne_ra ne)]
      exact h2
    · rintro σ H1 ⟨v4, rfl, s1, as, has, hA⟩
      rw [List.take_of_length_le (by rw [matL_length]; exact Nat.le_refl _)] at hA
      refine ⟨_, rfl, ra, b, pulls.length, pc pulls ch, rfl, ⟨as, has, pair_imp (fun r x h => TL.mono _ _ _ _ (era_same _ _) h) hA⟩, W.pc hV, hn, hb, fun H2 s s2 h2 => kk H2 s ((s1.trans (era_same _ _)).trans s2) h2⟩
end
end Lw
end
/-! LwI_s05_order -/
section
set_option Elab.async false
set_option linter.all false
set_option maxRecDepth 100000
set_option maxHeartbeats 4000000
namespace Lw
open L2 PySem PySem.Spec PyProof.Rows
abbrev sBetteredChoices : Stmt := top 22
abbrev sBestWorths : Stmt := top 17
section
variable {P : Program} {w : World} {K : PySem.W.Frag} {mg : Str → Option Value} {base : Heap}
def spBettered (K : PySem.W.Frag) : Sp := fun vs H Q _ => ∃ (pa ca sa : Addr) (b : Int) (pulls : List (List Pull)) (ch : List Nat) (ns : List Int) (d : Int), vs = [.int b, .ref pa, .ref ca, .ref sa] ∧ PLists K H pa pulls ∧ IL K H ca (zz ch) ∧ SetAt K H sa ns d ∧ PsWf pulls ∧ Vld ch (lens pulls) ∧ ns.length = pulls.length ∧ 0 < d ∧ (1 ≤ b ∧ b ≤ 99) ∧
  ∀ (H' : Hp) (r : Addr), Same H H' → H r = none → H' r = some (.lst ((zz (better b pulls ch ns d)).map V.int)) → Q (.ref r) H'
theorem betterAt_lt {b : Int} {pulls : List (List Pull)} (W : PsWf pulls) {x : Nat} (hx : x < pulls.length) (vs : List Int) {d : Int} (hd : 0 < d) {c : Nat} (hc : c < (pulls.getD x []).length) {m : Nat} (hm : m ≤ (pulls.getD x []).length) : betterAt b (pulls.getD x []) vs d m c < (pulls.getD x []).length := by
  rw [betterAt_eq W hx vs hd hc m hm]
  have := (fold_best (fun i => Qv b pulls.length (pu pulls x i) (vOf vs d)) c m).2.2
  rcases this with h | h
  · rw [h]; exact hc
  · exact Nat.lt_of_lt_of_le h.1 hm
theorem betterAt_step (b : Int) (l : List Pull) (vs : List Int) (d : Int) (m c : Nat) : betterAt b l vs d (m + 1) c = if more b (l.getD m noPull) (l.getD (betterAt b l vs d m c) noPull) vs d then m else betterAt b l vs d m c := by
  unfold betterAt
  rw [List.range_succ, List.foldl_append]; rfl
theorem scBettered : FnScope ["b", "pulls", "choices", "settled", "better", "number", "chosen", "i"] ["b", "pulls", "choices", "settled"] (defScope sBetteredChoices) := ⟨rfl, rfl, rfl, by decide +kernel, rfl, by decide +kernel, by decide +kernel⟩
theorem ok_bettered {f fM : Addr} {fd fdM : FuncData} (F : Fun K "bettered_choices" "bettered_choices" sBetteredChoices f fd) (T : Txt mg)
    (M : Cal P w K mg base "is_worth_more" ["b", "pull", "other", "settled"] 2 (spWorthMore K) fM fdM) : FnOk P w K mg base CX0 3 f fd ["b", "pulls", "choices", "settled"] (spBettered K) := by
  refine F.ok scBettered (fun vs H Q E h => ?_) (fun cdv A outer s H vs Q E hr h => ?_)
  · obtain ⟨pa, ca, sa, b, pulls, ch, ns, d, rfl, _⟩ := h
    rfl
  · obtain ⟨pa, ca, sa, b, pulls, ch, ns, d, rfl, hp, hc, hs, W, hV, hnl, d0, hb, kk⟩ := h
    refine ⟨_, pss_cons (ps_set (i := 4) scBettered.nd rfl (Or.inl rfl) (pe_lst pa_nil))
      (pss_cons (ps_for PassesOwn.never rfl (pi_range1 rfl T.range (pa_cons (pe_callB (call_lenK (K := K)) (by rfl) T.len PySem.boot_len (pa_cons (pv 1) pa_nil)) pa_nil)) (pg_name (i := 5) scBettered.nd rfl (Or.inl rfl))
        (pss_cons (ps_set (i := 6) scBettered.nd rfl (Or.inl rfl) (pe_ix (ix_listK (K := K)) (pv 2) (pv 5) (fun _ _ => rfl)))
        (pss_cons (ps_for PassesOwn.never rfl (pi_range1 rfl T.range (pa_cons (pe_callB (call_lenK (K := K)) (by rfl) T.len PySem.boot_len (pa_cons (pe_ix (ix_listK (K := K)) (pv 1) (pv 5) (fun _ _ => rfl)) pa_nil)) pa_nil)) (pg_name (i := 7) scBettered.nd rfl (Or.inl rfl))
          (pss_one (ps_if (pt_val (pe_call M.ok hr rfl M.m M.kp M.b .nil pass0 (pa_cons (pv 0) (pa_cons (pe_ix (ix_listK (K := K)) (pe_ix (ix_listK (K := K)) (pv 1) (pv 5) (fun _ _ => rfl)) (pv 7) (fun _ _ => rfl)) (pa_cons (pe_ix (ix_listK (K := K)) (pe_ix (ix_listK (K := K)) (pv 1) (pv 5) (fun _ _ => rfl)) (pv 6) (fun _ _ => rfl)) (pa_cons (pv 3) pa_nil))))))
            (pss_one (ps_set (i := 6) scBettered.nd rfl (Or.inl rfl) (pv 7))) pss_nil)))
        (pss_one (ps_expr (pe_bm PySem.F.plainAttrs_list PySem.F.slot_list_append PySem.F.type_list_append mt_append (pv 4) (pa_cons (pv 6) pa_nil)))))))
      (pss_one (ps_ret (pv 4)))), ?_⟩
    obtain ⟨ps, hps, hpl⟩ := hp.len
    have hn := W.len
    refine ⟨Nat.zero_le _, fun ra hra => ?_⟩
    have sA : Same H (upd H ra (.lst [])) := Same.put hra
    have lenr : (ps.length : Int) = (pulls.length : Int) := by omega
    refine ⟨_, rfl, pa, _, rfl, .inl (sA.seq hps), _, rfl, by omega, by omega, ?_⟩
    rw [lenr, Int.toNat_natCast]
    refine for_range (lo := 0) (n := pulls.length) (fun k σ H' => ∃ v5 v6 v7 : Option V, σ = [some (.int b), some (.ref pa), some (.ref ca), some (.ref sa), some (.ref ra), v5, v6, v7] ∧ Same H H' ∧ H' ra = some (.lst ((zz ((better b pulls ch ns d).take k)).map V.int)))
      ⟨none, none, none, rfl, sA, upd_same⟩ ?_ ?_
    · rintro k σ H1 hk ⟨v5, v6, v7, rfl, s1, h1⟩
      have ek : (0 : Int) + (k : Int) = (k : Int) := by omega
      rw [ek]
      have hcl : k < ch.length := by rw [hV.len, lens_length]; exact hk
      have hc1 := hV.choice hk
      obtain ⟨xs, q, hx, _, hq, hQ⟩ := hp.get (getD_some (d := []) hk)
      obtain ⟨ys, hys, hyl⟩ := hQ.len
      have few := W.few k hk
      refine ⟨_, rfl, _, rfl, ca, _, _, .int ((ch.getD k 0 : Nat) : Int), rfl, rfl, s1.seq hc, atI_map V.int (zz_at hcl), ?_⟩
      refine ⟨_, rfl, _, rfl, pa, _, _, .ref q, rfl, rfl, s1.seq hx, atI_nat hq, q, _, rfl, .inl (s1.seq hys), _, rfl, by omega, by omega, ?_⟩
      rw [show (ys.length : Int) = ((pulls.getD k []).length : Int) by omega, Int.toNat_natCast]
      refine for_range (lo := 0) (n := (pulls.getD k []).length) (fun i σ H' => ∃ v7 : Option V, σ = [some (.int b), some (.ref pa), some (.ref ca), some (.ref sa), some (.ref ra), some (.int (k : Int)), some (.int ((betterAt b (pulls.getD k []) ns d i (ch.getD k 0) : Nat) : Int)), v7] ∧ Same H H' ∧ H' ra = some (.lst ((zz ((better b pulls ch ns d).take k)).map V.int)))
        ⟨v7, rfl, s1, h1⟩ ?_ ?_
      · rintro i σ H2 hi ⟨v7, rfl, s2, h2⟩
        have ei : (0 : Int) + (i : Int) = (i : Int) := by omega
        rw [ei]
        have hlt := betterAt_lt (b := b) W hk ns d0 hc1 (Nat.le_of_lt hi)
        obtain ⟨zs, r1, hz1, _, hr1, hR1⟩ := hQ.get (getD_some (d := noPull) hi)
        obtain ⟨zs2, r2, hz2, _, hr2, hR2⟩ := hQ.get (getD_some (d := noPull) hlt)
        refine ⟨_, rfl, _, rfl, _, rfl, pa, _, _, .ref q, rfl, rfl, s2.seq hx, atI_nat hq, _, rfl, q, _, _, .ref r1, rfl, rfl, s2.seq hz1, atI_nat hr1, _, rfl, _, rfl, pa, _, _, .ref q, rfl, rfl, s2.seq hx, atI_nat hq, _, rfl, q, _, _, .ref r2, rfl, rfl, s2.seq hz2, atI_nat hr2, _, rfl,
          r1, r2, sa, b, _, _, ns, d, pulls.length, rfl, PullAt.mono _ _ _ _ s2 hR1, PullAt.mono _ _ _ _ s2 hR2, SetAt.mono s2 hs, W.at_ hk hi, W.at_ hk hlt, by omega, hb, fun H3 s3 => ⟨_, rfl, ite2 (fun c => ?_) fun c => ?_⟩⟩
        · refine ⟨_, rfl, some (.int ((i : Nat) : Int)), ?_, s2.trans s3, s3 _ _ h2⟩
          rw [betterAt_step, if_pos c]
          rfl
        · refine ⟨some (.int ((i : Nat) : Int)), ?_, s2.trans s3, s3 _ _ h2⟩
          rw [betterAt_step, if_neg c]
          rfl
      · rintro σ H2 ⟨v7, rfl, s2, h2⟩
        refine ⟨_, rfl, .inl ⟨rfl, _, SqL.of h2⟩, _, rfl, ra, _, _, rfl, rfl, h2, ?_, ?_⟩
        · rw [List.length_map, zz_length, List.length_take]; exact Nat.lt_of_le_of_lt (Nat.min_le_left _ _) (small1000 (by omega))
        refine ⟨_, _, _, rfl, s2.put2 hra, ?_⟩
        rw [upd_same]
        have tk : (better b pulls ch ns d).take (k + 1) = (better b pulls ch ns d).take k ++ [betterAt b (pulls.getD k []) ns d (pulls.getD k []).length (ch.getD k 0)] := by
          unfold better
          exact range_take _ hk
        rw [tk]
        unfold zz
        rw [List.map_append, List.map_append]
        rfl
    · rintro σ H1 ⟨v5, v6, v7, rfl, s1, h1⟩
      refine ⟨_, rfl, kk H1 ra s1 hra ?_⟩
      rw [h1, List.take_of_length_le (by unfold better; simp)]
theorem eqvAll_ints : ∀ xs ys : List Int, PyData.eqvAll (xs.map PyData.int) (ys.map PyData.int) = decide (xs = ys)
  | [], [] => by simp [PyData.eqvAll]
  | [], y :: ys => by simp [PyData.eqvAll]
  | x :: xs, [] => by simp [PyData.eqvAll]
  | x :: xs, y :: ys => by
    rw [List.map_cons, List.map_cons, PyData.eqvAll, PyData.eqv, eqvAll_ints xs ys]
    by_cases h1 : x = y
    · by_cases h2 : xs = ys <;> simp [h1, h2]
    · simp [h1]
theorem shaped_ints (xs : List Int) : SeqAt.shaped (.list (xs.map PyData.int)) = true := by
  have h1 : PyData.canLayAll0 (xs.map PyData.int) = true := by
    induction xs with
    | nil => rfl
    | cons x xs ih => rw [List.map_cons, PyData.canLayAll0, ih]; rfl
  have h2 : PyData.depthAll (xs.map PyData.int) = 0 := by
    induction xs with
    | nil => rfl
    | cons x xs ih =>
      rw [List.map_cons, PyData.depthAll, ih (by
        rw [List.map_cons, PyData.canLayAll0, Bool.and_eq_true] at h1
        exact h1.2)]; rfl
  unfold SeqAt.shaped
  rw [PyData.canLay0, h1, PyData.depth, h2]
  decide
theorem dpAll_ints (K : PySem.W.Frag) (H : Hp) : ∀ xs : List Int, DpAll K H (xs.map V.int) (xs.map PyData.int)
  | [] => .nil
  | x :: xs => .cons (.int x) (dpAll_ints K H xs)
theorem op_eqDK {X : Cx} {K : PySem.W.Frag} (hu : X.A.units + 64 < cLine) (h : X.K = K := by rfl) : OpR X (compareOp .Eq) (rEqD K) := by subst h; exact op_eqD hu
theorem zz_inj {a c : List Nat} : zz a = zz c ↔ a = c := by
  constructor
  · intro h
    unfold zz at h
    exact (List.map_inj_right (fun x y e => by exact_mod_cast e)).mp h
  · intro h; rw [h]
def spBestWorths (K : PySem.W.Frag) : Sp := fun vs H Q _ => ∃ (pa : Addr) (b : Int) (pulls : List (List Pull)), vs = [.int b, .ref pa] ∧ PLists K H pa pulls ∧ PsWf pulls ∧ (1 ≤ b ∧ b ≤ 99) ∧
  ∀ (H' : Hp) (s : Addr) (ns : List Int) (d : Int), Same H H' → SetAt K H' s ns d → Bell b pulls ns d → Q (.ref s) H'
theorem vld_zero {pulls : List (List Pull)} (W : PsWf pulls) : Vld (List.replicate pulls.length 0) (lens pulls) := by
  refine vld_of (by rw [List.length_replicate, lens_length]) fun x hx => ?_
  rw [lens_length] at hx
  rw [lens_getD, List.getD_eq_getElem?_getD, List.getElem?_replicate, if_pos hx]
  exact W.some x hx
theorem scBestWorths : FnScope ["b", "pulls", "choices", "settled", "better"] ["b", "pulls"] (defScope sBestWorths) := ⟨rfl, rfl, rfl, by decide +kernel, rfl, by decide +kernel, by decide +kernel⟩
theorem ok_best_worths {f fC fB : Addr} {fd fdC fdB : FuncData} (F : Fun K "best_worths" "best_worths" sBestWorths f fd) (T : Txt mg)
    (C : Cal P w K mg base "worths_of_choices" ["b", "pulls", "choices"] 3 (spChoices K) fC fdC) (B : Cal P w K mg base "bettered_choices" ["b", "pulls", "choices", "settled"] 3 (spBettered K) fB fdB) : FnOk P w K mg base CX0 4 f fd ["b", "pulls"] (spBestWorths K) := by
  refine F.ok scBestWorths (fun vs H Q E h => ?_) (fun cdv A outer s H vs Q E hr h => ?_)
  · obtain ⟨pa, b, pulls, rfl, _⟩ := h
    rfl
  · obtain ⟨pa, b, pulls, rfl, hp, W, hb, kk⟩ := h
    refine ⟨_, pss_cons (ps_set (i := 2) scBestWorths.nd rfl (Or.inl rfl) (pe_op op_rep (pe_lst (pa_cons pe_int pa_nil)) (pe_callB (call_lenK (K := K)) (by rfl) T.len PySem.boot_len (pa_cons (pv 1) pa_nil))))
      (pss_one (ps_while PassesOwn.never (pt_val pe_bl)
        (pss_cons (ps_set (i := 3) scBestWorths.nd rfl (Or.inl rfl) (pe_call C.ok hr rfl C.m C.kp C.b .nil pass0 (pa_cons (pv 0) (pa_cons (pv 1) (pa_cons (pv 2) pa_nil)))))
        (pss_cons (ps_set (i := 4) scBestWorths.nd rfl (Or.inl rfl) (pe_call B.ok hr rfl B.m B.kp B.b .nil pass0 (pa_cons (pv 0) (pa_cons (pv 1) (pa_cons (pv 2) (pa_cons (pv 3) pa_nil))))))
        (pss_cons (ps_if (pt_cmpR (op_eqDK (K := K) hr.units) (pv 4) (pv 2) (nomark _)) (pss_one (ps_ret (pv 3))) pss_nil)
        (pss_one (ps_set (i := 2) scBestWorths.nd rfl (Or.inl rfl) (pv 4)))))))), ?_⟩
    obtain ⟨ps, hps, hpl⟩ := hp.len
    have hn := W.len
    refine ⟨by show 1 ≤ sizeLine; decide, fun l0 hl0 => ?_⟩
    have s0 : Same H (upd H l0 (.lst [.int 0])) := Same.put hl0
    refine ⟨_, rfl, pa, _, rfl, .inl (s0.seq hps), l0, _, _, rfl, rfl, upd_same, by omega, by omega, ?_, fun ca hca => ?_⟩
    · show 1 * ((ps.length : Int)).toNat ≤ sizeLine
      rw [Int.toNat_natCast, Nat.one_mul]; exact Nat.le_of_lt (small1000 (by omega))
    rw [Int.toNat_natCast, rep_flat]
    have s1 : Same H (upd (upd H l0 (.lst [.int 0])) ca (.lst ((List.replicate ps.length (0 : Int)).map V.int))) := s0.trans (Same.put hca)
    have ez : zz (List.replicate pulls.length 0) = List.replicate ps.length (0 : Int) := by
      unfold zz; rw [List.map_replicate, hpl]; rfl
    refine ⟨fun m σ H' => ∃ (ca : Addr) (ch : List Nat) (v3 v4 : Option V), σ = [some (.int b), some (.ref pa), some (.ref ca), v3, v4] ∧ Same H H' ∧ H' ca = some (.lst ((zz ch).map V.int)) ∧ Vld ch (lens pulls) ∧ m = meas b pulls ch,
      ⟨_, ca, _, none, none, rfl, s1, by rw [upd_same, ez], vld_zero W, rfl⟩, ?_⟩
    rintro m σ H1 ⟨ca, ch, v3, v4, rfl, s2, hca1, hV, rfl⟩
    refine ⟨_, rfl, ?_⟩
    show if true = true then _ else _
    rw [if_pos rfl]
    refine ⟨fun σ' H' => ∃ (ca : Addr) (v3 v4 : Option V), σ' = [some (.int b), some (.ref pa), some (.ref ca), v3, v4] ∧ Same H H' ∧ H' ca = some (.lst ((zz (bett b pulls ch)).map V.int)) ∧ bett b pulls ch ≠ ch, fun σ' H' ⟨ca', v3', v4', e1, e2, e3, e4⟩ => ⟨_, meas_lt hb W hV e4, ca', _, v3', v4', e1, e2, e3, bett_vld hb W hV, rfl⟩, ?_⟩
    refine ⟨_, rfl, _, rfl, _, rfl, pa, ca, b, pulls, ch, rfl, PLists.mono _ _ _ _ s2 hp, SqL.of hca1, W, hV, hb, fun H2 sa s3 hS => ?_⟩
    have ds := det_small hb (W.pc hV) hn (Nat.le_refl _)
    refine ⟨_, rfl, _, rfl, _, rfl, _, rfl, pa, ca, sa, b, pulls, ch, _, _, rfl, PLists.mono _ _ _ _ (s2.trans s3) hp, SqL.of (s3 _ _ hca1), hS, W, hV, by unfold solN; rw [rowL_length], ds.1, hb, fun H3 r s4 hr2 h3 => ?_⟩
    refine ⟨_, rfl, _, rfl, _, _, .lst (SqL.of h3) (dpAll_ints _ _ _), .lst (SqL.of (s4 _ _ (s3 _ _ hca1))) (dpAll_ints _ _ _), shaped_ints _, shaped_ints _, _, rfl, ite2 (fun c => ?_) fun c => ?_⟩
    · rw [PyData.eqv, eqvAll_ints, decide_eq_true_eq, zz_inj] at c
      exact ⟨_, rfl, kk H3 sa _ _ ((s2.trans s3).trans s4) (SetAt.mono s4 hS) (bell hb W hV c)⟩
    · rw [PyData.eqv, eqvAll_ints, decide_eq_true_eq, zz_inj] at c
      exact ⟨_, rfl, r, _, _, rfl, (s2.trans s3).trans s4, h3, c⟩
end
end Lw
end
/-! LwRs_s05_order -/
section
set_option Elab.async false
set_option linter.all false
set_option maxRecDepth 100000
set_option maxHeartbeats 4000000
namespace Lw
open L2 PySem PySem.Spec PyProof.Rows
abbrev sRateOf : Stmt := top 26
abbrev sAllRates : Stmt := top 25
section
variable {P : Program} {w : World} {K : PySem.W.Frag} {mg : Str → Option Value} {base : Heap}
def spRateOf (K : PySem.W.Frag) : Sp := fun vs H Q _ => ∃ (m : Addr) (b : Int) (s : Nat) (gs ws : List Int), vs = [.int b, .int s, .ref m] ∧ Rows K H m [gs, ws] ∧ Sf95.machineOk (gs, ws) = true ∧ s < gs.length ∧ (1 ≤ b ∧ b ≤ 99) ∧
  ∀ (H' : Hp) (t : Addr) (x d : Int), Same H H' → H t = none → H' t = some (.tup [.int x, .int d]) → 0 < d → x.natAbs < 2 ^ 810 → d.natAbs < 2 ^ 810 → ((x : Int) : Rat) / ((d : Int) : Rat) = Sf95.rate b.toNat (Sf95.machineOf (gs, ws)) s → Q (.ref t) H'
theorem ownPulls_at {gs ws : List Int} {j : Nat} (hj : j < (allPulls [gs, ws]).length) : (ownPulls [gs, ws])[j]? = some (((allPulls [gs, ws]).getD j []).getD 0 noPull) := by
  unfold ownPulls
  rw [List.getElem?_map, getD_some (d := []) hj]; rfl
theorem scRateOf : FnScope ["b", "state", "machine", "own", "settled", "at_hand", "pull"] ["b", "state", "machine"] (defScope sRateOf) := ⟨rfl, rfl, rfl, by decide +kernel, rfl, by decide +kernel, by decide +kernel⟩
theorem ok_rate_of {f fA fB : Addr} {fd fdA fdB : FuncData} (F : Fun K "rate_of" "rate_of" sRateOf f fd) (T : Txt mg)
    (A : Cal P w K mg base "all_pulls" ["machines"] 3 (spAllPulls K) fA fdA) (B : Cal P w K mg base "best_worths" ["b", "pulls"] 4 (spBestWorths K) fB fdB) : FnOk P w K mg base CX0 5 f fd ["b", "state", "machine"] (spRateOf K) := by
  refine F.ok scRateOf (fun vs H Q E h => ?_) (fun cdv A' outer s H vs Q E hr h => ?_)
  · obtain ⟨m, b, s, gs, ws, rfl, _⟩ := h
    rfl
  · obtain ⟨m, b, s, gs, ws, rfl, hm, ok, hs, hb, kk⟩ := h
    obtain ⟨u1, m1, r1⟩ := T.hundred
    have hr3 : Room 3 _ := hr.mono (by decide)
    refine ⟨_, pss_cons (ps_set (i := 3) scRateOf.nd rfl (Or.inr rfl) (pe_lc rfl scRateOf.nd (pi_list (pe_call A.ok hr3 rfl A.m A.kp A.b .nil pass0 (pa_cons (pv 2) pa_nil))) (own := [("at_hand", 5)]) (blkOk_by (show blkC ["b", "state", "machine", "own", "settled", "at_hand", "pull"] (defScope sRateOf) _ _ = true by decide +kernel))
        (fun _ _ _ _ _ => pg_name (i := 5) scRateOf.nd rfl (Or.inl rfl)) (fun _ _ _ _ _ => pts_nil) (fun _ _ _ _ _ => pe_ix (ix_listK (K := K)) (pv 5) pe_int (fun _ _ => rfl))))
      (pss_cons (ps_set (i := 4) scRateOf.nd rfl (Or.inl rfl) (pe_call B.ok hr rfl B.m B.kp B.b .nil pass0 (pa_cons (pv 0) (pa_cons
        (pe_lc rfl scRateOf.nd (pi_list (pv 3)) (own := [("pull", 6)]) (blkOk_by (show blkC ["b", "state", "machine", "own", "settled", "at_hand", "pull"] (defScope sRateOf) _ _ = true by decide +kernel))
          (fun _ _ _ _ _ => pg_name (i := 6) scRateOf.nd rfl (Or.inl rfl)) (fun _ _ _ _ _ => pts_nil) (fun _ _ _ _ _ => pe_lst (pa_cons (pv 6) (pa_cons (pe_ix (ix_listK (K := K)) (pv 3) (pv 1) (fun _ _ => rfl)) pa_nil)))) pa_nil))))
      (pss_one (ps_ret (pe_tup (pa_cons (pe_op op_mul (pe_ix (ix_listK (K := K)) (pe_ix (ix_tupK (K := K)) (pv 4) pe_int (fun _ _ => rfl)) (pv 1) (fun _ _ => rfl)) (pe_op op_sub (pe_glob (by rfl) m1 r1) (pv 0))) (pa_cons (pe_op op_mul (pe_ix (ix_tupK (K := K)) (pv 4) pe_int (fun _ _ => rfl)) (pe_glob (by rfl) m1 r1)) pa_nil)))))), ?_⟩
    have R := one_ok ok
    have gl := ((mok_iff gs ws).mp ok).1
    refine ⟨_, rfl, m, _, rfl, hm, R, fun H1 pa s1 hPP => ?_⟩
    obtain ⟨as, hS, hP⟩ := hPP
    have hal := pair_len hP
    have hlen : (allPulls [gs, ws]).length = gs.length := by rw [allPulls_length, sizes_one]; simp [prodN]
    refine ⟨pa, rfl, ⟨_, hS⟩, fun D hD => ?_⟩
    refine lc_list (K := K) (a := pa) (xs := as.map V.ref) (fun i H' => Same H1 H' ∧ ∃ bs : List Addr, H' D = some (.lst (bs.map V.ref)) ∧ Paired (PullAt K H1) bs ((ownPulls [gs, ws]).take i)) ⟨Same.put hD, [], upd_same, .nil⟩ (fun i H' _ ⟨s2, _⟩ => s2.seq hS) ?_ ?_
    · rintro i x H2 hx ⟨s2, bs, hbs, hB⟩
      obtain ⟨q, hq, rfl⟩ := map_at hx
      have hi : i < (allPulls [gs, ws]).length := by rw [← hal]; exact (List.getElem?_eq_some_iff.mp hq).1
      obtain ⟨q', hq', hQ⟩ := pair_get hP (getD_some (d := []) hi)
      rw [hq] at hq'
      cases hq'
      have pos := R.wf.some i hi
      obtain ⟨ys, r, hy, _, hr0, hR⟩ := LO.get hQ (getD_some (d := noPull) pos)
      refine ⟨rfl, tyes ?_⟩
      refine ⟨_, rfl, q, _, _, .ref r, rfl, rfl, s2.seq hy, at_of (j := 0) rfl hr0, _, hbs, ?_, s2.put2 hD, bs ++ [r], ?_, ?_⟩
      · rw [List.length_map, pair_len hB, List.length_take]; exact Nat.lt_of_le_of_lt (Nat.min_le_left _ _) (small1000 (by omega))
      · rw [upd_same, List.map_append]; rfl
      · rw [List.take_add_one, ownPulls_at hi]
        exact pair_app hB (.cons hR .nil)
    rintro H2 ⟨s2, bs, hbs, hB⟩
    rw [List.take_of_length_le (by rw [List.length_map, own_length]; omega)] at hB
    have hbl := pair_len hB
    rw [own_length] at hbl
    -- beginning anew
    obtain ⟨ps, hps, hPs⟩ := pair_get hB (getD_some (d := noPull) (show s < (ownPulls [gs, ws]).length by rw [own_length]; exact hs))
    refine ⟨_, rfl, _, rfl, D, rfl, ⟨_, SqL.of hbs⟩, fun D2 hD2 => ?_⟩
    refine lc_list (K := K) (a := D) (xs := bs.map V.ref) (fun i H' => Same H2 (era [D2] H') ∧ ∃ cs : List Addr, H' D2 = some (.lst (cs.map V.ref)) ∧ Paired (PList K (era [D2] H')) cs ((anew (ownPulls [gs, ws]) s).take i)) ⟨same_era1 (by simpa using hD2) (Same.put hD2), [], upd_same, .nil⟩ (fun i H' _ ⟨s3, _⟩ => SqL.of (era_same _ _ _ _ (s3 _ _ hbs))) ?_ ?_
    · rintro i x H3 hx ⟨s3, cs, hcs, hC⟩
      obtain ⟨q, hq, rfl⟩ := map_at hx
      have hi : i < gs.length := by rw [← hbl]; exact (List.getElem?_eq_some_iff.mp hq).1
      obtain ⟨q', hq', hQ⟩ := pair_get hB (getD_some (d := noPull) (show i < (ownPulls [gs, ws]).length by rw [own_length]; exact hi))
      rw [hq] at hq'
      cases hq'
      have s4 : Same H2 H3 := s3.trans (era_same _ _)
      refine ⟨rfl, tyes ?_⟩
      refine ⟨_, rfl, _, rfl, _, rfl, D, _, _, .ref ps, rfl, rfl, SqL.of (s4 _ _ hbs), atI_map V.ref hps, by show 2 ≤ sizeLine; decide, fun l hl => ?_⟩
      have nl : l ∉ [D2] := fun z => by
        rw [List.mem_singleton] at z
        rw [z, hcs] at hl; cases hl
      have ne_D2 : ∀ {q : Addr}, q ∉ [D2] → q ≠ D2 := fun h z => h (by simp [z])
      have sp : Same H3 (upd H3 l (.lst [.ref q, .ref ps])) := Same.put hl
      have m1 : Same (era [D2] H3) (era [D2] (upd (upd H3 l (.lst [.ref q, .ref ps])) D2 (.lst (cs.map V.ref ++ [V.ref l])))) := same_era fun r o hr e => by
        refine ⟨hr, ?_⟩
        rw [upd_ne (ne_D2 hr)]
        exact sp _ _ e
      refine ⟨_, sp _ _ hcs, ?_, s3.trans m1, cs ++ [l], by rw [upd_same, List.map_append]; rfl, ?_⟩
      · rw [List.length_map, pair_len hC, List.length_take]; exact Nat.lt_of_le_of_lt (Nat.min_le_left _ _) (small1000 (by omega))
      · have tk : (anew (ownPulls [gs, ws]) s).take (i + 1) = (anew (ownPulls [gs, ws]) s).take i ++ [[(ownPulls [gs, ws]).getD i noPull, (ownPulls [gs, ws]).getD s noPull]] := by
          rw [List.take_add_one]
          have : (anew (ownPulls [gs, ws]) s)[i]? = some ((anew (ownPulls [gs, ws]) s).getD i []) := getD_some (by rw [anew_length]; exact hi)
          rw [this, anew_at hi]; rfl
        rw [tk]
        have up := ((s2.trans s3).trans m1)
        refine pair_app (pair_imp (fun r u h => PList.mono _ _ _ _ m1 h) hC) (.cons ⟨[q, ps], ?_, .cons (PullAt.mono _ _ _ _ up hQ) (.cons (PullAt.mono _ _ _ _ up hPs) .nil)⟩ .nil)
        refine SqL.of ?_
        rw [era_at nl, upd_ne (ne_D2 nl), upd_same]; rfl
    rintro H3 ⟨s3, cs, hcs, hC⟩
    rw [List.take_of_length_le (by rw [List.length_map, anew_length]; omega)] at hC
    have s4 : Same H2 H3 := s3.trans (era_same _ _)
    refine ⟨D2, b, _, rfl, ⟨cs, SqL.of hcs, pair_imp (fun r u h => PList.mono _ _ _ _ (era_same _ _) h) hC⟩, anew_wf ok hs, hb, fun H4 sa ns d s5 hSet hBell => ?_⟩
    obtain ⟨v, hs1, hs2⟩ := hSet
    have hnl : ns.length = gs.length := by rw [hBell.len, anew_length]
    have hsn : s < ns.length := by omega
    have sv := hBell.sv _ (getD_mem (d := 0) hsn)
    have sd := hBell.sd
    have d0 := hBell.pos
    refine ⟨_, rfl, sa, _, _, .ref v, rfl, rfl, hs1, at_of (j := 0) rfl rfl, _, rfl, v, _, _, .int (ns.getD s 0), rfl, rfl, hs2, atI_map V.int (getD_some hsn), _, rfl, _, _, rfl, rfl, _, _, rfl, rfl, cmul_r (by omega) (by omega),
      _, rfl, sa, _, _, .int d, rfl, rfl, hs1, at_of (j := 1) rfl rfl, _, _, rfl, rfl, cmul_r (by decide) (by decide), by show 2 ≤ sizeLine; decide, fun t ht => ?_⟩
    have s6 : Same H4 (upd H4 t (.tup [.int (ns.getD s 0 * (100 - b)), .int (d * 100)])) := Same.put ht
    have sH := ((s1.trans s2).trans s4).trans s5
    refine kk _ t _ _ (sH.trans s6) (sH.free ht) upd_same (by omega) ?_ ?_ (hBell.rate ok hb hs)
    · rw [Int.natAbs_mul]
      exact Nat.lt_of_le_of_lt (Nat.mul_le_mul (Nat.le_of_lt sv) (show (100 - b).natAbs ≤ 100 by omega)) (by decide +kernel)
    · rw [Int.natAbs_mul]
      exact Nat.lt_of_le_of_lt (Nat.mul_le_mul (Nat.le_of_lt sd) (show (100 : Int).natAbs ≤ 100 by decide)) (by decide +kernel)
/-- a numerator and its divisor that are a machine's rate -/
structure RateIs (b : Int) (ss : List Int) (rs : List (List Int)) (i : Nat) (r : Int × Int) : Prop where
  pos : 0 < r.2
  sx : r.1.natAbs < 2 ^ 810
  sd : r.2.natAbs < 2 ^ 810
  is : ((r.1 : Int) : Rat) / ((r.2 : Int) : Rat) = Sf95.rateOf b.toNat (mach rs) (ss.map Int.toNat) i
def spAllRates (K : PySem.W.Frag) : Sp := fun vs H Q _ => ∃ (a m : Addr) (b : Int) (ss : List Int) (rs : List (List Int)), vs = [.int b, .ref a, .ref m] ∧ IL K H a ss ∧ Rows K H m rs ∧ Fine b ss rs ∧
  ∀ (H' : Hp) (l : Addr) (prs : List (Int × Int)), Same H H' → LO K (PR K) H' l prs → prs.length = rs.length / 2 → (∀ i, i < rs.length / 2 → RateIs b ss rs i (prs.getD i (0, 0))) → Q (.ref l) H'
theorem take2 {A : Type} {l : List A} {k : Nat} {x y : A} (h1 : l[k]? = some x) (h2 : l[k + 1]? = some y) : (l.drop k).take 2 = [x, y] := by
  apply List.ext_getElem?
  intro j
  match j with
  | 0 => rw [List.getElem?_take, if_pos (by omega), List.getElem?_drop]; exact h1
  | 1 => rw [List.getElem?_take, if_pos (by omega), List.getElem?_drop]; exact h2
  | j + 2 => rw [List.getElem?_take, if_neg (by omega)]; rfl
theorem scAllRates : FnScope ["b", "states", "machines", "i"] ["b", "states", "machines"] (defScope sAllRates) := ⟨rfl, rfl, rfl, by decide +kernel, rfl, by decide +kernel, by decide +kernel⟩
theorem ok_all_rates {f fR : Addr} {fd fdR : FuncData} (F : Fun K "all_rates" "all_rates" sAllRates f fd) (T : Txt mg)
    (U : Cal P w K mg base "rate_of" ["b", "state", "machine"] 5 (spRateOf K) fR fdR) : FnOk P w K mg base CX0 6 f fd ["b", "states", "machines"] (spAllRates K) := by
  refine F.ok scAllRates (fun vs H Q E h => ?_) (fun cdv A outer s H vs Q E hr h => ?_)
  · obtain ⟨a, m, b, ss, rs, rfl, _⟩ := h
    rfl
  · obtain ⟨a, m, b, ss, rs, rfl, ha, ⟨as, hS, hP⟩, Fi, kk⟩ := h
    refine ⟨_, pss_one (ps_ret (pe_lc rfl scAllRates.nd (pi_range1 rfl T.range (pa_cons (pe_callB (call_lenK (K := K)) (by rfl) T.len PySem.boot_len (pa_cons (pv 1) pa_nil)) pa_nil)) (own := [("i", 3)]) (blkOk_by (show blkC ["b", "states", "machines", "i"] (defScope sAllRates) _ _ = true by decide +kernel))
      (fun _ _ _ _ _ => pg_name (i := 3) scAllRates.nd rfl (Or.inl rfl)) (fun _ _ _ _ _ => pts_nil)
      (fun _ _ _ _ _ => pe_call U.ok hr rfl U.m U.kp U.b .nil pass0 (pa_cons (pv 0) (pa_cons (pe_ix (ix_listK (K := K)) (pv 1) (pv 3) (fun _ _ => rfl)) (pa_cons (pe_slice (sl_listK (K := K)) (pv 2) (po_some (pe_op op_mul pe_int (pv 3))) (po_some (pe_op op_add (pe_op op_mul pe_int (pv 3)) pe_int))) pa_nil)))))), ?_⟩
    have few := Fi.few
    have hsl := Fi.len
    have hal := pair_len hP
    refine ⟨_, rfl, a, _, rfl, .inl ha, _, rfl, by omega, by rw [List.length_map]; omega, fun D hD => ?_⟩
    rw [List.length_map, hsl, Int.toNat_natCast]
    refine lc_range (lo := 0) (n := rs.length / 2) (fun i H' => Same H H' ∧ ∃ (ts : List Addr) (prs : List (Int × Int)), H' D = some (.lst (ts.map V.ref)) ∧ Paired (fun t (r : Int × Int) => H' t = some (.tup [.int r.1, .int r.2])) ts prs ∧ prs.length = i ∧ ∀ j, j < i → RateIs b ss rs j (prs.getD j (0, 0)))
      ⟨Same.put hD, [], [], upd_same, .nil, rfl, fun j h => by omega⟩ ?_ ?_
    · rintro i H1 hi ⟨s1, ts, prs, hts, hT, hpl, hR⟩
      have ei : (0 : Int) + (i : Int) = (i : Int) := by omega
      rw [ei]
      have si := Fi.st i hi
      have sg : ss[i]? = some (ss.getD i 0) := getD_some (by omega)
      obtain ⟨sn, hsn⟩ : ∃ n : Nat, ss.getD i 0 = (n : Int) := ⟨(ss.getD i 0).toNat, by omega⟩
      obtain ⟨p1, hp1, hq1⟩ := pair_get hP (getD_some (d := []) (show 2 * i < rs.length by omega))
      obtain ⟨p2, hp2, hq2⟩ := pair_get hP (getD_some (d := []) (show 2 * i + 1 < rs.length by omega))
      refine ⟨rfl, tyes ?_⟩
      refine ⟨_, rfl, _, rfl, _, rfl, a, _, _, .int (ss.getD i 0), rfl, rfl, s1.seq ha, atI_map V.int sg, _, rfl, _, rfl, _, _, rfl, rfl, cmul_l (by decide) (by decide), _, rfl, _, rfl, _, _, rfl, rfl, cmul_l (by decide) (by decide), _, _, rfl, rfl, _, rfl, m, _, rfl, s1.seq hS, fun q hq => ?_⟩
      have e1 : (2 : Int) * (i : Int) = ((2 * i : Nat) : Int) := by omega
      have e2 : ((2 : Int) * (i : Int) + 2) = ((2 * i + 2 : Nat) : Int) := by omega
      have ec : cutV (as.map V.ref) (some ((2 : Int) * (i : Int))) (some ((2 : Int) * (i : Int) + 2)) = [V.ref p1, V.ref p2] := by
        rw [e2, e1, cut_nat _ _ _ (by rw [List.length_map]; omega), show 2 * i + 2 - 2 * i = 2 by omega, take2 (by rw [List.getElem?_map, hp1]; rfl) (by rw [List.getElem?_map, hp2]; rfl)]
      rw [ec]
      have s2 : Same H1 (upd H1 q (.lst [.ref p1, .ref p2])) := Same.put hq
      have s3 := s1.trans s2
      refine ⟨q, b, sn, gns rs i, wts rs i, by rw [hsn]; rfl, ⟨[p1, p2], SqL.of upd_same, .cons (s3.seq hq1) (.cons (s3.seq hq2) .nil)⟩, Fi.ok i hi, by omega, Fi.b, fun H2 t x d s4 ht hT2 d0 bx bd is => ?_⟩
      have s5 := s2.trans s4
      have htD : t ≠ D := ne_of hT2 (s5 _ _ hts) (by intro z; cases z)
      refine ⟨_, s5 _ _ hts, ?_, (s1.trans s5).put2 hD, ts ++ [t], prs ++ [(x, d)], by rw [upd_same, List.map_append]; rfl, ?_, by rw [List.length_append, hpl]; rfl, fun j hj => ?_⟩
      · rw [List.length_map, pair_len hT, hpl]; exact small1000 (by omega)
      · refine pair_app (pair_imp (fun r u h => ?_) hT) (.cons ?_ .nil)
        · have h1 : H1 r = some (.tup [.int u.1, .int u.2]) := h
          have nr : r ≠ D := ne_of h1 hts (by intro z; cases z)
          show upd H2 D _ r = _
          rw [upd_ne nr]; exact s5 _ _ h1
        · show upd H2 D _ t = _
          rw [upd_ne htD]; exact hT2
      · by_cases e : j = i
        · subst e
          have en : (prs ++ [(x, d)]).getD j (0, 0) = (x, d) := by
            rw [List.getD_eq_getElem?_getD, List.getElem?_append_right (by omega), hpl]; simp
          rw [en]
          refine ⟨d0, bx, bd, ?_⟩
          show ((x : Int) : Rat) / ((d : Int) : Rat) = Sf95.rate b.toNat (Sf69.machine (mach rs) j) ((ss.map Int.toNat).getD j 0)
          rw [machine_eq hi]
          have eg : (ss.map Int.toNat).getD j 0 = sn := by
            rw [List.getD_eq_getElem?_getD, List.getElem?_map, sg, hsn]
            simp
          rw [eg]; exact is
        · have eo : (prs ++ [(x, d)]).getD j (0, 0) = prs.getD j (0, 0) := by
            rw [List.getD_eq_getElem?_getD, List.getElem?_append_left (by omega), ← List.getD_eq_getElem?_getD]
          rw [eo]; exact hR j (by omega)
    · rintro H1 ⟨s1, ts, prs, hts, hT, hpl, hR⟩
      exact kk H1 D prs s1 ⟨ts, SqL.of hts, pair_imp (fun r u h => SqT.of h) hT⟩ hpl hR
end
end Lw
end
/-! LwOd -/
section
set_option Elab.async false
set_option linter.all false
set_option maxRecDepth 100000
set_option maxHeartbeats 4000000
namespace L2
open PySem PySem.Spec PyProof.Rows
section
variable {X : Cx}
def rRange : List V → Hp → VK → Prop := fun xs H Q => ∃ j : Int, xs = [.int j] ∧ ∀ r, H r = none → Q (.ref r) (upd H r (.rng 0 j))
theorem cr_range : CallR X (.type "range") rRange := by
  intro pins s σ H xs us Q I rv h
  obtain ⟨j, rfl, q⟩ := h
  cases rv with
  | cons r rr =>
    cases rr
    obtain ⟨t, rfl⟩ := r
    exact call_range_1 ⟨.ref _, upd H _ (.rng 0 j), I.laid (fun b u e => Heap.get?_push_of_some _ e) (Nat.le_refl _) ⟨_, _, _, Heap.get?_push_size _ rfl⟩, rfl, q _ (I.hok.fresh (Nat.le_refl _))⟩
end
/-- what the making of a lambda rests on: the def's code and its table, the builtins' module -/
structure LamGd (X : Cx) (c P : Addr) : Prop where
  code : X.env.code = .ref c
  hd : PySem.W.CodeHd X.base c P
  bm : ∃ bm ob, X.mg "__builtins__" = some (.ref bm) ∧ bm ≠ builtinsNs ∧ bm ≠ mainGlobals ∧ X.base.get? bm = some ob ∧ ob.cls = .type "module" ∧ ob.dict = some builtinsNs ∧ ob.data = .plain
/-- the object at an address, told by itself -/
def exObj (f : Addr) (o : Obj) : Heap → Prop := fun h => h.get? f = some o
def exCode (c : Addr) (q : Str) : Heap → Prop := fun h => ∃ oc vs tq, h.get? c = some oc ∧ oc.data = .fields vs ∧ vs[1]? = some (.str q tq)
section
variable {X : Cx} {c P : Addr} {params : Arguments} {body : Expr} {scope : Scope} {pos : Pos} {clos : List (Str × Addr)}
def tLam (X : Cx) (P : Addr) (params : Arguments) (body : Expr) (scope : Scope) (pos : Pos) (clos : List (Str × Addr)) : TE := fun _ H Q => H P = some (.tbl #[]) ∧
  ∀ (f c' : Addr) (pm ctv : Value), c' ≠ f → H f = none → H c' = none → f ≠ P → c' ≠ P →
    Q (.ref f) (upd (upd (upd H P (.tbl (#[] ++ #[rawInt pos.line, rawInt pos.col, .ref c']))) c' (.ext (exCode c' (X.env.qual ++ "<lambda>")))) f (.ext (exObj f (PySem.W.kla_obj "<lambda>" (X.env.qual ++ "<lambda>") params body scope clos pm c' ctv))))
theorem pe_lam (G : LamGd X c P) (hdef : defaultsOf params X.env = ([], [])) (hcl : closureFor scope X.env = pure clos) : PE X (.Lambda params body scope pos) (tLam X P params body scope pos clos) := by
  intro pins s σ H Q I h
  obtain ⟨hP, k⟩ := h
  have hPs : s.heap.get? P = some { cls := .none, data := .fields #[] } := I.hok P _ hP
  obtain ⟨bm, ob, b1, b2, b3, b4, b5, b6, b7⟩ := G.bm
  have hgs : s.heap.Ns mainGlobals X.mg := I.ok.mod.glob.keeps I.bk
  have hbP : bm ≠ P := fun q => by
    have := (I.bs _ _ b4).2
    rw [q, hP] at this; cases this
  have hgP : mainGlobals ≠ P := fun q => by
    obtain ⟨o, es, ep, e, hd, _⟩ := hgs
    rw [q, hPs] at e; cases e; cases hd
  refine PySem.W.kla_eval hdef (PySem.W.kla_makeFunction (mg := X.mg) (ps := #[]) hcl I.ok.glob hgs G.code (G.hd.keeps I.bk) hPs trivial rfl hgP ⟨bm, ob, b1, b2, b3, hbP, I.bk _ _ b4, b5, b6, b7⟩ fun c' ctv h' tk hx hge hlt hrec htb => ?_)
  have hPlt : P < s.heap.objs.size := Heap.lt_size hPs
  have hsz : s.heap.objs.size ≤ h'.objs.size := Nat.le_of_lt (Nat.lt_of_le_of_lt hge hlt)
  have hcf : c' ≠ h'.objs.size := Nat.ne_of_lt hlt
  have hfP : h'.objs.size ≠ P := Nat.ne_of_gt (Nat.lt_of_lt_of_le hPlt hsz)
  have hcP : c' ≠ P := Nat.ne_of_gt (Nat.lt_of_lt_of_le hPlt hge)
  have hfn : H h'.objs.size = none := I.hok.fresh hsz
  have hcn : H c' = none := I.hok.fresh hge
  have kp : ∀ b o, b ≠ P → s.heap.get? b = some o → (h'.push (PySem.W.kla_obj "<lambda>" (X.env.qual ++ "<lambda>") params body scope clos ((X.mg "__name__").getD .none) c' ctv)).get? b = some o := fun b o hb e => Heap.get?_push_of_some _ (hx b o hb e)
  have neo : ∀ {b : Addr} {u : HO}, H b = some u → b ≠ c' ∧ b ≠ h'.objs.size := fun e => ⟨ne_of_none e hcn, ne_of_none e hfn⟩
  have nlt : ∀ {b : Addr} {o : Obj}, s.heap.get? b = some o → b ≠ c' ∧ b ≠ h'.objs.size := fun e => ⟨Nat.ne_of_lt (Nat.lt_of_lt_of_le (Heap.lt_size e) hge), Nat.ne_of_lt (Nat.lt_of_lt_of_le (Heap.lt_size e) hsz)⟩
  have hQ := k h'.objs.size c' ((X.mg "__name__").getD .none) ctv hcf hfn hcn hfP hcP
  refine ⟨.ref h'.objs.size, _, I.un (t' := tk) ⟨fun b o e n _ _ => kp b o (fun z => by rw [z, hP] at n; cases n) e, fun b o e n _ _ => ⟨o.slots, kp b o (fun z => by rw [z, hP] at n; cases n) e⟩, fun b o e n _ => ?_, fun b o e _ => ?_, fun b xs e => ?_, fun b o u e => ?_, fun b ps e => ?_⟩ (fun b u e => ?_), rfl, hQ⟩
  · rw [upd_ne (nlt e).2, upd_ne (nlt e).1, upd_ne (fun z => by rw [z, hP] at n; cases n)]; exact n
  · by_cases hb : b = P
    · subst hb
      exact ⟨_, Heap.get?_push_of_some _ htb⟩
    · exact ⟨o, kp b o hb e⟩
  · rw [upd_ne (neo e).2, upd_ne (neo e).1, upd_ne (fun z => by rw [z, hP] at e; cases e)]; exact e
  · rw [upd_ne (neo e).2, upd_ne (neo e).1, upd_ne (fun z => by rw [z, hP] at e; cases e)]; exact e
  · by_cases hb : b = P
    · subst hb
      rw [hP] at e
      cases e
      exact ⟨_, by rw [upd_ne (Ne.symm hfP), upd_ne (Ne.symm hcP), upd_same]⟩
    · exact ⟨#[], by rw [upd_ne (neo e).2, upd_ne (neo e).1, upd_ne hb, e]; simp⟩
  · by_cases hb1 : b = h'.objs.size
    · subst hb1
      rw [upd_same] at e
      cases e
      exact ⟨Heap.get?_push_size _ rfl, ⟨_, Heap.get?_push_size _ rfl⟩, fun h1 h2 e1 e2 => e2 _ e1⟩
    · rw [upd_ne hb1] at e
      by_cases hb2 : b = c'
      · subst hb2
        rw [upd_same] at e
        cases e
        obtain ⟨c0, oc, vs, tq, hc0, e1, e2, e3⟩ := hrec
        cases hc0
        exact ⟨⟨oc, vs, tq, Heap.get?_push_of_some _ e1, e2, e3⟩, ⟨oc, Heap.get?_push_of_some _ e1⟩, fun h1 h2 ⟨oc, vs, tq, z1, z2, z3⟩ k2 => ⟨oc, vs, tq, k2 _ z1, z2, z3⟩⟩
      · rw [upd_ne hb2] at e
        by_cases hb3 : b = P
        · subst hb3
          rw [upd_same] at e
          cases e
          exact Heap.get?_push_of_some _ htb
        · rw [upd_ne hb3] at e
          refine (I.hok b u e).stay (fun b2 v hc q => kp b2 v (fun z => ?_) q) (fun b2 q => ?_) fun b2 xs q => ?_
          · subst z
            rcases hc with z | z
            · exact hb3 z.symm
            · rw [hP] at z; cases z
          · rw [upd_ne (neo q).2, upd_ne (neo q).1, upd_ne (fun z => by rw [z, hP] at q; cases q)]; exact q
          · rw [upd_ne (neo q).2, upd_ne (neo q).1, upd_ne (fun z => by rw [z, hP] at q; cases q)]; exact q
end
end L2
end
/-! LwOe -/
section
set_option Elab.async false
set_option linter.all false
set_option maxRecDepth 100000
set_option maxHeartbeats 4000000
namespace L2
open PySem PySem.Spec PyProof.Rows
def lamCx (X : Cx) (A : Around) (s : Shared) (H : Hp) (qual : Str) (scope : Scope) (f : Addr) (cd : Value) (cl : List (Str × Addr)) (N : List Str) : Cx where
  prog := X.prog
  w := X.w
  K := X.K
  mg := X.mg
  base := X.base
  A := A.deeper (PySem.W.envX qual scope s.heap.objs.size f cd cl)
  N := N
  s_0 := s
  H_0 := H
  env := PySem.W.envX qual scope s.heap.objs.size f cd cl
  outer := X.stack
  stack := PySem.W.envX qual scope s.heap.objs.size f cd cl :: X.stack
  ex := []
  calm := true
  fn := fun _ => false
  pn := []
  xe := fun _ _ => False
section
variable {X : Cx} {pins : List (Addr × Obj)} {σ : St} {H : Hp} {s : Shared} {A : Around} {qual : Str} {scope : Scope} {f c c' : Addr} {cd : Value} {x y : Str} {v l : V} {u ul : Value}
theorem look_one {y z : Str} {c d : Addr} (h : ([(y, c)] : List (Str × Addr)).lookup z = some d) : z = y ∧ d = c := by
  rw [List.lookup_cons] at h
  cases e : z == y with
  | true => rw [e] at h; exact ⟨eq_of_beq e, (Option.some.inj h).symm⟩
  | false => rw [e] at h; cases h
theorem look_self (y : Str) (c : Addr) : ([(y, c)] : List (Str × Addr)).lookup y = some c := by
  rw [List.lookup_cons, beq_self_eq_true]
theorem lam_inv (I : Inv X pins σ H s) (hA : A.frames = some X.stack) (hh : A.handled = none) (hk : scope.kind = .function) (hx : scope.names.lookup x = some .local) (hy : scope.names.lookup y = some .free)
    (hfree : ∀ z, (scope.names.lookup z = some .cell ∨ scope.names.lookup z = some .free) → z = y) (hcell : s.heap.IsCell c (some ul)) (hcH : H c = none) (rv : RelV v u) (rl : RelV l ul) {h₁ : Heap} {tk : Nat}
    (hns : h₁.Ns s.heap.objs.size (fun z => [(x, u)].reverse.lookup z)) (keep : ∀ b o, s.heap.get? b = some o → h₁.get? b = some o) :
    Inv (lamCx X A s H qual scope f cd [(y, c)] [x, y]) [] [some v, some l] H { s with heap := h₁, toks := tk } := by
  have noA : ∀ b : Addr, b ∉ (lamCx X A s H qual scope f cd [(y, c)] [x, y]).ex := fun b z => absurd (show b ∈ ([] : List Addr) from z) (by simp)
  have hc1 : h₁.IsCell c (some ul) := by
    obtain ⟨o, e, d⟩ := hcell
    exact ⟨o, keep _ _ e, d⟩
  refine ⟨⟨I.ok.mod, hk, rfl, rfl, Nat.le_refl _, fun a b d h1 h2 => ?_, fun z hz => ?_, fun a d h => Bool.noConfusion (show false = true from h), fun _ => hh, Around.frames_deeper hA, .inr ⟨rfl, rfl⟩, fun b z => absurd z (noA b), I.bs, Nat.le_trans I.ok.bsz I.sz, fun b _ _ => noA b, fun b z => absurd z (noA b), I.stack, I.stkFree⟩,
    rfl, I.bare, Un.kept keep, ⟨_, hns, fun i z w h1 h2 h3 => ?_⟩, fun z d h => ?_, I.hok.fresh (Nat.le_refl _), fun z d h => ?_, fun p hp => absurd (show p ∈ ([] : List (Addr × Obj)) from hp) (by simp), I.hok.kept keep, rfl⟩
  · rw [(look_one h1).1, (look_one h2).1]
  · have := hfree z hz
    subst this
    exact ⟨c, look_self _ _⟩
  · match i, h1, h2 with
    | 0, h1, h2 =>
      have e1 : x = z := Option.some.inj h1
      have e2 : v = w := Option.some.inj (Option.some.inj h2)
      subst e1 e2
      exact ⟨u, rv, .inl ⟨hx, by show [(x, u)].lookup x = some u; rw [List.lookup_cons, beq_self_eq_true]⟩⟩
    | 1, h1, h2 =>
      have e1 : y = z := Option.some.inj h1
      have e2 : l = w := Option.some.inj (Option.some.inj h2)
      subst e1 e2
      exact ⟨ul, rl, .inr ⟨.inr hy, c, look_self _ _, hc1⟩⟩
    | i + 2, h1, h2 => simp at h2
  · rw [(look_one h).2]
    exact ⟨_, hc1⟩
  · rw [(look_one h).2]; exact hcH
theorem lam_call {E : Value → Shared → Prop} {Q : VK} {params : Arguments} {body : Expr} {pm ctv : Value} {te : TE} (I : Inv X pins σ H s) (hA : A.frames = some X.stack) (hh : A.handled = none) (room : A.depth < recursionLimit)
    (hf : s.heap.get? f = some (PySem.W.kla_obj "<lambda>" qual params body scope [(y, c)] pm c' ctv)) (hcr : exCode c' qual s.heap)
    (hb : bindArgs (PySem.W.kla_fn "<lambda>" qual params body scope [(y, c)] pm (.ref c') ctv) ⟨[u], []⟩ = pure [(x, u)])
    (hk : scope.kind = .function) (hco : scope.isCoroutine = false) (hgen : scope.isGenerator = false) (hnc : ∀ z ∈ scope.names, z.2 ≠ .cell) (hx : scope.names.lookup x = some .local) (hy : scope.names.lookup y = some .free)
    (hfree : ∀ z, (scope.names.lookup z = some .cell ∨ scope.names.lookup z = some .free) → z = y) (hcell : s.heap.IsCell c (some ul)) (hcH : H c = none) (rv : RelV v u) (rl : RelV l ul)
    (hPE : PE (lamCx X A s H qual scope f (.ref c') [(y, c)] [x, y]) body te) (q : te [some v, some l] H Q) : wpAny (model X.prog X.w) A (call (.ref f) [u]) (EP X pins σ Q) E s := by
  obtain ⟨oc, vs, tq, r1, r2, r3⟩ := hcr
  refine wpAny_call (PySem.W.kla_callFunE (R := _) room hf rfl hco hgen rfl ⟨c', oc, vs, tq, rfl, r1, r2, r3⟩ ?_)
  rw [hb]
  refine wpAny_pure (wpAny_newFunctionEnv hnc (fun z hz => ?_) (fun h₁ hns hsb => ⟨I.nolimit.fresh _ hsb, ?_⟩) hk)
  · have : z = (x, u) := by simpa using hz
    rw [this]; exact hx
  show codeAny _ _ (.expr body (PySem.W.envX qual scope s.heap.objs.size f (.ref c') [(y, c)])) _ _
  have hk₁ : ∀ b o, s.heap.get? b = some o → h₁.get? b = some o := fun b o e => hsb.extBut b o (Nat.ne_of_lt (Heap.lt_size e)) (Heap.get?_push_of_some _ e)
  refine PySem.W.kla_codeExpr (wpAny_mono (hPE [] _ _ H Q (lam_inv I hA hh hk hx hy hfree hcell hcH rv rl hns hk₁) q) (fun v' s' hq => ?_) fun e s' hx => hx.elim)
  obtain ⟨w, H', J, rw', q'⟩ := hq
  exact I.after ⟨w, H', J.os, J.bare, J.base, J.hok, rw', q'⟩
end
end L2
end
/-! LwOf -/
section
set_option Elab.async false
set_option linter.all false
set_option maxRecDepth 100000
set_option maxHeartbeats 4000000
namespace L2
open PySem PySem.Spec PyProof.Rows
section
variable {prog : Program} {w : World} {A : Around} {E : Value → Shared → Prop} {s : Shared}
theorem collect_range {Q : List Value → Shared → Prop} {r : Addr} {a b c : Int} {t u v : Tok} {n : Nat} (hh : A.handled = none) (hr : IsRange s.heap r a b c t u v) (hsmall : Builtin.Range.small a b c = true)
    (hn : Builtin.Range.rangeSize a b c = n) (hlen : n ≤ 2 ^ 24)
    (h : ∀ h' tk acc', (∀ b o, s.heap.get? b = some o → h'.get? b = some o) → ItemsOf (fun i v => ∃ t, v = .int (a + i * c) t) acc' n → Q acc'.toList { s with heap := h', toks := tk }) :
    wpAny (model prog w) A (collect (.ref r)) Q E s := by
  unfold collect
  refine wpAny_bind (wpAny_runValue (codeAny_builtin entry_proto_collect' ?_))
  show wpAny _ _ (do again (.builtin "list.__iadd__" ⟨[← newList [], .ref r], []⟩)) _ _ s
  refine wpAny_bind (wpAny_newList (wpAny_pure ⟨Code.quiet_builtin _ (by decide +kernel), codeAny_builtin entry_list_iadd' ?_⟩))
  show wpAny _ _ (Builtin.List.listExtendWith (.ref s.heap.objs.size) (.ref r) (.ref s.heap.objs.size)) _ _ { s with heap := s.heap.push (seqObj "list" #[] 0) }
  have hS : (s.heap.push (seqObj "list" #[] 0)).get? s.heap.objs.size = some (seqObj "list" #[] 0) := Heap.get?_push_size _ rfl
  have key : wpAny (model prog w) A.in1 (Builtin.List.listExtendWith (.ref s.heap.objs.size) (.ref r) (.ref s.heap.objs.size)) _ _ { s with heap := s.heap.push (seqObj "list" #[] 0) } :=
    wpAny_extend_range (A := A) (R := fun r s' => r = .ok (.ret (.ref s.heap.objs.size)) ∧ ∃ h' tk acc' c', s' = { s with heap := h', toks := tk } ∧ (∀ b o, s.heap.get? b = some o → h'.get? b = some o) ∧ h'.get? s.heap.objs.size = some { cls := .type "list", dict := none, data := .seq acc' c', slots := #[] } ∧ ItemsOf (fun i v => ∃ t, v = .int (a + i * c) t) acc' n)
      (s := { s with heap := s.heap.push (seqObj "list" #[] 0) }) hh (Heap.get?_push_of_some _ hr) hsmall hn hlen s.heap.objs.size _ 0 hS fun h' tk acc' c' hk hS' hacc => ⟨rfl, h', tk, acc', c', rfl, fun b o e => hk b o (Nat.ne_of_lt (Heap.lt_size e)) (Heap.get?_push_of_some _ e), hS', hacc⟩
  have fin : ∀ s', (∃ h' tk acc' c', s' = { s with heap := h', toks := tk } ∧ (∀ b o, s.heap.get? b = some o → h'.get? b = some o) ∧ h'.get? s.heap.objs.size = some { cls := .type "list", dict := none, data := .seq acc' c', slots := #[] } ∧ ItemsOf (fun i v => ∃ t, v = .int (a + i * c) t) acc' n) →
      wpAny (model prog w) A (do
        let o ← load s.heap.objs.size
        match o.data with
        | .seq xs _ => pure xs.toList
        | _ => unsupported "internal:collect") Q E s' := by
    rintro s' ⟨h', tk, acc', c', rfl, hk, hS', hacc⟩
    refine wpAny_bind (wpAny_load hS' ?_)
    exact wpAny_pure (h h' tk acc' hk hacc)
  refine wpAny_mono key (fun fl s' hq => ?_) fun e s' hq => by cases hq.1
  cases fl with
  | done fl =>
    obtain ⟨e, g⟩ := hq
    cases e
    exact fin s' g
  | again c2 =>
    refine ⟨hq.1, codeAny_mono hq.2 fun r s' hq => ?_⟩
    obtain ⟨e, g⟩ := hq
    subst e
    exact fin s' g
end
def sh0 : Nat → Bool := fun _ => false
def keyL (k : Int × Int) : List (Int ⊕ List Nat) := [Sum.inl k.1, Sum.inl k.2]
/-- the lesser of two pairs -/
def pairLt (a b : Int × Int) : Prop := a.1 < b.1 ∨ (a.1 = b.1 ∧ a.2 < b.2)
theorem keyL_lt (a b : Int × Int) : (listOrd itemOrd).blt (keyL a) (keyL b) = true ↔ pairLt a b := by
  have e : (listOrd itemOrd).blt (keyL a) (keyL b) = lexLt itemOrd [Sum.inl a.1, Sum.inl a.2] [Sum.inl b.1, Sum.inl b.2] := rfl
  have i : ∀ x y : Int, itemOrd.blt (Sum.inl x) (Sum.inl y) = decide (x < y) := fun _ _ => rfl
  have n : lexLt itemOrd [] [] = false := rfl
  rw [e, lex_cons, lex_cons, i, i, i, i, n]
  unfold pairLt
  simp only [Bool.and_false, Bool.or_false, Bool.or_eq_true, Bool.and_eq_true, decide_eq_true_eq, Bool.not_eq_true', decide_eq_false_iff_not]
  omega
section
variable {X : Cx} {pins : List (Addr × Obj)} {σ : St} {H : Hp} {s : Shared}
theorem fresh_facts (I : Inv X pins σ H s) {b : Addr} (hb : s.heap.objs.size ≤ b) : b ≠ X.env.locals ∧ b ∉ X.fs ∧ (∀ x c, X.env.cells.lookup x = some c → c ≠ b) ∧ (∀ p ∈ X.pn ++ pins, p.1 ≠ b) ∧ H b = none ∧ X.s_0.heap.objs.size ≤ b := by
  refine ⟨Nat.ne_of_gt (Nat.lt_of_lt_of_le I.lt hb), I.nofs hb, fun x c e => ?_, fun p hp => ?_, I.hok.fresh hb, Nat.le_trans I.sz hb⟩
  · obtain ⟨v, o, ho, _⟩ := I.cell x c e
    exact Nat.ne_of_lt (Nat.lt_of_lt_of_le (Heap.lt_size ho) hb)
  · exact Nat.ne_of_lt (Nat.lt_of_lt_of_le (Heap.lt_size (I.pin p hp).1) hb)
theorem tup_at (I : Inv X pins σ H s) {p : Addr} {k : Int × Int} (h : H p = some (.tup [.int k.1, .int k.2])) : ∃ o n t u, s.heap.get? p = some o ∧ o.cls = .type "tuple" ∧ o.data = .seq #[.int k.1 t, .int k.2 u] n := by
  obtain ⟨_, its, rv, o, ho, hc, n, hd⟩ := (show ObjOk X.prog X.w H s.heap p (.tup [.int k.1, .int k.2]) from I.hok p _ h)
  cases rv with
  | cons r1 rr =>
    cases rr with
    | cons r2 rr =>
      cases rr
      obtain ⟨t, rfl⟩ := r1
      obtain ⟨u, rfl⟩ := r2
      exact ⟨o, n, t, u, ho, hc, hd⟩
theorem key_at (I : Inv X pins σ H s) {p : Addr} {k : Int × Int} (h : H p = some (.tup [.int k.1, .int k.2])) : (tupKind s.heap sh0).keyOf (.ref p) = some (keyL k) := by
  obtain ⟨o, n, t, u, ho, _, hd⟩ := tup_at I h
  show tupKey s.heap sh0 (.ref p) = _
  simp only [tupKey, ho, hd]
  rfl
theorem tups_at (I : Inv X pins σ H s) : ∀ (ps : List Addr), (∀ p ∈ ps, ∃ k : Int × Int, H p = some (.tup [.int k.1, .int k.2])) → ∃ fs, TupsOf s.heap sh0 (ps.map Value.ref) fs ∧ fs.length = ps.length
  | [], _ => ⟨[], .nil, rfl⟩
  | p :: ps, h => by
    obtain ⟨fs, h1, h2⟩ := tups_at I ps fun q hq => h q (by simp [hq])
    obtain ⟨k, hk⟩ := h p (by simp)
    obtain ⟨o, n, t, u, ho, hc, hd⟩ := tup_at I hk
    exact ⟨.int k.1 t :: fs, .cons ⟨p, o, _, n, rfl, ho, hc, hd, rfl, fun _ => ⟨_, _, rfl⟩, fun z => Bool.noConfusion (show false = true from z)⟩ h1, by rw [List.length_cons, List.length_cons, h2]⟩
end
/-- sorted by its keys -/
def SortedOf (key : Nat → Int × Int) (n : Nat) (out : List Int) : Prop := out.Perm ((List.range n).map fun i => ((i : Nat) : Int)) ∧ out.Pairwise fun x y => ¬ pairLt (key y.toNat) (key x.toNat)
theorem sorted_out {h : Heap} {key : Nat → Int × Int} {n : Nat} {ks vs : List Value} {xs : Array Keyed} (hl : ks.length = n) (hv : vs.length = n)
    (hks : ∀ j, j < n → ∃ kv t, ks[j]? = some kv ∧ vs[j]? = some (.int (j : Nat) t) ∧ (tupKind h sh0).keyOf kv = some (keyL (key j))) (hp : xs.toList.Perm (ks.zip vs)) (hs : SortedToK (tupKind h sh0) xs xs.size) :
    ∃ out : List Int, SortedOf key n out ∧ Vals (out.map V.int) (xs.map (·.2)).toList ∧ out.length = n := by
  have hm : ∀ p ∈ ks.zip vs, ∃ j t, j < n ∧ p.2 = .int (j : Nat) t ∧ (tupKind h sh0).keyOf p.1 = some (keyL (key j)) := fun p hp => by
    obtain ⟨j, hj, e⟩ := List.mem_iff_getElem.mp hp
    have hj' : j < n := by rw [List.length_zip, hl, hv] at hj; omega
    obtain ⟨kv, t, e1, e2, e3⟩ := hks j hj'
    have e4 : (ks.zip vs)[j]? = some (kv, .int (j : Nat) t) := List.getElem?_zip_eq_some.mpr ⟨e1, e2⟩
    rw [List.getElem?_eq_getElem hj, e] at e4
    have e5 := Option.some.inj e4
    rw [e5]
    exact ⟨j, t, hj', rfl, e3⟩
  have hx : ∀ p ∈ xs.toList, ∃ j t, j < n ∧ p.2 = .int (j : Nat) t ∧ (tupKind h sh0).keyOf p.1 = some (keyL (key j)) := fun p hq => hm p (hp.mem_iff.mp hq)
  have hlen : xs.toList.length = n := by rw [hp.length_eq, List.length_zip, hl, hv, Nat.min_self]
  refine ⟨xs.toList.map fun p => numOf p.2, ⟨?_, ?_⟩, ?_, by rw [List.length_map, hlen]⟩
  · have h1 := hp.map fun p : Keyed => numOf p.2
    have h2 : (ks.zip vs).map (fun p : Keyed => numOf p.2) = (List.range n).map fun i => ((i : Nat) : Int) := by
      apply List.ext_getElem?
      intro j
      by_cases hj : j < n
      · obtain ⟨kv, t, e1, e2, e3⟩ := hks j hj
        have e4 : (ks.zip vs)[j]? = some (kv, .int (j : Nat) t) := List.getElem?_zip_eq_some.mpr ⟨e1, e2⟩
        rw [List.getElem?_map, e4, List.getElem?_map, List.getElem?_range hj]; rfl
      · rw [List.getElem?_eq_none (by rw [List.length_map, List.length_zip, hl, hv]; omega), List.getElem?_eq_none (by simp; omega)]
    rw [h2] at h1
    exact h1
  · rw [List.pairwise_iff_getElem]
    intro i j hi hj hij
    rw [List.length_map] at hi hj
    have hj' : j < xs.size := by rw [← Array.length_toList]; exact hj
    have hi' : i < xs.size := by omega
    have q := hs i j (Nat.le_of_lt hij) hj'
    obtain ⟨a, t, ha, ea, ka⟩ := hx _ (List.getElem_mem hi)
    obtain ⟨b, u, hb, eb, kb⟩ := hx _ (List.getElem_mem hj)
    have Ki : KK (tupKind h sh0) xs i = keyL (key a) := by
      unfold KK
      rw [Array.getElem?_eq_getElem hi']
      have e : xs[i] = xs.toList[i] := by simp
      show ((tupKind h sh0).keyOf xs[i].1).getD _ = _
      rw [e, ka]; rfl
    have Kj : KK (tupKind h sh0) xs j = keyL (key b) := by
      unfold KK
      rw [Array.getElem?_eq_getElem hj']
      have e : xs[j] = xs.toList[j] := by simp
      show ((tupKind h sh0).keyOf xs[j].1).getD _ = _
      rw [e, kb]; rfl
    rw [Ki, Kj] at q
    have q' : (listOrd itemOrd).blt (keyL (key b)) (keyL (key a)) = false := q
    rw [List.getElem_map, List.getElem_map, ea, eb]
    show ¬ pairLt (key ((b : Nat) : Int).toNat) (key ((a : Nat) : Int).toNat)
    rw [Int.toNat_natCast, Int.toNat_natCast]
    intro z
    rw [(keyL_lt _ _).mpr z] at q'
    cases q'
  · rw [Array.toList_map, List.map_map]
    have : ∀ l : List Keyed, (∀ p ∈ l, ∃ j t, j < n ∧ p.2 = .int (j : Nat) t ∧ (tupKind h sh0).keyOf p.1 = some (keyL (key j))) → Vals (l.map (V.int ∘ fun p : Keyed => numOf p.2)) (l.map (·.2)) := by
      intro l
      induction l with
      | nil => intro _; exact .nil
      | cons p l ih =>
        intro hh
        obtain ⟨j, t, _, e, _⟩ := hh p (by simp)
        exact .cons ⟨t, by show p.2 = .int (numOf p.2) t; rw [e]; rfl⟩ (ih fun q hq => hh q (by simp [hq]))
    exact this _ hx
end L2
end
/-! LwOg -/
section
set_option Elab.async false
set_option linter.all false
set_option maxRecDepth 100000
set_option maxHeartbeats 4000000
namespace L2
open PySem PySem.Spec PyProof.Rows
section
variable {X : Cx} {pins : List (Addr × Obj)} {σ : St} {H : Hp} {s : Shared} {A : Around} {E : Value → Shared → Prop}
/-- the abstract heap grown -/
abbrev Grw (H H' : Hp) : Prop := ∀ b o, H b = some o → H' b = some o
/-- the pins of the sort: the list that is emptied, the list of the keys -/
abbrev sPins (pins : List (Addr × Obj)) (a kS : Addr) (e1 : Nat) (kA : Array Value) (e : Nat) : List (Addr × Obj) := pins ++ [(a, seqObj "list" #[] e1), (kS, seqObj "list" kA e)]
theorem notcell {xs : Array Value} {n : Nat} : ∀ v, (seqObj "list" xs n).data ≠ .cell v := fun v z => by cases z
/-- the keys' list has grown -/
theorem keys_push {a kS : Addr} {e1 e : Nat} {kA : Array Value} {x : Value} (I : Inv X (sPins pins a kS e1 kA e) σ H s) (hak : a ≠ kS) (h0 : X.s_0.heap.objs.size ≤ kS) (hc : ∀ y c, X.env.cells.lookup y = some c → c ≠ kS) (hp : ∀ p ∈ X.pn ++ pins, p.1 ≠ kS) :
    ∃ e', Inv X (sPins pins a kS e1 (kA.push x) e') σ H { s with heap := s.heap.update kS (Obj.mapSeq (·.push x)) } := by
  have pk := I.pin (kS, seqObj "list" kA e) (by simp)
  have pa := I.pin (a, seqObj "list" #[] e1) (by simp)
  have sb := Heap.SameBut.update s.heap kS (Obj.mapSeq (·.push x))
  have I0 : Inv X (pins ++ [(a, seqObj "list" #[] e1)]) σ H s := I.pins_of fun p hq => I.pin p (by
    rcases List.mem_append.mp hq with z | z
    · exact List.mem_append_right _ (List.mem_append_left _ z)
    · simp only [List.mem_singleton] at z; rw [z]; simp)
  have I1 : Inv X (pins ++ [(a, seqObj "list" #[] e1)]) σ H { s with heap := s.heap.update kS (Obj.mapSeq (·.push x)) } := I0.turned (t' := s.toks) (it := kS) (fun b o hb q => (sb.2 b hb).trans q) pk.2.1 pk.2.2.1 (.inr h0) hc (fun p hq => by
    rcases List.mem_append.mp hq with z | z
    · exact hp p (List.mem_append_left _ z)
    · rcases List.mem_append.mp z with z | z
      · exact hp p (List.mem_append_right _ z)
      · simp only [List.mem_singleton] at z; rw [z]; exact hak)
  obtain ⟨e', he'⟩ : ∃ e', (s.heap.update kS (Obj.mapSeq (·.push x))).get? kS = some (seqObj "list" (kA.push x) e') := ⟨_, get?_update_seq pk.1 (·.push x)⟩
  refine ⟨e', I1.pins_of fun p hq => ?_⟩
  rcases List.mem_append.mp hq with z | z
  · exact I1.pin p (List.mem_append_right _ (List.mem_append_left _ z))
  · rcases List.mem_cons.mp z with z | z
    · rw [z]; exact I1.pin _ (by simp)
    · simp only [List.mem_singleton] at z
      rw [z]
      exact ⟨he', pk.2.1, pk.2.2.1, pk.2.2.2.1, notcell⟩
theorem tail_keyed {P : PySem.Fin → Shared → Prop} {a kS : Addr} {e1 e : Nat} {kA : Array Value} {st : SortSt} {out : List Int} (J : Inv X (sPins pins a kS e1 kA e) σ H s) (hak : a ≠ kS) (ha0 : X.s_0.heap.objs.size ≤ a) (hac : ∀ y c, X.env.cells.lookup y = some c → c ≠ a) (hap : ∀ p ∈ X.pn ++ pins, p.1 ≠ a)
    (h0 : X.s_0.heap.objs.size ≤ kS) (hc : ∀ y c, X.env.cells.lookup y = some c → c ≠ kS) (hp : ∀ p ∈ X.pn ++ pins, p.1 ≠ kS) (hz : kA.size ≤ 1000) (hv : Vals (out.map V.int) ((arrOf st).map (·.2)).toList) (hol : out.length ≤ 1000) (hf : failedOf st = none)
    (h : ∀ s2, Inv X pins σ (upd H a (.lst (out.map V.int))) s2 → P (.done (.ret .none)) s2) : wpAny (model X.prog X.w) A (ksk_tail a false e1 (.ref kS) st) P E s := by
  have hsl : (1000 : Nat) < sizeLine := small1000 (Nat.le_refl _)
  have pk := J.pin (kS, seqObj "list" kA e) (by simp)
  have pa := J.pin (a, seqObj "list" #[] e1) (by simp)
  have J0 : Inv X pins σ H s := J.unpinned
  have hna : H a = none := pa.2.1
  have hnk : H kS = none := pk.2.1
  have s1 := Heap.SameBut.update s.heap kS (Obj.mapSeq fun _ => (#[] : Array Value))
  have na1 : (s.heap.update kS (Obj.mapSeq fun _ => (#[] : Array Value))).get? a = some (seqObj "list" #[] e1) := (s1.2 a hak).trans pa.1
  have s2 := Heap.SameBut.update (s.heap.update kS (Obj.mapSeq fun _ => (#[] : Array Value))) a (Obj.mapSeq fun _ => (arrOf st).map (·.2))
  obtain ⟨c2, hc2⟩ : ∃ c2, ((s.heap.update kS (Obj.mapSeq fun _ => (#[] : Array Value))).update a (Obj.mapSeq fun _ => (arrOf st).map (·.2))).get? a = some (seqObj "list" ((arrOf st).map (·.2)) c2) := ⟨_, get?_update_seq na1 fun _ => (arrOf st).map (·.2)⟩
  obtain ⟨c1, hc1⟩ : ∃ c1, (s.heap.update kS (Obj.mapSeq fun _ => (#[] : Array Value))).get? kS = some (seqObj "list" #[] c1) := ⟨_, get?_update_seq pk.1 fun _ => #[]⟩
  have hsz : ((arrOf st).map (·.2)).size ≤ 1000 := by
    have h1 := hv.length
    have h2 : ((arrOf st).map (·.2)).toList.length = ((arrOf st).map (·.2)).size := Array.length_toList
    rw [List.length_map] at h1
    omega
  have kp : ∀ b o, b ≠ a → b ≠ kS → s.heap.get? b = some o → ((s.heap.update kS (Obj.mapSeq fun _ => (#[] : Array Value))).update a (Obj.mapSeq fun _ => (arrOf st).map (·.2))).get? b = some o := fun b o h1 h2 q => (s2.2 b h1).trans ((s1.2 b h2).trans q)
  have nch : ∀ {b : Addr}, b ∉ [a, kS] → b ≠ a ∧ b ≠ kS := fun h => by simpa using h
  unfold ksk_tail
  try dsimp only
  refine wpAny_bind (listUpdate_at pk.1 rfl ?_ (by omega) (Nat.zero_le _))
  refine wpAny_bind (wpAny_letGo ?_)
  refine wpAny_bind (seqEpoch_at na1 rfl ?_)
  simp only [Bool.false_eq_true, if_false]
  refine wpAny_bind (listUpdate_at na1 rfl ?_ (Nat.zero_le _) (by omega))
  rw [hf]
  simp only [bne_self_eq_false, Bool.false_eq_true, if_false]
  refine wpAny_pure (h _ (J0.step (g' := s.gens) (t' := s.toks) (d' := s.drawn) (ch := [a, kS]) (fun b hb => ?_) (fun b o _ _ hb q _ => kp b o (nch hb).1 (nch hb).2 q) (fun b o _ _ hb q _ => ⟨o.slots, kp b o (nch hb).1 (nch hb).2 q⟩) (fun b o hb q n => by rw [upd_ne (nch hb).1]; exact n)
    (fun b o hb q => ⟨o, kp b o (nch hb).1 (nch hb).2 q⟩) (fun b xs q => by rw [upd_ne (ne_of_none q hna)]; exact q) (fun b o u q => by rw [upd_ne (ne_of_none q hna)]; exact q) (fun b ps q => ⟨#[], by rw [upd_ne (ne_of_none q hna), q]; simp⟩) (fun m hm => (hm.sameBut s1 (Ne.symm pk.2.2.1)).sameBut s2 (Ne.symm pa.2.2.1)) (fun b u q => ?_) J0.bare))
  · rcases List.mem_cons.mp hb with rfl | hb
    · exact ⟨.inr ha0, pa.2.2.1, hac, hap⟩
    · simp only [List.mem_singleton] at hb
      rw [hb]
      exact ⟨.inr h0, pk.2.2.1, hc, hp⟩
  · by_cases hb : b = a
    · subst hb
      rw [upd_same] at q
      cases q
      exact ⟨by rw [List.length_map]; omega, ((arrOf st).map (·.2)).toList, c2, hv, by rw [Array.toArray_toList]; exact hc2⟩
    · rw [upd_ne hb] at q
      refine (J0.hok b u q).stay (fun c v hq z => ?_) (fun c z => by rw [upd_ne (ne_of_none z hna)]; exact z) fun c xs z => by rw [upd_ne (ne_of_none z hna)]; exact z
      rcases hq with rfl | hq
      · exact kp _ v hb (ne_of_none q hnk) z
      · exact kp c v (ne_of_none hq hna) (ne_of_none hq hnk) z
theorem sort_keyed {Q : Value → Shared → Prop} {key : Nat → Int × Int} {n : Nat} {r f : Addr} (I : Inv X pins σ H s) (hh : A.handled = none) (hn : n ≤ 1000) (hr : H r = some (.rng 0 n))
    (turn : ∀ (pins' : List (Addr × Obj)) (s' : Shared) (H' : Hp) (i : Nat) (t : Tok), i < n → Inv X pins' σ H' s' → Grw H H' →
      wpAny (model X.prog X.w) A.in1.in1 (call (.ref f) [.int (i : Nat) t]) (EP X pins' σ fun v H2 => ∃ p, v = .ref p ∧ H' p = none ∧ H2 = upd H' p (.tup [.int (key i).1, .int (key i).2])) (fun _ _ => False) s')
    (fin : ∀ (s' : Shared) (H' : Hp) (D : Addr) (out : List Int), Inv X pins σ H' s' → Grw H H' → H D = none → H' D = some (.lst (out.map V.int)) → SortedOf key n out → Q (.ref D) s') :
    wpAny (model X.prog X.w) A (call (.builtin "sorted") [.ref r] [(Str.ofString "key", .ref f)]) Q E s := by
  have hsl : (1000 : Nat) < sizeLine := small1000 (Nat.le_refl _)
  refine call_function_entry_kw kind_sorted plain_sorted entry_sorted (ksk_s1 _ _) ?_
  unfold Builtin.«sorted»
  refine wpAny_bind (m := checkCount "sorted" 1 1 _) (wpAny_pure ?_)
  obtain ⟨t0, u0, v0, hrs⟩ := (show ObjOk X.prog X.w H s.heap r (.rng 0 n) from I.hok r _ hr)
  have hnn : Builtin.Range.rangeSize 0 (n : Int) 1 = (n : Int) := by rw [rangeSize_one]; split <;> omega
  refine wpAny_bind (collect_range (A := A.in1) (a := 0) (b := (n : Int)) (c := 1) (n := n) hh hrs (small_one (by omega) (by omega) (by omega) (by omega)) hnn (by omega) fun h1 tk1 acc hk1 hacc => ?_)
  have I1 : Inv X pins σ H { s with heap := h1, toks := tk1 } := I.kept hk1
  have hal : acc.toList.length = n := by rw [Array.length_toList]; exact hacc.1
  have hat : ∀ j, j < n → ∃ t, acc.toList[j]? = some (.int (j : Nat) t) := fun j hj => by
    have hj' : j < acc.size := by rw [hacc.1]; exact hj
    obtain ⟨t, e⟩ := hacc.2 j _ (Array.getElem?_eq_getElem hj')
    refine ⟨t, ?_⟩
    rw [Array.getElem?_toList, Array.getElem?_eq_getElem hj', e]
    simp
  generalize hvs : acc.toList = vs at hal hat
  refine wpAny_bind (wpAny_newList ?_ (by omega))
  -- the list at a
  have ha0 := fresh_facts I1 (b := h1.objs.size) (Nat.le_refl _)
  generalize haa : h1.objs.size = a at ha0
  have hoL : (h1.push (seqObj "list" vs.toArray 0)).get? a = some (seqObj "list" vs.toArray 0) := by rw [← haa]; exact Heap.get?_push_size _ rfl
  have I2 : Inv X pins σ H { s with heap := h1.push (seqObj "list" vs.toArray 0), toks := tk1 } := I1.kept (t' := tk1) fun b o e => Heap.get?_push_of_some _ e
  show wpAny _ _ _ _ _ { s with heap := h1.push (seqObj "list" vs.toArray 0), toks := tk1 }
  refine wpAny_bind (wpAny_holding (wpAny_call_entry_kw slot_list_sort ⟨_, hoL, rfl⟩ entry_list_sort ?body (ksk_l1 _ _)))
  case body =>
    show wpAny (model X.prog X.w) A.in1.in1 (Builtin.«list.sort» ⟨[.ref a], [(Str.ofString "key", .ref f)]⟩) _ _ _
    rw [ksk_t1]
    unfold ksk_tree
    refine wpAny_bind (listItems_at hoL rfl ?_)
    refine wpAny_bind (listUpdate_at hoL rfl ?_ (by rw [List.size_toArray]; omega) (Nat.zero_le _))
    obtain ⟨e1, ho1⟩ : ∃ e1, ((h1.push (seqObj "list" vs.toArray 0)).update a (Obj.mapSeq fun _ => (#[] : Array Value))).get? a = some (seqObj "list" #[] e1) := ⟨_, get?_update_seq hoL fun _ => #[]⟩
    have sba := Heap.SameBut.update (h1.push (seqObj "list" vs.toArray 0)) a (Obj.mapSeq fun _ => (#[] : Array Value))
    have I3 : Inv X pins σ H { s with heap := (h1.push (seqObj "list" vs.toArray 0)).update a (Obj.mapSeq fun _ => (#[] : Array Value)), toks := tk1 } :=
      Inv.turned (s := { s with heap := h1.push (seqObj "list" vs.toArray 0), toks := tk1 }) (t' := tk1) (it := a) I2 (fun b o hb q => (sba.2 b hb).trans q) ha0.2.2.2.2.1 ha0.1 (.inr ha0.2.2.2.2.2) ha0.2.2.1 ha0.2.2.2.1
    generalize (h1.push (seqObj "list" vs.toArray 0)).update a (Obj.mapSeq fun _ => (#[] : Array Value)) = h3 at ho1 I3
    refine wpAny_bind (seqEpoch_at ho1 rfl ?_)
    refine wpAny_bind (wpAny_newTuple ?_ (by show vs.length ≤ _; omega))
    refine wpAny_bind (wpAny_newList ?_ (Nat.zero_le _))
    refine wpAny_holding ?_
    have I4 : Inv X pins σ H { s with heap := h3.push (seqObj "tuple" vs.toArray 0), toks := tk1 } := I3.kept (t' := tk1) fun b o e => Heap.get?_push_of_some _ e
    have hk0 := fresh_facts I4 (b := (h3.push (seqObj "tuple" vs.toArray 0)).objs.size) (Nat.le_refl _)
    have hakS : a ≠ (h3.push (seqObj "tuple" vs.toArray 0)).objs.size := Nat.ne_of_lt (Heap.lt_size (Heap.get?_push_of_some _ ho1))
    have I5 : Inv X pins σ H { s with heap := (h3.push (seqObj "tuple" vs.toArray 0)).push (seqObj "list" #[] 0), toks := tk1 } := I4.kept (t' := tk1) fun b o e => Heap.get?_push_of_some _ e
    have hkS : ((h3.push (seqObj "tuple" vs.toArray 0)).push (seqObj "list" #[] 0)).get? (h3.push (seqObj "tuple" vs.toArray 0)).objs.size = some (seqObj "list" #[] 0) := Heap.get?_push_size _ rfl
    have ho5 : ((h3.push (seqObj "tuple" vs.toArray 0)).push (seqObj "list" #[] 0)).get? a = some (seqObj "list" #[] e1) := Heap.get?_push_of_some _ (Heap.get?_push_of_some _ ho1)
    show wpAny _ _ (ksk_rest a (.ref f) false vs.toArray e1 (.ref (h3.push (seqObj "tuple" vs.toArray 0)).objs.size)) _ _ { s with heap := (h3.push (seqObj "tuple" vs.toArray 0)).push (seqObj "list" #[] 0), toks := tk1 }
    generalize (h3.push (seqObj "tuple" vs.toArray 0)).objs.size = kS at hk0 hakS hkS
    generalize (h3.push (seqObj "tuple" vs.toArray 0)).push (seqObj "list" #[] 0) = h5 at I5 hkS ho5
    have I6 : Inv X (sPins pins a kS e1 #[] 0) σ H { s with heap := h5, toks := tk1 } := I5.pins_of fun p hq => by
      rcases List.mem_append.mp hq with z | z
      · exact I5.pin p (List.mem_append_right _ z)
      · rcases List.mem_cons.mp z with z | z
        · rw [z]; exact ⟨ho5, ha0.2.2.2.2.1, ha0.1, ha0.2.1, notcell⟩
        · simp only [List.mem_singleton] at z
          rw [z]; exact ⟨hkS, hk0.2.2.2.2.1, hk0.1, hk0.2.1, notcell⟩
    unfold ksk_rest
    refine wpAny_bind (wpAny_rule ?_)
    rw [List.forIn_toArray]
    refine wpAny_bind (ksk_fold (fun i s' => ∃ (H' : Hp) (kA : Array Value) (e : Nat) (ps : List Addr), Inv X (sPins pins a kS e1 kA e) σ H' s' ∧ Grw H H' ∧ H' a = none ∧ H' kS = none ∧ kA.toList = ps.map Value.ref ∧ ps.length = i ∧ ∀ j, j < i → ∃ p, ps[j]? = some p ∧ H' p = some (.tup [.int (key j).1, .int (key j).2])) vs 0 _
      ⟨H, #[], 0, [], I6, fun _ _ e => e, ha0.2.2.2.2.1, hk0.2.2.2.2.1, rfl, rfl, fun j h => by omega⟩ ?step ?done)
    case step =>
      rintro j x s' hx ⟨H', kA, e, ps, J, gr, hna, hnk, hkl, hpl, hps⟩
      simp only [Nat.zero_add] at hpl hps ⊢
      have hj : j < n := by rw [← hal]; exact (List.getElem?_eq_some_iff.mp hx).1
      obtain ⟨t, et⟩ := hat j hj
      rw [hx] at et
      cases et
      refine wpAny_bind (wpAny_attempt (wpAny_mono (turn _ s' H' j t hj J gr) (fun v s2 hq => ?_) fun _ _ hF => hF.elim))
      obtain ⟨v', H2, J2, rv, p, rfl, hp, rfl⟩ := hq
      cases rv
      have pk := J2.pin (kS, seqObj "list" kA e) (by simp)
      have hkz : kA.size ≤ n := by rw [← Array.length_toList, hkl, List.length_map]; omega
      refine wpAny_bind (listUpdate_at pk.1 rfl ?_ (by omega) (by rw [Array.size_push]; omega))
      obtain ⟨e', J3⟩ := keys_push (x := .ref p) J2 hakS hk0.2.2.2.2.2 hk0.2.2.1 hk0.2.2.2.1
      have npa : a ≠ p := fun z => by
        have := (J2.pin (a, seqObj "list" #[] e1) (by simp)).2.1
        rw [z, upd_same] at this; cases this
      have npk : kS ≠ p := fun z => by
        have := pk.2.1
        rw [z, upd_same] at this; cases this
      refine wpAny_pure ⟨rfl, _, kA.push (.ref p), e', ps ++ [p], J3, fun b o q => by rw [upd_ne (ne_of_none (gr b o q) hp)]; exact gr b o q, by rw [upd_ne npa]; exact hna, by rw [upd_ne npk]; exact hnk, by rw [Array.toList_push, hkl, List.map_append]; rfl, by rw [List.length_append, hpl]; rfl, fun i hi => ?_⟩
      by_cases e2 : i = j
      · subst e2
        exact ⟨p, by rw [List.getElem?_append_right (by omega), hpl]; simp, upd_same⟩
      · obtain ⟨q, h1', h2'⟩ := hps i (by omega)
        exact ⟨q, by rw [List.getElem?_append_left (by omega)]; exact h1', by rw [upd_ne (ne_of_none h2' hp)]; exact h2'⟩
    case done =>
      rintro s' ⟨H', kA, e, ps, J, gr, hna, hnk, hkl, hpl, hps⟩
      simp only [Nat.zero_add] at hpl hps
      rw [hal] at hpl hps
      have pk := J.pin (kS, seqObj "list" kA e) (by simp)
      have pa := J.pin (a, seqObj "list" #[] e1) (by simp)
      refine wpAny_bind (listItems_at pk.1 rfl ?_)
      have hkl2 : kA.toList.length = n := by rw [hkl, List.length_map, hpl]
      have hkz : kA.size = n := by rw [← Array.length_toList]; exact hkl2
      have hks : ∀ j, j < n → ∃ kv t, kA.toList[j]? = some kv ∧ vs[j]? = some (.int (j : Nat) t) ∧ (tupKind s'.heap sh0).keyOf kv = some (keyL (key j)) := fun j hj => by
        obtain ⟨p, e1', e2'⟩ := hps j hj
        obtain ⟨t, et⟩ := hat j hj
        exact ⟨.ref p, t, by rw [hkl, List.getElem?_map, e1']; rfl, et, key_at J e2'⟩
      have hzs : (kA.zip vs.toArray).toList = kA.toList.zip vs := ksk_zip kA vs
      have finish : ∀ (P : PySem.Fin → Shared → Prop) (E' : Value → Shared → Prop) (st : SortSt), (arrOf st).toList.Perm (kA.toList.zip vs) → SortedToK (tupKind s'.heap sh0) (arrOf st) (arrOf st).size → failedOf st = none →
          (∀ s2, Q (.ref a) s2 → P (.done (.ret .none)) s2) → wpAny (model X.prog X.w) A.in1.in1 (ksk_tail a false e1 (.ref kS) st) P E' s' := fun P E' st hp hs hfl hP => by
        obtain ⟨out, so, hv, hol⟩ := sorted_out hkl2 hal hks hp hs
        exact tail_keyed J hakS ha0.2.2.2.2.2 ha0.2.2.1 ha0.2.2.2.1 hk0.2.2.2.2.2 hk0.2.2.1 hk0.2.2.2.1 (by omega) hv (by omega) hfl fun s2 J2 => hP s2 (fin s2 _ a out J2 (fun b o q => by rw [upd_ne (ne_of_none (gr b o q) hna)]; exact gr b o q) ha0.2.2.2.2.1 upd_same so)
      unfold ksk_end
      try dsimp only
      simp only [Bool.false_eq_true, if_false]
      by_cases h2 : vs.toArray.size < 2
      · rw [if_pos h2, if_pos h2]
        refine wpAny_bind (wpAny_pure ?_)
        rw [StateT.run_pure]
        refine wpAny_bind (wpAny_pure ?_)
        try dsimp only
        refine finish _ _ (SortSt.mk' general' (kA.zip vs.toArray) #[] 7 none) (by show (kA.zip vs.toArray).toList.Perm _; rw [hzs]) (fun i j hij hj => ?_) rfl fun s2 hq => ⟨.none, rfl, wpAny_pure ⟨_, rfl, hq⟩⟩
        have hj2 : j < (kA.zip vs.toArray).size := hj
        rw [Array.size_zip, hkz, List.size_toArray, hal, Nat.min_self] at hj2
        rw [List.size_toArray, hal] at h2
        have : i = j := by omega
        subst this
        exact KeyOrd.kle_refl _
      · rw [if_neg h2, if_neg h2]
        rw [List.size_toArray, hal] at h2
        obtain ⟨fs, hT, hfl⟩ := tups_at J ps fun p hp => by
          obtain ⟨j, hj, e⟩ := List.mem_iff_getElem.mp hp
          obtain ⟨q, e1', e2'⟩ := hps j (by omega)
          rw [List.getElem?_eq_getElem hj, e] at e1'
          cases e1'
          exact ⟨_, e2'⟩
        have ek : kA = (ps.map Value.ref).toArray := by rw [← hkl, Array.toArray_toList]
        refine wpAny_bind ?_
        rw [ek]
        refine tup_kind (by omega) hT ?_
        rw [← ek]
        refine wpAny_bind (wpAny_mono (PyProof.Rows.G.wpS_sortRunsSt (κ := tupKind s'.heap sh0) (kd := tuples' true) (a₀ := kA.zip vs.toArray) (st := SortSt.mk' (tuples' true) (kA.zip vs.toArray) #[] 7 none)
          (Q := fun _ st' => (arrOf st').Perm (kA.zip vs.toArray) ∧ failedOf st' = none ∧ SortedToK (tupKind s'.heap sh0) (arrOf st') (arrOf st').size)
          (fun A' E' x y as bs Q' hx hy hq => tup_ltAt true A' E' x y as bs hx hy hq) (fun p hp => ?_) ⟨Array.Perm.refl _, rfl, rfl⟩ rfl (Stable.refl _) (by rw [Array.size_zip, hkz, List.size_toArray, hal, Nat.min_self]; omega)
          fun st' a1 a2 a3 a4 => ⟨a1, a2, by rw [a1.size_eq]; exact a3⟩) ?_ fun _ _ e => e)
        · rw [hzs] at hp
          obtain ⟨j, hj, e⟩ := List.mem_iff_getElem.mp hp
          have hj' : j < n := by rw [List.length_zip, hkl2, hal] at hj; omega
          obtain ⟨kv, t, e1', e2', e3'⟩ := hks j hj'
          have e4 : (kA.toList.zip vs)[j]? = some (kv, .int (j : Nat) t) := List.getElem?_zip_eq_some.mpr ⟨e1', e2'⟩
          rw [List.getElem?_eq_getElem hj, e] at e4
          have e5 := Option.some.inj e4
          rw [e5]
          exact ⟨_, e3'⟩
        · rintro ⟨⟨⟩, st'⟩ s2 ⟨rfl, hp, hf, hs⟩
          try dsimp only
          exact finish _ _ st' (by rw [← hzs]; exact Array.perm_iff_toList_perm.mp hp) hs hf fun s2 hq => ⟨.none, rfl, wpAny_pure ⟨_, rfl, hq⟩⟩
end
end L2
end
/-! LwOh -/
section
set_option Elab.async false
set_option linter.all false
set_option maxRecDepth 100000
set_option maxHeartbeats 4000000
namespace L2
open PySem PySem.Spec PyProof.Rows
section
variable {X : Cx} {c0 P : Addr} {params : Arguments} {body : Expr} {scope : Scope} {lpos p pos kpos : Pos} {e : Expr} {ta : TA} {te : TE} {x y : Str} {c : Addr} {iy k : Nat}
/-- the abstract heap grown, the table aside -/
abbrev GrwP (P : Addr) (H H' : Hp) : Prop := ∀ b o, H b = some o → b ≠ P → H' b = some o
def tSortBy (P : Addr) (iy : Nat) (ta : TA) (te : TE) : TE := fun σ H Q => ta σ H fun vs H1 => ∃ (r l : Addr) (n : Nat) (key : Nat → Int × Int), vs = [.ref r] ∧ H1 r = some (.rng 0 n) ∧ n ≤ 1000 ∧ H1 P = some (.tbl #[]) ∧ σ[iy]? = some (some (.ref l)) ∧
  (∀ (H' : Hp) (i : Nat), i < n → GrwP P H1 H' → te [some (.int i), some (.ref l)] H' fun v H2 => ∃ p, v = .ref p ∧ H' p = none ∧ H2 = upd H' p (.tup [.int (key i).1, .int (key i).2])) ∧
  ∀ (H' : Hp) (D : Addr) (out : List Int), GrwP P H1 H' → H1 D = none → H' D = some (.lst (out.map V.int)) → SortedOf key n out → Q (.ref D) H'
theorem pe_sorted_by (hr : Room k X.A) (hg : Gl X "sorted") (hm : X.mg "sorted" = none) (ha : PA X [e] ta) (G : LamGd X c0 P) (hdef : defaultsOf params X.env = ([], [])) (hcl : closureFor scope X.env = pure [(y, c)]) (hyc : X.env.cells.lookup y = some c) (hyk : X.env.kindOf y = some .cell) (hyN : X.N[iy]? = some y)
    (hb : ∀ (pm ctv : Value) (c' : Addr) (u : Value), bindArgs (PySem.W.kla_fn "<lambda>" (X.env.qual ++ "<lambda>") params body scope [(y, c)] pm (.ref c') ctv) ⟨[u], []⟩ = pure [(x, u)])
    (hk : scope.kind = .function) (hco : scope.isCoroutine = false) (hgen : scope.isGenerator = false) (hnc : ∀ z ∈ scope.names, z.2 ≠ .cell) (hx : scope.names.lookup x = some .local) (hy : scope.names.lookup y = some .free)
    (hfree : ∀ z, (scope.names.lookup z = some .cell ∨ scope.names.lookup z = some .free) → z = y)
    (hPE : ∀ (A : Around) (s : Shared) (H : Hp) (f c' : Addr), PE (lamCx X A s H (X.env.qual ++ "<lambda>") scope f (.ref c') [(y, c)] [x, y]) body te)
    (he : backTo pos (starEach [e] X.env) = (false, eval e X.env) :: backTo pos (starEach [] X.env) := by rfl) (hpl : (backTo pos (starEach [e] X.env)).any (·.1) = false := by rfl) :
    PE X (.Call (.Name "sorted" p) [e] [⟨some "key", .Lambda params body scope lpos, kpos⟩] pos) (tSortBy P iy ta te) := by
  intro pins s σ H Q I h
  have hkw : PK X [⟨some "key", .Lambda params body scope lpos, kpos⟩] (tCons (tLam X P params body scope lpos [(y, c)]) tNil) := pk_cons (pe_lam G hdef hcl) pk_nil
  refine wpAny_Call_Name_kw (ld_blt I hg hm boot_sorted ?_)
  refine PyProof.Rows.callWith_kw (thn (ha pos pins s σ H _ I h) fun us s1 ⟨vs, H1, I1, r1, q1⟩ => ?_) he hpl rfl rfl
  obtain ⟨r, l, n, key, rfl, hr1, hn, hP, hσ, turn, fin⟩ := q1
  cases r1 with
  | cons rr rn =>
    cases rn
    cases rr
    refine thn (hkw pos pins s1 σ H1 (fun zs H2 => ∃ (f c' : Addr) (pm ctv : Value), zs = [.ref f] ∧ c' ≠ f ∧ H1 f = none ∧ H1 c' = none ∧ f ≠ P ∧ c' ≠ P ∧ H2 = upd (upd (upd H1 P (.tbl (#[] ++ #[rawInt lpos.line, rawInt lpos.col, .ref c']))) c' (.ext (exCode c' (X.env.qual ++ "<lambda>")))) f (.ext (exObj f (PySem.W.kla_obj "<lambda>" (X.env.qual ++ "<lambda>") params body scope [(y, c)] pm c' ctv)))) I1
      ⟨hP, fun f c' pm ctv h1 h2 h3 h4 h5 => ⟨f, c', pm, ctv, rfl, h1, h2, h3, h4, h5, rfl⟩⟩) fun ws s2 ⟨zs, H2, I2, rz, q2⟩ => ?_
    obtain ⟨f, c', pm, ctv, rfl, h1, h2, h3, h4, h5, hH2⟩ := q2
    cases rz with
    | cons rf rn =>
      cases rn
      cases rf
      have up : ∀ b o, H1 b = some o → b ≠ P → H2 b = some o := fun b o q hb => by
        rw [hH2, upd_ne (ne_of_none q h2), upd_ne (ne_of_none q h3), upd_ne hb]; exact q
      have hrP : r ≠ P := fun z => by rw [z, hP] at hr1; cases hr1
      have hf2 : H2 f = some (.ext (exObj f (PySem.W.kla_obj "<lambda>" (X.env.qual ++ "<lambda>") params body scope [(y, c)] pm c' ctv))) := by rw [hH2, upd_same]
      have hc2 : H2 c' = some (.ext (exCode c' (X.env.qual ++ "<lambda>"))) := by rw [hH2, upd_ne h1, upd_same]
      have hh : X.A.handled = none := hr.hd
      refine sort_keyed (key := key) I2 hh hn (up r _ hr1 hrP) (fun pins' s' H' i t hi J gr => ?_) fun s' H' D out J gr hD hD' so => ?_
      · obtain ⟨mm, _, hl⟩ := J.loc
        obtain ⟨u, ru, lk⟩ := hl iy y (.ref l) hyN hσ (.inr (.inl hyk))
        have hcell : s'.heap.IsCell c (some u) := by
          rcases lk with ⟨z, _⟩ | ⟨_, c2, z, hc⟩
          · rw [hyk] at z; cases z
          · rw [hyc] at z; cases z; exact hc
        refine lam_call (v := .int (i : Nat)) (l := .ref l) (te := te) J I.ok.frames hh hr.depth (J.hok f _ (gr f _ hf2)).1 (J.hok c' _ (gr c' _ hc2)).1 (hb pm ctv c' _) hk hco hgen hnc hx hy hfree hcell (J.freeC y c hyc) ⟨t, rfl⟩ ru (hPE _ s' H' f c') (turn H' i hi fun b o q hb => gr b o (up b o q hb))
      · refine ⟨.ref D, H', J, rfl, fin H' D out (fun b o q hb => gr b o (up b o q hb)) ?_ hD' so⟩
        cases q : H1 D with
        | none => rfl
        | some o =>
          by_cases hb : D = P
          · rw [hb] at hD
            rw [hH2, upd_ne (Ne.symm h4), upd_ne (Ne.symm h5), upd_same] at hD
            cases hD
          · rw [up D o q hb] at hD; cases hD
end
end L2
end
/-! LwOi -/
section
set_option Elab.async false
set_option linter.all false
set_option maxRecDepth 100000
set_option maxHeartbeats 4000000
namespace L2
open PySem PySem.Spec PyProof.Rows
open PySem.W (WData Codec OpenSpec Well WellAll ReadsW ReadsAllW)
abbrev BmAt (mg : Str → Option Value) (h : Heap) : Prop := ∃ bm ob, mg "__builtins__" = some (.ref bm) ∧ bm ≠ builtinsNs ∧ bm ≠ mainGlobals ∧ h.get? bm = some ob ∧ ob.cls = .type "module" ∧ ob.dict = some builtinsNs ∧ ob.data = .plain
theorem spec_callT {P : Program} {w : World} {K : PySem.W.Frag} {mg mb : Str → Option Value} {CX : CXT} {k : Nat} {fa : Addr} {fd : FuncData} {ps : List Str} {sp : Sp} {s₁ : Shared} {vals : List Value} {ds : List WData} {R : PySem.W.WRecords} {cl : Str → Option Addr} {d0 : WData} {c T : Addr}
    (KX : K.In s₁.heap) (hns : s₁.heap.Ns mainGlobals mg) (hb : s₁.heap.Ns builtinsNs mb) (hbb : ∀ x : Str, x ≠ "__name__" → mb x = bootBuiltins x) (hlim : s₁.heap.NoLimit) (hg : s₁.gens = #[])
    (hwl : WellAll w.params s₁.heap vals ds) (hpl : plWs ds = true) (hwt : ∀ d ∈ ds, d.weight ≤ 1048576) (hr : Room k callerA)
    (hC : PySem.W.CodeHd s₁.heap c T) (hT : s₁.heap.get? T = some (PySem.W.tabObj #[])) (KT : K.lookup T = none) (hbm : BmAt mg s₁.heap)
    (F : ∀ base : Heap, K.In base → base.Ns mainGlobals mg → PySem.W.CodeHd base c T → BmAt mg base → FnOk P w K mg base CX k fa fd ps sp) (hbind : ∀ (s : Shared) (us : List Value), us.length = ps.length → BindsTo s fd ⟨us, []⟩ (ps.zip us)) (hlen : ds.length = ps.length)
    (hsp : ∀ (H H2 : Hp) (xs : List V), DwAll K H xs ds → Same H H2 → H2 T = some (.tbl #[]) → sp xs H2 (fun v H' => Dw K H' v d0) fun _ _ _ => False)
    (hCX : ∀ H e s', CX [] H s₁ (fun _ _ _ => False) e s' → False) :
    codeAny (model P w) callerA (.call (.ref fa) ⟨vals, []⟩) (fun r s' => ∃ u as, r = .ok (.ret u) ∧ ReadsW R cl s'.heap u d0 as ∧ OldK s₁.heap s'.heap ∧ s'.os = s₁.os ∧ AllBare s'.gens) s₁ := by
  obtain ⟨A, ho, ar⟩ := area_all ds vals hwl hpl hwt
  have hO : OnlyF (argH K s₁.heap A) := argH_only ar
  have hok : HOk P w (argH K s₁.heap A) s₁.heap := argH_ok ar
  have hS := dw_all KX ar ds vals hwl hpl ho
  have hV := vals_toV ho
  have hK : ∀ b u, argH K s₁.heap A b = some u → K.lookup b = none := fun b u q => (argH_is ar q).1
  have noS : ∀ {b : Addr} {o : Obj}, s₁.heap.get? b = some o → (∀ vs n, o.data ≠ .seq vs n) → argH K s₁.heap A b = none := fun {b o} e d => by
    cases q : argH K s₁.heap A b with
    | none => rfl
    | some u =>
      obtain ⟨_, vs, _, _, ⟨e2, _⟩ | ⟨e2, _⟩⟩ := argH_is ar q
      · rw [e2] at e
        cases e
        exact absurd rfl (d _ _)
      · rw [e2] at e
        cases e
        exact absurd rfl (d _ _)
  have hHT : argH K s₁.heap A T = none := noS hT (fun vs n z => by cases z)
  generalize argH K s₁.heap A = H0 at hO hok hS hK noS hHT
  have hsm : Same H0 (upd H0 T (.tbl #[])) := Same.put hHT
  have hok2 : HOk P w (upd H0 T (.tbl #[])) s₁.heap := fun b u q => by
    by_cases hb : b = T
    · subst hb
      rw [upd_same] at q
      cases q
      exact hT
    · rw [upd_ne hb] at q
      exact (hok b u q).stay (fun _ _ _ z => z) (fun x z => by rw [upd_ne (ne_of_none z hHT)]; exact z) fun x xs z => by rw [upd_ne (ne_of_none z hHT)]; exact z
  have hK2 : ∀ b u, upd H0 T (.tbl #[]) b = some u → K.lookup b = none := fun b u q => by
    by_cases hb : b = T
    · rw [hb]; exact KT
    · rw [upd_ne hb] at q
      exact hK b u q
  have noA : ∀ {b : Addr} {o : Obj}, s₁.heap.get? b = some o → (∀ vs n, o.data ≠ .seq vs n) → b ≠ T → upd H0 T (.tbl #[]) b = none := fun {b o} e d hb => by
    rw [upd_ne hb]; exact noS e d
  have base_of : ∀ {b : Addr} {o : Obj}, s₁.heap.get? b = some o → upd H0 T (.tbl #[]) b = none → (hidT s₁.heap (upd H0 T (.tbl #[]))).get? b = some o := fun e n => hidT_get e n
  have nsK : ∀ {b : Addr} {m : Str → Option Value}, s₁.heap.Ns b m → (hidT s₁.heap (upd H0 T (.tbl #[]))).Ns b m := fun {b m} ⟨o, es, ep, e, d, r⟩ => ⟨o, es, ep, base_of e (noA e (fun vs n z => by rw [d] at z; cases z) (fun z => by rw [z, hT] at e; cases e; cases d)), d, r⟩
  have nK : ∀ b o, K.lookup b = some o → upd H0 T (.tbl #[]) b = none := fun b o e => by
    cases q : upd H0 T (.tbl #[]) b with
    | none => rfl
    | some u =>
      rw [hK2 b u q] at e
      cases e
  have hKb : K.In (hidT s₁.heap (upd H0 T (.tbl #[]))) := fun b o e => base_of (KX b o e) (nK b o e)
  have hM : Mod K mg (hidT s₁.heap (upd H0 T (.tbl #[]))) := ⟨hKb, nsK hns, ⟨mb, nsK hb, hbb⟩, let ⟨mc, h1, h2⟩ := hlim; ⟨mc, nsK h1, h2⟩⟩
  have e0 : Env0 P w K mg (hidT s₁.heap (upd H0 T (.tbl #[]))) callerA [] s₁ (upd H0 T (.tbl #[])) := ⟨rfl, hM, fun b o e => of_hidT e, Nat.le_of_eq (hidT_size _ _), trivial, fun b hb => absurd (show b ∈ ([] : List Addr) from hb) (by simp), hok2, .of_eq hg⟩
  have hl : vals.length = ps.length := by rw [wellAll_len hwl]; exact hlen
  have hCb : PySem.W.CodeHd (hidT s₁.heap (upd H0 T (.tbl #[]))) c T := by
    obtain ⟨o, vs, file, tf, flags, tg, inF, text, tt, e, c1, c2, c3, c4, c5, c6, c7, c8, c9⟩ := hC
    exact ⟨o, vs, file, tf, flags, tg, inF, text, tt, base_of e (noA e (fun vs n z => by rw [c2] at z; cases z) c9), c1, c2, c3, c4, c5, c6, c7, c8, c9⟩
  have hBb : BmAt mg (hidT s₁.heap (upd H0 T (.tbl #[]))) := by
    obtain ⟨bm, ob, b1, b2, b3, b4, b5, b6, b7⟩ := hbm
    exact ⟨bm, ob, b1, b2, b3, base_of b4 (noA b4 (fun vs n z => by rw [b7] at z; cases z) (fun z => by rw [z, hT] at b4; cases b4; cases b5)), b5, b6, b7⟩
  refine codeAny_mono ((F _ hKb (nsK hns) hCb hBb).run callerA [] s₁ (upd H0 T (.tbl #[])) ⟨vals, []⟩ vals (vals.map toV) _ _ hr e0 (hbind s₁ vals hl) hV (hsp H0 _ _ hS hsm upd_same)) fun r s' x => ?_
  cases r with
  | error e => exact (hCX _ e s' x).elim
  | ok fl =>
    cases fl with
    | next => exact False.elim x
    | brk => exact False.elim x
    | cont => exact False.elim x
    | ret u =>
      obtain ⟨v, H', os, bare, un, hok', r', q⟩ := x
      have kept : ∀ b o, b ≠ T → s₁.heap.get? b = some o → s'.heap.get? b = some o := fun b o hbT e => by
        cases q2 : upd H0 T (.tbl #[]) b with
        | none => exact un.keep b o e q2 (by intro z; exact absurd (show b ∈ ([] : List Addr) from z) (by simp)) (by simp)
        | some u2 =>
          rw [upd_ne hbT] at q2
          rcases hO b with z | ⟨ob, u3, z⟩
          · rw [q2] at z
            cases z
          · have z2 := un.frzs b ob u3 (by rw [upd_ne hbT]; exact z)
            obtain ⟨e1, _⟩ := hok b _ z
            obtain ⟨e2, _⟩ := hok' b _ z2
            rw [e] at e1
            cases e1
            exact e2
      obtain ⟨more, hm⟩ := un.tbls T #[] upd_same
      have hT' : s'.heap.get? T = some { cls := .none, data := .fields (#[] ++ more) } := hok' T _ hm
      have KX' : K.In s'.heap := fun b o e => kept b o (fun z => by rw [z, KT] at e; cases e) (KX b o e)
      obtain ⟨as, hrd⟩ := Dw.reads (R := R) (cl := cl) hok' KX' d0 v u q r'
      refine ⟨u, as, rfl, hrd, ⟨fun b o e => ?_, fun b o e => ?_⟩, os, bare⟩
      · by_cases hbT : b = T
        · subst hbT
          rw [hT] at e
          cases e
          obtain ⟨oc, vs, file, tf, flags, tg, inF, text, tt, e, c1, c2, c3, _⟩ := hC
          exact .inr (.inl ⟨⟨c, oc, vs, e, c1, c2, c3⟩, rfl, #[], more, rfl, hT'⟩)
        · exact .inl (kept b o hbT e)
      · by_cases hbT : b = T
        · subst hbT; exact ⟨_, hT'⟩
        · exact ⟨o, kept b o hbT e⟩
theorem walk_specT {r : OpenSpec} {k : Nat} {q : Program} {loose : List Str} {XP : (Str → Option Value) → Heap → Prop} {YP : World → Heap → Prop} {d : DefRec} {K : Params → PySem.W.Frag} {CX : CXT} {ps : List Str} {sp : PySem.W.Frag → Addr → Sp}
    (hwell : r.wellSaid = true) (hlen : r.args.length = ps.length) (hr : Room k callerA) (hrec : d ∈ recsOf q) (hnt : ∀ p : Params, PySem.W.noTabs (K p) = true)
    (hY : ∀ (w : World) (h : Heap), YP w h → (K w.params).In h)
    (F : ∀ (w : World) (mg : Str → Option Value) (fa : Addr) (h : Heap), YP w h → (K w.params).In h → h.Ns mainGlobals mg → mg d.name = some (.ref fa) →
      ∃ fd : FuncData, (∃ o, h.get? fa = some o ∧ o.data = .func fd) ∧ (∀ (s : Shared) (us : List Value), us.length = ps.length → BindsTo s fd ⟨us, []⟩ (ps.zip us)) ∧
        ∀ (c T : Addr) (base : Heap), fd.code = .ref c → (K w.params).In base → base.Ns mainGlobals mg → PySem.W.CodeHd base c T → BmAt mg base → FnOk r.prog w (K w.params) mg base CX k fa fd ps (sp (K w.params) T))
    (hsp : ∀ (K : PySem.W.Frag) (H H2 : Hp) (T : Addr) (xs : List V) (a : Codec.denoteAll r.args), Codec.withinAll r.args a = true → Codec.app r.args r.asked a = true → DwAll K H xs (Codec.encAll r.args a) → Same H H2 → H2 T = some (.tbl #[]) →
      sp K T xs H2 (fun v H' => Dw K H' v (r.ret.enc (Codec.app r.args r.f a))) fun _ _ _ => False)
    (hCX : ∀ (H : Hp) (s : Shared) (e : Value) (s' : Shared), CX [] H s (fun _ _ _ => False) e s' → False) :
    PySem.W.WalkOS q loose XP YP r d [] (fun f vs => PySem.call f vs) := by
  intro w s_0 s₁ mg mb G Y fa o pm cd doc dV kV ho hd hcd hD hmg hg args vals as hpre hlay hrd hwl hlo
  obtain ⟨a, e1, e2⟩ := PySem.W.os_pre_some hpre
  obtain ⟨e3, hwi⟩ := Codec.encAll_of_decAll r.args args a e1
  subst e3
  have KX := hY w _ Y
  obtain ⟨fd, ⟨o1, ho1, hd1⟩, hb, hF⟩ := F w mg fa _ Y KX G.T.g hmg
  obtain ⟨a2, o2, fd2, c, T, t1, t2, t3, t4, t5, t6⟩ := G.T.tab d hrec
  rw [hmg] at t1
  cases t1
  rw [ho1] at t2
  cases t2
  rw [hd1] at t3
  cases t3
  have hC := PySem.W.CodeHd.of t5 t6
  have hT := t6.2
  have KT : (K w.params).lookup T = none := by
    cases z : (K w.params).lookup T with
    | none => rfl
    | some o3 =>
      have h1 := KX _ _ z
      rw [hT] at h1
      cases h1
      have h2 := List.all_eq_true.mp (hnt w.params) _ (PySem.W.mem_of_lookupK z)
      exact absurd (show false = true from h2) Bool.false_ne_true
  obtain ⟨bm, ob, b1, b2, b3, b4, b5, b6⟩ := G.T.bmain
  have hbG : bm ≠ mainGlobals := fun z => by
    obtain ⟨o3, es, ep, e, hd3, _⟩ := G.T.g
    rw [z, e] at b3; cases b3; rw [hd3] at b6; cases b6
  refine PySem.W.enter_call (codeAny_mono (spec_callT (R := []) (cl := classAt s_0.heap) (d0 := r.ret.enc (Codec.app r.args r.f a)) KX G.T.g G.T.b G.T.builtins G.T.nolimit hg hwl (pl_encAll _ _) (layable_weight hlay) hr hC hT KT ⟨bm, ob, b1, b2, hbG, b3, b4, b5, b6⟩ (fun base k1 k2 k3 k4 => hF c T base t4 k1 k2 k3 k4) hb (by rw [encAll_len]; exact hlen)
    (fun H H2 xs hS hsm hTt => hsp _ H H2 T xs a hwi e2 hS hsm hTt) fun H e s' => hCX H s₁ e s') fun r' s' hq => ?_)
  obtain ⟨u, as', rfl, h1, h2, h3, h4⟩ := hq
  exact ⟨.inl ⟨u, _, as', rfl, fun _ => rfl, h1, (OpenSpec.post_iff hwell hwi _ _).mpr rfl, fun z => Bool.noConfusion (show false = true from z)⟩, h2, h3, h4⟩
end L2
end
/-! LpOrd -/
section
set_option linter.all false
namespace Lw
open Lp Sf69
def prodD (prs : List (Int × Int)) : Int := prs.foldl (fun m r => m * r.2) 1
def oneDiv (prs : List (Int × Int)) : List Int := prs.map fun r => r.1 * (prodD prs / r.2)
theorem prodD_acc : ∀ (prs : List (Int × Int)) (m : Int), prs.foldl (fun m r => m * r.2) m = m * prodD prs
  | [], m => by simp [prodD]
  | r :: l, m => by
    unfold prodD
    rw [List.foldl_cons, List.foldl_cons, prodD_acc l, prodD_acc l (1 * r.2)]
    rw [Int.one_mul, Int.mul_assoc]
theorem prodD_cons (r : Int × Int) (l : List (Int × Int)) : prodD (r :: l) = r.2 * prodD l := by
  have := prodD_acc l (1 * r.2)
  unfold prodD at *
  rw [List.foldl_cons, this, Int.one_mul]
theorem prodD_pos : ∀ {prs : List (Int × Int)}, (∀ r ∈ prs, 0 < r.2) → 0 < prodD prs
  | [], _ => by simp [prodD]
  | r :: l, h => by
    rw [prodD_cons]
    exact Int.mul_pos (h r (by simp)) (prodD_pos fun x hx => h x (by simp [hx]))
theorem dvd_prodD : ∀ {prs : List (Int × Int)} {r : Int × Int}, r ∈ prs → r.2 ∣ prodD prs
  | x :: l, r, h => by
    rw [prodD_cons]
    rcases List.mem_cons.mp h with rfl | h
    · exact ⟨_, rfl⟩
    · exact Int.dvd_trans (dvd_prodD h) ⟨x.2, by rw [Int.mul_comm]⟩
theorem prodD_le (B : Nat) (hB : 1 ≤ B) : ∀ (prs : List (Int × Int)), (∀ r ∈ prs, r.2.natAbs ≤ B) → (prodD prs).natAbs ≤ B ^ prs.length
  | [], _ => by simp [prodD]
  | r :: l, h => by
    rw [prodD_cons, Int.natAbs_mul, List.length_cons, Nat.pow_succ, Nat.mul_comm]
    exact Nat.mul_le_mul (prodD_le B hB l fun x hx => h x (by simp [hx])) (h r (by simp))
/-- a size is the rate by the divisor -/
theorem size_eq {prs : List (Int × Int)} (hp : ∀ r ∈ prs, 0 < r.2) {r : Int × Int} (hr : r ∈ prs) : ((r.1 * (prodD prs / r.2) : Int) : Rat) = ((r.1 : Int) : Rat) / ((r.2 : Int) : Rat) * ((prodD prs : Int) : Rat) := by
  obtain ⟨q, hq⟩ := dvd_prodD hr
  have r0 := hp r hr
  have rp := rat_pos r0
  have rne : ((r.2 : Int) : Rat) ≠ 0 := fun z => by rw [z] at rp; exact absurd rp (by decide)
  rw [hq, Int.mul_ediv_cancel_left _ (by omega), Rat.intCast_mul, Rat.intCast_mul]
  grind
theorem perm_eq {A : Type} {R : A → A → Prop} : ∀ {l1 l2 : List A}, l1.Perm l2 → l1.Pairwise R → l2.Pairwise R → (∀ x ∈ l1, ∀ y ∈ l1, R x y → R y x → x = y) → l1 = l2
  | [], l2, h, _, _, _ => by rw [List.nil_perm] at h; exact h.symm
  | a :: t, [], h, _, _, _ => by have := h.length_eq; simp at this
  | a :: t, b :: u, h, h1, h2, ha => by
    rw [List.pairwise_cons] at h1 h2
    have mb : b ∈ a :: t := h.mem_iff.mpr (by simp)
    have ma : a ∈ b :: u := h.mem_iff.mp (by simp)
    have e : a = b := by
      rcases List.mem_cons.mp ma with e | ma'
      · exact e
      · rcases List.mem_cons.mp mb with e | mb'
        · exact e.symm
        · exact ha a (by simp) b mb (h1.1 b mb') (h2.1 a ma')
    subst e
    rw [perm_eq h.cons_inv h1.2 h2.2 fun x hx y hy => ha x (by simp [hx]) y (by simp [hy])]
/-- **order** -/
theorem order_eq {b : Int} {ss : List Int} {rs : List (List Int)} {prs : List (Int × Int)} (hl : prs.length = rs.length / 2) (hp : ∀ r ∈ prs, 0 < r.2)
    (his : ∀ i, i < rs.length / 2 → (((prs.getD i (0, 0)).1 : Int) : Rat) / (((prs.getD i (0, 0)).2 : Int) : Rat) = Sf95.rateOf b.toNat (mach rs) (ss.map Int.toNat) i) {out : List Int}
    (h1 : out.Perm ((List.range (rs.length / 2)).map fun i => ((i : Nat) : Int)))
    (h2 : out.Pairwise fun x y => ¬ (-(oneDiv prs).getD y.toNat 0 < -(oneDiv prs).getD x.toNat 0 ∨ (-(oneDiv prs).getD y.toNat 0 = -(oneDiv prs).getD x.toNat 0 ∧ ((y.toNat : Nat) : Int) < ((x.toNat : Nat) : Int)))) :
    out = (Sf95.ordered b.toNat (mach rs) (ss.map Int.toNat)).map fun (i : Nat) => (i : Int) := by
  have D0 := rat_pos (prodD_pos hp)
  have hs : ∀ i, i < rs.length / 2 → (((oneDiv prs).getD i 0 : Int) : Rat) = Sf95.rateOf b.toNat (mach rs) (ss.map Int.toNat) i * ((prodD prs : Int) : Rat) := fun i hi => by
    have hm : prs.getD i (0, 0) ∈ prs := getD_mem (by omega)
    have e : (oneDiv prs).getD i 0 = (prs.getD i (0, 0)).1 * (prodD prs / (prs.getD i (0, 0)).2) := by
      unfold oneDiv
      rw [List.getD_eq_getElem?_getD, List.getElem?_map, List.getD_eq_getElem?_getD, List.getElem?_eq_getElem (show i < prs.length by omega)]; rfl
    rw [e, size_eq hp hm, his i hi]
  have lt_iff : ∀ i j, i < rs.length / 2 → j < rs.length / 2 → ((oneDiv prs).getD i 0 < (oneDiv prs).getD j 0 ↔ Sf95.rateOf b.toNat (mach rs) (ss.map Int.toNat) i < Sf95.rateOf b.toNat (mach rs) (ss.map Int.toNat) j) := fun i j hi hj => by
    have : (oneDiv prs).getD i 0 < (oneDiv prs).getD j 0 ↔ (((oneDiv prs).getD i 0 : Int) : Rat) < (((oneDiv prs).getD j 0 : Int) : Rat) := Rat.intCast_lt_intCast.symm
    rw [this, hs i hi, hs j hj]
    exact Rat.mul_lt_mul_right D0
  refine perm_eq (R := fun x y : Int => ¬ (-(oneDiv prs).getD y.toNat 0 < -(oneDiv prs).getD x.toNat 0 ∨ (-(oneDiv prs).getD y.toNat 0 = -(oneDiv prs).getD x.toNat 0 ∧ ((y.toNat : Nat) : Int) < ((x.toNat : Nat) : Int)))) ?_ h2 ?_ ?_
  · refine h1.trans (List.Perm.map _ ?_)
    unfold Sf95.ordered
    rw [mach_length]
    exact (List.mergeSort_perm _ _).symm
  · rw [List.pairwise_map]
    have pw := ordered_pairwise b.toNat (mach rs) (ss.map Int.toNat)
    refine List.Pairwise.imp_of_mem (fun {i j} hi hj h => ?_) pw
    have hi' : i < rs.length / 2 := by
      unfold Sf95.ordered at hi
      rw [List.mem_mergeSort, List.mem_range, mach_length] at hi; exact hi
    have hj' : j < rs.length / 2 := by
      unfold Sf95.ordered at hj
      rw [List.mem_mergeSort, List.mem_range, mach_length] at hj; exact hj
    rw [Int.toNat_natCast, Int.toNat_natCast]
    rw [Bool.or_eq_true, decide_eq_true_eq, Bool.and_eq_true, beq_iff_eq, decide_eq_true_eq] at h
    have l1 := lt_iff i j hi' hj'
    have l2 := lt_iff j i hj' hi'
    rintro (z | ⟨z1, z2⟩)
    · have z' : (oneDiv prs).getD i 0 < (oneDiv prs).getD j 0 := by omega
      have := l1.mp z'
      rcases h with h | ⟨h, _⟩
      · grind
      · grind
    · rcases h with h | ⟨_, h⟩
      · have := l2.mpr h
        omega
      · omega
  · intro x hx y hy r1 r2
    have hx' := h1.mem_iff.mp hx
    have hy' := h1.mem_iff.mp hy
    obtain ⟨i, _, rfl⟩ := List.mem_map.mp hx'
    obtain ⟨j, _, rfl⟩ := List.mem_map.mp hy'
    rw [Int.toNat_natCast, Int.toNat_natCast] at r1 r2
    omega
end Lw
end
/-! LwOr_s05_order -/
section
set_option Elab.async false
set_option linter.all false
set_option maxRecDepth 100000
set_option maxHeartbeats 4000000
namespace Lw
open L2 PySem PySem.Spec PyProof.Rows
abbrev sOverOneDivisor : Stmt := top 27
abbrev sOrder : Stmt := top 8
section
variable {P : Program} {w : World} {K : PySem.W.Frag} {mg : Str → Option Value} {base : Heap}
def spOneDivisor (K : PySem.W.Frag) : Sp := fun vs H Q _ => ∃ (l : Addr) (prs : List (Int × Int)), vs = [.ref l] ∧ LO K (PR K) H l prs ∧ prs.length ≤ 3 ∧ (∀ r ∈ prs, 0 < r.2 ∧ r.1.natAbs < 2 ^ 810 ∧ r.2.natAbs < 2 ^ 810) ∧
  ∀ (H' : Hp) (p : Addr), Same H H' → H p = none → H' p = some (.lst ((oneDiv prs).map V.int)) → Q (.ref p) H'
theorem prodD_small {prs : List (Int × Int)} (hl : prs.length ≤ 3) (h : ∀ r ∈ prs, r.2.natAbs < 2 ^ 810) : (prodD prs).natAbs < 2 ^ 3000 := by
  have h1 := prodD_le (2 ^ 810) (by decide +kernel) prs fun r hr => Nat.le_of_lt (h r hr)
  exact Nat.lt_of_le_of_lt h1 (Nat.lt_of_le_of_lt (Nat.pow_le_pow_right (by decide +kernel) hl) (show (2 ^ 810) ^ 3 < 2 ^ 3000 by decide +kernel))
theorem small3000 {x : Int} (h : x.natAbs < 2 ^ 3000) : Small x := Nat.lt_trans h (by decide +kernel)
theorem small810' {x : Int} (h : x.natAbs < 2 ^ 810) : Small x := Nat.lt_trans h (by decide +kernel)
theorem scOneDivisor : FnScope ["rates", "common", "found"] ["rates"] (defScope sOverOneDivisor) := ⟨rfl, rfl, rfl, by decide +kernel, rfl, by decide +kernel, by decide +kernel⟩
theorem ok_one_divisor {f : Addr} {fd : FuncData} (F : Fun K "over_one_divisor" "over_one_divisor" sOverOneDivisor f fd) (T : Txt mg) : FnOk P w K mg base CX0 1 f fd ["rates"] (spOneDivisor K) := by
  refine F.ok scOneDivisor (fun vs H Q E h => ?_) (fun cdv A outer s H vs Q E hr h => ?_)
  · obtain ⟨l, prs, rfl, _⟩ := h
    rfl
  · obtain ⟨l, prs, rfl, ⟨ts, hS, hP⟩, few, hb, kk⟩ := h
    refine ⟨_, pss_cons (ps_set (i := 1) scOneDivisor.nd rfl (Or.inr rfl) pe_int)
      (pss_cons (ps_for PassesOwn.never rfl (pi_list (pv 0)) (pg_name (i := 2) scOneDivisor.nd rfl (Or.inl rfl))
        (pss_one (ps_set (i := 1) scOneDivisor.nd rfl (Or.inr rfl) (pe_op op_mulB (pv 1) (pe_ix (ix_tupK (K := K)) (pv 2) pe_int (fun _ _ => rfl))))))
      (pss_one (ps_ret (pe_lc rfl scOneDivisor.nd (pi_list (pv 0)) (own := [("found", 2)]) (blkOk_by (show blkC ["rates", "common", "found"] (defScope sOverOneDivisor) _ _ = true by decide +kernel))
        (fun _ _ _ _ _ => pg_name (i := 2) scOneDivisor.nd rfl (Or.inl rfl)) (fun _ _ _ _ _ => pts_nil)
        (fun _ _ _ _ _ => pe_op op_mulB (pe_ix (ix_tupK (K := K)) (pv 2) pe_int (fun _ _ => rfl)) (pe_op op_fdivB (pv 1) (pe_ix (ix_tupK (K := K)) (pv 2) pe_int (fun _ _ => rfl)))))))), ?_⟩
    have htl := pair_len hP
    refine ⟨_, rfl, l, rfl, ⟨_, hS⟩, for_list (K := K) (a := l) (xs := ts.map V.ref) (fun j σ H' => ∃ v2 : Option V, σ = [some (.ref l), some (.int (prodD (prs.take j))), v2] ∧ H' = H)
      ⟨none, rfl, rfl⟩ (fun j σ H' _ ⟨_, _, e⟩ => by rw [e]; exact hS) ?_ ?_⟩
    · rintro j x σ H1 hx ⟨v2, rfl, rfl⟩
      obtain ⟨q, hq, rfl⟩ := map_at hx
      have hj : j < prs.length := by rw [← htl]; exact (List.getElem?_eq_some_iff.mp hq).1
      obtain ⟨q', hq', ht⟩ := pair_get hP (List.getElem?_eq_getElem hj)
      rw [hq] at hq'
      cases hq'
      have hbj := hb _ (List.getElem_mem hj)
      have tk : prodD (prs.take (j + 1)) = prodD (prs.take j) * prs[j].2 := by
        unfold prodD
        rw [List.take_add_one, List.getElem?_eq_getElem hj, List.foldl_append]; rfl
      have hsm : Small (prodD (prs.take j)) := small3000 (prodD_small (by rw [List.length_take]; omega) fun r hr => (hb r (List.mem_of_mem_take hr)).2.2)
      generalize prs[j] = r at *
      refine ⟨_, rfl, _, rfl, q, _, _, .int r.2, rfl, rfl, ht, at_of (j := 1) rfl rfl, _, _, rfl, rfl, ⟨hsm, small810' hbj.2.2⟩, some (.ref q), ?_, rfl⟩
      rw [tk]
      rfl
    · rintro σ H1 ⟨v2, rfl, rfl⟩
      rw [List.length_map, htl, List.take_length]
      have pos := prodD_pos fun r hr => (hb r hr).1
      have psm := prodD_small few fun r hr => (hb r hr).2.2
      refine ⟨_, rfl, l, rfl, ⟨_, hS⟩, fun D hD => ?_⟩
      refine lc_list (K := K) (a := l) (xs := ts.map V.ref) (fun i H' => Same H1 H' ∧ H' D = some (.lst (((oneDiv prs).take i).map V.int))) ⟨Same.put hD, upd_same⟩ (fun i H' _ ⟨s2, _⟩ => s2.seq hS) ?_ ?_
      · rintro i x H2 hx ⟨s2, h2⟩
        obtain ⟨q, hq, rfl⟩ := map_at hx
        have hi : i < prs.length := by rw [← htl]; exact (List.getElem?_eq_some_iff.mp hq).1
        obtain ⟨q', hq', ht⟩ := pair_get hP (List.getElem?_eq_getElem hi)
        rw [hq] at hq'
        cases hq'
        have hbi := hb _ (List.getElem_mem hi)
        have tk : (oneDiv prs).take (i + 1) = (oneDiv prs).take i ++ [prs[i].1 * (prodD prs / prs[i].2)] := by
          unfold oneDiv
          rw [List.take_add_one, List.getElem?_map, List.getElem?_eq_getElem hi]; rfl
        have hds : Small (prodD prs / prs[i].2) := by
          obtain ⟨q, hq⟩ := dvd_prodD (List.getElem_mem hi)
          rw [hq, Int.mul_ediv_cancel_left _ (by omega)]
          refine small3000 (Nat.lt_of_le_of_lt ?_ psm)
          rw [hq, Int.natAbs_mul]
          exact Nat.le_mul_of_pos_left _ (by omega)
        generalize prs[i] = r at *
        refine ⟨rfl, tyes ?_⟩
        refine ⟨_, rfl, q, _, _, .int r.1, rfl, rfl, s2.tup ht, at_of (j := 0) rfl rfl, _, rfl, _, rfl, q, _, _, .int r.2, rfl, rfl, s2.tup ht, at_of (j := 1) rfl rfl, _, _, rfl, rfl, ⟨hbi.1, small810' hbi.2.2⟩, _, _, rfl, rfl, ⟨small810' hbi.2.1, hds⟩, _, h2, ?_, s2.put2 hD, ?_⟩
        · rw [List.length_map, List.length_take]; exact Nat.lt_of_le_of_lt (Nat.min_le_left _ _) (small1000 (by omega))
        · rw [upd_same, tk, List.map_append]; rfl
      · rintro H2 ⟨s2, h2⟩
        rw [List.take_of_length_le (by unfold oneDiv; rw [List.length_map, List.length_map]; omega)] at h2
        exact kk H2 D s2 hD h2
def spOrder (K : PySem.W.Frag) (Tb : Addr) : Sp := fun vs H Q _ => ∃ (a m : Addr) (b : Int) (ss : List Int) (rs : List (List Int)), vs = [.int b, .ref a, .ref m] ∧ IL K H a ss ∧ Rows K H m rs ∧ Askd ss rs ∧ H Tb = some (.tbl #[]) ∧
  ∀ (H' : Hp) (p : Addr), H' p = some (.lst ((PySf95.order b ss rs).map V.int)) → Q (.ref p) H'
theorem scOrder : FnScope ["b", "states", "machines", "sizes"] ["b", "states", "machines"] (defScope sOrder) := ⟨rfl, rfl, rfl, by decide +kernel, rfl, by decide +kernel, by decide +kernel⟩
theorem free_one {l : List (Str × NameKind)} {y z : Str} (h : ∀ p ∈ l, (p.2 = .cell ∨ p.2 = .free) → p.1 = y) (hz : l.lookup z = some .cell ∨ l.lookup z = some .free) : z = y := by
  rcases hz with hz | hz
  · exact h _ (PySem.mem_of_lookup hz) (.inl rfl)
  · exact h _ (PySem.mem_of_lookup hz) (.inr rfl)
theorem ok_order {f fR fO fA c Tb : Addr} {fdR fdO fdA : FuncData} {oc kV doc pm ct : Value} {od an : Option Addr} {osl : Array (Option Value)}
    (lk : K.lookup f = some ⟨oc, od, .func (PySem.W.fnOf "order" "order" (defArgs sOrder) (defBody sOrder) (defScope sOrder) .none kV doc pm an (.ref c) ct), osl⟩) (hcd : PySem.W.codeIn K (.ref c) "order" = true)
    (hCb : PySem.W.CodeHd base c Tb) (hBm : BmAt mg base) (T : Txt mg) (TD : ∃ u, mg "DONE" = some u ∧ RelV (.int 0) u) (TO : mg "sorted" = none)
    (R : Cal P w K mg base "is_refused" ["b", "states", "machines"] 3 (spIsRefused K) fR fdR) (O : Cal P w K mg base "over_one_divisor" ["rates"] 1 (spOneDivisor K) fO fdO)
    (A : Cal P w K mg base "all_rates" ["b", "states", "machines"] 6 (spAllRates K) fA fdA) :
    FnOk P w K mg base CX0 7 f (PySem.W.fnOf "order" "order" (defArgs sOrder) (defBody sOrder) (defScope sOrder) .none kV doc pm an (.ref c) ct) ["b", "states", "machines"] (spOrder K Tb) := by
  refine fn_of (k := 6) lk hcd scOrder (fun vs H Q E h => ?_) (fun A' outer s H vs Q E hr h => ?_)
  · obtain ⟨a, m, b, ss, rs, rfl, _⟩ := h
    rfl
  · obtain ⟨a, m, b, ss, rs, rfl, ha, hm, G, hTb, kk⟩ := h
    obtain ⟨u1, m1, r1⟩ := T.refused
    obtain ⟨u2, m2, r2⟩ := TD
    have hr3 : Room 3 _ := hr.mono (by decide)
    have hr1 : Room 1 _ := hr.mono (by decide)
    obtain ⟨bm, ob, b1, b2, b3, b4, b5, b6, b7⟩ := hBm
    refine ⟨_, pss_cons (ps_if (pt_val (pe_call R.ok hr3 rfl R.m R.kp R.b .nil pass0 (pa_cons (pv 0) (pa_cons (pv 1) (pa_cons (pv 2) pa_nil))))) (pss_one (ps_ret (pe_lst (pa_cons (pe_glob (by rfl) m1 r1) pa_nil)))) pss_nil)
      (pss_cons (ps_set (i := 3) scOrder.nd rfl (Or.inr rfl) (pe_call O.ok hr1 rfl O.m O.kp O.b .nil pass0 (pa_cons (pe_call A.ok hr rfl A.m A.kp A.b .nil pass0 (pa_cons (pv 0) (pa_cons (pv 1) (pa_cons (pv 2) pa_nil)))) pa_nil)))
      (pss_one (ps_ret (pe_op op_cat (pe_lst (pa_cons (pe_glob (by rfl) m2 r2) pa_nil))
        (pe_sorted_by (P := Tb) (c0 := c) (x := "i") (y := "sizes") (c := s.heap.objs.size + 1) (iy := 3) hr rfl TO (pa_cons (pe_callTy cr_range (by rfl) T.range boot_range (pa_cons (pe_callB (call_lenK (K := K)) (by rfl) T.len PySem.boot_len (pa_cons (pv 3) pa_nil)) pa_nil)) pa_nil)
          ⟨rfl, hCb, bm, ob, b1, b2, b3, b4, b5, b6, b7⟩ rfl rfl rfl rfl rfl (fun _ _ _ _ => rfl) rfl rfl rfl (by decide +kernel) rfl rfl (fun z hz => free_one (by decide +kernel) hz)
          (fun _ _ _ _ _ => pe_tup (pa_cons (pe_un un_neg (pe_ix (ix_listK (K := K)) (pv 1) (pv 0) (fun _ _ => rfl))) (pa_cons (pv 0) pa_nil)))))))), ?_⟩
    have two := G.two
    have four := G.four
    refine ⟨_, rfl, _, rfl, _, rfl, a, m, b, ss, rs, rfl, ha, hm, by omega, fun r hr => by have := G.rows r hr; omega, fun H1 s1 => ⟨_, rfl, ite2 (fun cc => ?_) fun cc => ?_⟩⟩
    · refine ⟨by show 1 ≤ sizeLine; decide, fun p hp => kk _ p ?_⟩
      rw [upd_same, order_due G, if_pos cc]
      rfl
    · have Fi := (refB_iff b ss rs).mp (by simpa using cc)
      have few := Fi.few
      refine ⟨_, rfl, _, rfl, _, rfl, a, m, b, ss, rs, rfl, s1.seq ha, Rows.mono _ _ _ _ s1 hm, Fi, fun H2 l prs s2 hL hpl hR => ?_⟩
      have hpos : ∀ r ∈ prs, 0 < r.2 ∧ r.1.natAbs < 2 ^ 810 ∧ r.2.natAbs < 2 ^ 810 := fun r hr => by
        obtain ⟨i, hi, rfl⟩ := List.mem_iff_getElem.mp hr
        have := hR i (by omega)
        rw [← getD_elem (d := (0, 0)) hi] at this
        exact ⟨this.pos, this.sx, this.sd⟩
      refine ⟨l, prs, rfl, hL, by omega, hpos, fun H3 z s3 hz hz3 => ?_⟩
      have s4 := (s1.trans s2).trans s3
      refine ⟨by show 1 ≤ sizeLine; decide, fun l0 hl0 => ?_⟩
      have s5 : Same H3 (upd H3 l0 (.lst [.int 0])) := Same.put hl0
      have hz5 := s5 _ _ hz3
      have ho : (oneDiv prs).length = rs.length / 2 := by unfold oneDiv; rw [List.length_map, hpl]
      refine ⟨_, rfl, z, _, rfl, .inl (SqL.of hz5), _, rfl, fun r hr0 => ?_⟩
      have s6 := Same.put (o := .rng 0 (((oneDiv prs).map V.int).length : Nat)) hr0
      have hz6 := s6 _ _ hz5
      have hT6 := s6 _ _ (s5 _ _ (s4 _ _ hTb))
      have nzT : z ≠ Tb := ne_of hz6 hT6 (by intro q; cases q)
      have hl6 := s6 _ _ (upd_same (H := H3) (a := l0) (o := .lst [.int 0]))
      have nlT : l0 ≠ Tb := ne_of hl6 hT6 (by intro q; cases q)
      refine ⟨r, z, rs.length / 2, fun i => (-(oneDiv prs).getD i 0, (i : Int)), rfl, ?_, by omega, hT6, rfl, fun H' i hi gr => ?_, fun H' D out gr hD hD' so => ?_⟩
      · rw [upd_same, List.length_map, ho]
      · refine ⟨_, rfl, _, rfl, z, _, _, .int ((oneDiv prs).getD i 0), rfl, rfl, SqL.of (gr _ _ hz6 nzT), atI_map V.int (getD_some (by omega)), _, rfl, _, rfl, by show 2 ≤ sizeLine; decide, fun p hp => ⟨p, rfl, hp, rfl⟩⟩
      · have hol : out.length = rs.length / 2 := by rw [so.1.length_eq, List.length_map, List.length_range]
        refine ⟨l0, D, _, _, rfl, rfl, gr _ _ hl6 nlT, hD', ?_, fun p hp => kk _ p ?_⟩
        · rw [List.length_map]; exact Nat.le_of_lt (small1000 (show 1 + out.length ≤ 1000 by omega))
        rw [upd_same, order_due G, if_neg cc]
        have e := order_eq (b := b) (ss := ss) (rs := rs) hpl (fun r hr => (hpos r hr).1) (fun i hi => (hR i hi).is) so.1 so.2
        rw [← e]
        rfl
end
end Lw
end
/-! LwTop_s05_order -/
section
set_option Elab.async false
set_option linter.all false
set_option maxRecDepth 100000
set_option maxHeartbeats 4000000
namespace Lw
open L2 PySem PySem.Spec PyProof.Rows
open PySem.W (WData)
theorem rows_dw {K : PySem.W.Frag} {H : Hp} : ∀ (rs : List (List Int)) (xs : List V), DwAll K H xs (rs.map fun r => WData.list (r.map WData.int)) → ∃ as : List Addr, xs = as.map V.ref ∧ Paired (IL K H) as rs
  | [], xs, h => by
    cases h
    exact ⟨[], rfl, .nil⟩
  | r :: rs, xs, h => by
    cases h with
    | cons h1 h2 =>
      obtain ⟨as, e, hP⟩ := rows_dw rs _ h2
      cases h1 with
      | @lst a ys _ hs ha =>
        have e2 := ints_dw r _ ha
        subst e2
        exact ⟨a :: as, by rw [e]; rfl, .cons hs hP⟩
theorem all_mk {P : Program} {w : World} {K : PySem.W.Frag} {h : Heap} {mg : Str → Option Value} {fa : Addr} (X : K.In h) (G : h.Ns mainGlobals mg) (hfa : mg "order" = some (.ref fa))
    (n_range : PySem.W.nsIn K mainGlobals "range" = some none)
    (n_len : PySem.W.nsIn K mainGlobals "len" = some none)
    (n_sum : PySem.W.nsIn K mainGlobals "sum" = some none)
    (n_any : PySem.W.nsIn K mainGlobals "any" = some none)
    (n_min : PySem.W.nsIn K mainGlobals "min" = some none)
    (n_max : PySem.W.nsIn K mainGlobals "max" = some none)
    (n_zip : PySem.W.nsIn K mainGlobals "zip" = some none)
    (n_enumerate : PySem.W.nsIn K mainGlobals "enumerate" = some none)
    (n_list : PySem.W.nsIn K mainGlobals "list" = some none)
    (n_sorted : PySem.W.nsIn K mainGlobals "sorted" = some none)
    {t_refused : Tok} (c_refused : PySem.W.nsIn K mainGlobals "REFUSED" = some (some (.int (-1) t_refused)))
    {t_hundred : Tok} (c_hundred : PySem.W.nsIn K mainGlobals "HUNDRED" = some (some (.int (100) t_hundred)))
    {t_machines : Tok} (c_machines : PySem.W.nsIn K mainGlobals "MOST_MACHINES" = some (some (.int (3) t_machines)))
    {t_states : Tok} (c_states : PySem.W.nsIn K mainGlobals "MOST_STATES" = some (some (.int (4) t_states)))
    {t_gain : Tok} (c_gain : PySem.W.nsIn K mainGlobals "MOST_GAIN" = some (some (.int (1000) t_gain)))
    {t_weight : Tok} (c_weight : PySem.W.nsIn K mainGlobals "MOST_WEIGHT" = some (some (.int (100) t_weight)))
    {t_TD : Tok} (c_TD : PySem.W.nsIn K mainGlobals "DONE" = some (some (.int (0) t_TD)))
    {f0 : Addr} {oc0 kV0 dc0 pm0 cd0 ct0 : Value} {od0 an0 : Option Addr} {sl0 : Array (Option Value)}
    (a0 : PySem.W.nsIn K mainGlobals "weight_row" = some (some (.ref f0))) (l0 : K.lookup f0 = some ⟨oc0, od0, .func (PySem.W.fnOf "weight_row" "weight_row" (defArgs sWeightRow) (defBody sWeightRow) (defScope sWeightRow) .none kV0 dc0 pm0 an0 cd0 ct0), sl0⟩) (c0 : PySem.W.codeIn K cd0 "weight_row" = true) (k0 : PySem.W.keepIn K (.ref f0) = true)
    {f1 : Addr} {oc1 kV1 dc1 pm1 cd1 ct1 : Value} {od1 an1 : Option Addr} {sl1 : Array (Option Value)}
    (a1 : PySem.W.nsIn K mainGlobals "is_bad_machine" = some (some (.ref f1))) (l1 : K.lookup f1 = some ⟨oc1, od1, .func (PySem.W.fnOf "is_bad_machine" "is_bad_machine" (defArgs sIsBadMachine) (defBody sIsBadMachine) (defScope sIsBadMachine) .none kV1 dc1 pm1 an1 cd1 ct1), sl1⟩) (c1 : PySem.W.codeIn K cd1 "is_bad_machine" = true) (k1 : PySem.W.keepIn K (.ref f1) = true)
    {f2 : Addr} {oc2 kV2 dc2 pm2 cd2 ct2 : Value} {od2 an2 : Option Addr} {sl2 : Array (Option Value)}
    (a2 : PySem.W.nsIn K mainGlobals "is_refused" = some (some (.ref f2))) (l2 : K.lookup f2 = some ⟨oc2, od2, .func (PySem.W.fnOf "is_refused" "is_refused" (defArgs sIsRefused) (defBody sIsRefused) (defScope sIsRefused) .none kV2 dc2 pm2 an2 cd2 ct2), sl2⟩) (c2 : PySem.W.codeIn K cd2 "is_refused" = true) (k2 : PySem.W.keepIn K (.ref f2) = true)
    {f3 : Addr} {oc3 kV3 dc3 pm3 cd3 ct3 : Value} {od3 an3 : Option Addr} {sl3 : Array (Option Value)}
    (a3 : PySem.W.nsIn K mainGlobals "over_one_divisor" = some (some (.ref f3))) (l3 : K.lookup f3 = some ⟨oc3, od3, .func (PySem.W.fnOf "over_one_divisor" "over_one_divisor" (defArgs sOverOneDivisor) (defBody sOverOneDivisor) (defScope sOverOneDivisor) .none kV3 dc3 pm3 an3 cd3 ct3), sl3⟩) (c3 : PySem.W.codeIn K cd3 "over_one_divisor" = true) (k3 : PySem.W.keepIn K (.ref f3) = true)
    {f4 : Addr} {oc4 kV4 dc4 pm4 cd4 ct4 : Value} {od4 an4 : Option Addr} {sl4 : Array (Option Value)}
    (a4 : PySem.W.nsIn K mainGlobals "state_counts" = some (some (.ref f4))) (l4 : K.lookup f4 = some ⟨oc4, od4, .func (PySem.W.fnOf "state_counts" "state_counts" (defArgs sStateCounts) (defBody sStateCounts) (defScope sStateCounts) .none kV4 dc4 pm4 an4 cd4 ct4), sl4⟩) (c4 : PySem.W.codeIn K cd4 "state_counts" = true) (k4 : PySem.W.keepIn K (.ref f4) = true)
    {f5 : Addr} {oc5 kV5 dc5 pm5 cd5 ct5 : Value} {od5 an5 : Option Addr} {sl5 : Array (Option Value)}
    (a5 : PySem.W.nsIn K mainGlobals "joint_states" = some (some (.ref f5))) (l5 : K.lookup f5 = some ⟨oc5, od5, .func (PySem.W.fnOf "joint_states" "joint_states" (defArgs sJointStates) (defBody sJointStates) (defScope sJointStates) .none kV5 dc5 pm5 an5 cd5 ct5), sl5⟩) (c5 : PySem.W.codeIn K cd5 "joint_states" = true) (k5 : PySem.W.keepIn K (.ref f5) = true)
    {f6 : Addr} {oc6 kV6 dc6 pm6 cd6 ct6 : Value} {od6 an6 : Option Addr} {sl6 : Array (Option Value)}
    (a6 : PySem.W.nsIn K mainGlobals "joint_number" = some (some (.ref f6))) (l6 : K.lookup f6 = some ⟨oc6, od6, .func (PySem.W.fnOf "joint_number" "joint_number" (defArgs sJointNumber) (defBody sJointNumber) (defScope sJointNumber) .none kV6 dc6 pm6 an6 cd6 ct6), sl6⟩) (c6 : PySem.W.codeIn K cd6 "joint_number" = true) (k6 : PySem.W.keepIn K (.ref f6) = true)
    {f7 : Addr} {oc7 kV7 dc7 pm7 cd7 ct7 : Value} {od7 an7 : Option Addr} {sl7 : Array (Option Value)}
    (a7 : PySem.W.nsIn K mainGlobals "pull_of" = some (some (.ref f7))) (l7 : K.lookup f7 = some ⟨oc7, od7, .func (PySem.W.fnOf "pull_of" "pull_of" (defArgs sPullOf) (defBody sPullOf) (defScope sPullOf) .none kV7 dc7 pm7 an7 cd7 ct7), sl7⟩) (c7 : PySem.W.codeIn K cd7 "pull_of" = true) (k7 : PySem.W.keepIn K (.ref f7) = true)
    {f8 : Addr} {oc8 kV8 dc8 pm8 cd8 ct8 : Value} {od8 an8 : Option Addr} {sl8 : Array (Option Value)}
    (a8 : PySem.W.nsIn K mainGlobals "all_pulls" = some (some (.ref f8))) (l8 : K.lookup f8 = some ⟨oc8, od8, .func (PySem.W.fnOf "all_pulls" "all_pulls" (defArgs sAllPulls) (defBody sAllPulls) (defScope sAllPulls) .none kV8 dc8 pm8 an8 cd8 ct8), sl8⟩) (c8 : PySem.W.codeIn K cd8 "all_pulls" = true) (k8 : PySem.W.keepIn K (.ref f8) = true)
    {f9 : Addr} {oc9 kV9 dc9 pm9 cd9 ct9 : Value} {od9 an9 : Option Addr} {sl9 : Array (Option Value)}
    (a9 : PySem.W.nsIn K mainGlobals "equation" = some (some (.ref f9))) (l9 : K.lookup f9 = some ⟨oc9, od9, .func (PySem.W.fnOf "equation" "equation" (defArgs sEquation) (defBody sEquation) (defScope sEquation) .none kV9 dc9 pm9 an9 cd9 ct9), sl9⟩) (c9 : PySem.W.codeIn K cd9 "equation" = true) (k9 : PySem.W.keepIn K (.ref f9) = true)
    {f10 : Addr} {oc10 kV10 dc10 pm10 cd10 ct10 : Value} {od10 an10 : Option Addr} {sl10 : Array (Option Value)}
    (a10 : PySem.W.nsIn K mainGlobals "reduced_row" = some (some (.ref f10))) (l10 : K.lookup f10 = some ⟨oc10, od10, .func (PySem.W.fnOf "reduced_row" "reduced_row" (defArgs sReducedRow) (defBody sReducedRow) (defScope sReducedRow) .none kV10 dc10 pm10 an10 cd10 ct10), sl10⟩) (c10 : PySem.W.codeIn K cd10 "reduced_row" = true) (k10 : PySem.W.keepIn K (.ref f10) = true)
    {f11 : Addr} {oc11 kV11 dc11 pm11 cd11 ct11 : Value} {od11 an11 : Option Addr} {sl11 : Array (Option Value)}
    (a11 : PySem.W.nsIn K mainGlobals "solve" = some (some (.ref f11))) (l11 : K.lookup f11 = some ⟨oc11, od11, .func (PySem.W.fnOf "solve" "solve" (defArgs sSolve) (defBody sSolve) (defScope sSolve) .none kV11 dc11 pm11 an11 cd11 ct11), sl11⟩) (c11 : PySem.W.codeIn K cd11 "solve" = true) (k11 : PySem.W.keepIn K (.ref f11) = true)
    {f12 : Addr} {oc12 kV12 dc12 pm12 cd12 ct12 : Value} {od12 an12 : Option Addr} {sl12 : Array (Option Value)}
    (a12 : PySem.W.nsIn K mainGlobals "worths_of_choices" = some (some (.ref f12))) (l12 : K.lookup f12 = some ⟨oc12, od12, .func (PySem.W.fnOf "worths_of_choices" "worths_of_choices" (defArgs sWorthsOfChoices) (defBody sWorthsOfChoices) (defScope sWorthsOfChoices) .none kV12 dc12 pm12 an12 cd12 ct12), sl12⟩) (c12 : PySem.W.codeIn K cd12 "worths_of_choices" = true) (k12 : PySem.W.keepIn K (.ref f12) = true)
    {f13 : Addr} {oc13 kV13 dc13 pm13 cd13 ct13 : Value} {od13 an13 : Option Addr} {sl13 : Array (Option Value)}
    (a13 : PySem.W.nsIn K mainGlobals "pull_numerator" = some (some (.ref f13))) (l13 : K.lookup f13 = some ⟨oc13, od13, .func (PySem.W.fnOf "pull_numerator" "pull_numerator" (defArgs sPullNumerator) (defBody sPullNumerator) (defScope sPullNumerator) .none kV13 dc13 pm13 an13 cd13 ct13), sl13⟩) (c13 : PySem.W.codeIn K cd13 "pull_numerator" = true) (k13 : PySem.W.keepIn K (.ref f13) = true)
    {f14 : Addr} {oc14 kV14 dc14 pm14 cd14 ct14 : Value} {od14 an14 : Option Addr} {sl14 : Array (Option Value)}
    (a14 : PySem.W.nsIn K mainGlobals "is_worth_more" = some (some (.ref f14))) (l14 : K.lookup f14 = some ⟨oc14, od14, .func (PySem.W.fnOf "is_worth_more" "is_worth_more" (defArgs sIsWorthMore) (defBody sIsWorthMore) (defScope sIsWorthMore) .none kV14 dc14 pm14 an14 cd14 ct14), sl14⟩) (c14 : PySem.W.codeIn K cd14 "is_worth_more" = true) (k14 : PySem.W.keepIn K (.ref f14) = true)
    {f15 : Addr} {oc15 kV15 dc15 pm15 cd15 ct15 : Value} {od15 an15 : Option Addr} {sl15 : Array (Option Value)}
    (a15 : PySem.W.nsIn K mainGlobals "bettered_choices" = some (some (.ref f15))) (l15 : K.lookup f15 = some ⟨oc15, od15, .func (PySem.W.fnOf "bettered_choices" "bettered_choices" (defArgs sBetteredChoices) (defBody sBetteredChoices) (defScope sBetteredChoices) .none kV15 dc15 pm15 an15 cd15 ct15), sl15⟩) (c15 : PySem.W.codeIn K cd15 "bettered_choices" = true) (k15 : PySem.W.keepIn K (.ref f15) = true)
    {f16 : Addr} {oc16 kV16 dc16 pm16 cd16 ct16 : Value} {od16 an16 : Option Addr} {sl16 : Array (Option Value)}
    (a16 : PySem.W.nsIn K mainGlobals "best_worths" = some (some (.ref f16))) (l16 : K.lookup f16 = some ⟨oc16, od16, .func (PySem.W.fnOf "best_worths" "best_worths" (defArgs sBestWorths) (defBody sBestWorths) (defScope sBestWorths) .none kV16 dc16 pm16 an16 cd16 ct16), sl16⟩) (c16 : PySem.W.codeIn K cd16 "best_worths" = true) (k16 : PySem.W.keepIn K (.ref f16) = true)
    {f17 : Addr} {oc17 kV17 dc17 pm17 cd17 ct17 : Value} {od17 an17 : Option Addr} {sl17 : Array (Option Value)}
    (a17 : PySem.W.nsIn K mainGlobals "rate_of" = some (some (.ref f17))) (l17 : K.lookup f17 = some ⟨oc17, od17, .func (PySem.W.fnOf "rate_of" "rate_of" (defArgs sRateOf) (defBody sRateOf) (defScope sRateOf) .none kV17 dc17 pm17 an17 cd17 ct17), sl17⟩) (c17 : PySem.W.codeIn K cd17 "rate_of" = true) (k17 : PySem.W.keepIn K (.ref f17) = true)
    {f18 : Addr} {oc18 kV18 dc18 pm18 cd18 ct18 : Value} {od18 an18 : Option Addr} {sl18 : Array (Option Value)}
    (a18 : PySem.W.nsIn K mainGlobals "all_rates" = some (some (.ref f18))) (l18 : K.lookup f18 = some ⟨oc18, od18, .func (PySem.W.fnOf "all_rates" "all_rates" (defArgs sAllRates) (defBody sAllRates) (defScope sAllRates) .none kV18 dc18 pm18 an18 cd18 ct18), sl18⟩) (c18 : PySem.W.codeIn K cd18 "all_rates" = true) (k18 : PySem.W.keepIn K (.ref f18) = true)
    {f19 : Addr} {oc19 kV19 dc19 pm19 cd19 ct19 : Value} {od19 an19 : Option Addr} {sl19 : Array (Option Value)}
    (a19 : PySem.W.nsIn K mainGlobals "order" = some (some (.ref f19))) (l19 : K.lookup f19 = some ⟨oc19, od19, .func (PySem.W.fnOf "order" "order" (defArgs sOrder) (defBody sOrder) (defScope sOrder) .none kV19 dc19 pm19 an19 cd19 ct19), sl19⟩) (c19 : PySem.W.codeIn K cd19 "order" = true) (k19 : PySem.W.keepIn K (.ref f19) = true) :
    ∃ fd : FuncData, (∃ o, h.get? fa = some o ∧ o.data = .func fd) ∧ (∀ (s : Shared) (us : List Value), us.length = (["b", "states", "machines"] : List Str).length → BindsTo s fd ⟨us, []⟩ ((["b", "states", "machines"] : List Str).zip us)) ∧ ∀ (c Tb : Addr) (base : Heap), fd.code = .ref c → K.In base → base.Ns mainGlobals mg → PySem.W.CodeHd base c Tb → BmAt mg base → FnOk P w K mg base CX0 7 fa fd ["b", "states", "machines"] (spOrder K Tb) := by
  have e := hfa.symm.trans (PySem.W.mg_of X G a19)
  cases e
  have T : Txt mg := ⟨PySem.W.mg_none_of X G n_range, PySem.W.mg_none_of X G n_len, PySem.W.mg_none_of X G n_sum, PySem.W.mg_none_of X G n_any, PySem.W.mg_none_of X G n_min, PySem.W.mg_none_of X G n_max, PySem.W.mg_none_of X G n_zip, PySem.W.mg_none_of X G n_enumerate, PySem.W.mg_none_of X G n_list, ⟨_, PySem.W.mg_of X G c_refused, ⟨_, rfl⟩⟩, ⟨_, PySem.W.mg_of X G c_hundred, ⟨_, rfl⟩⟩, ⟨_, PySem.W.mg_of X G c_machines, ⟨_, rfl⟩⟩, ⟨_, PySem.W.mg_of X G c_states, ⟨_, rfl⟩⟩, ⟨_, PySem.W.mg_of X G c_gain, ⟨_, rfl⟩⟩, ⟨_, PySem.W.mg_of X G c_weight, ⟨_, rfl⟩⟩⟩
  have TD : ∃ u, mg "DONE" = some u ∧ RelV (.int 0) u := ⟨_, PySem.W.mg_of X G c_TD, ⟨_, rfl⟩⟩
  have TO : mg "sorted" = none := PySem.W.mg_none_of X G n_sorted
  have F0 := fun_mk (st := sWeightRow) l0 c0 k0
  have B0 := F0.binds (ps := ["weights", "count", "state"]) fun _ _ _ _ _ _ us hl => match us, hl with | [_, _, _], _ => rfl
  have F1 := fun_mk (st := sIsBadMachine) l1 c1 k1
  have B1 := F1.binds (ps := ["gains", "weights"]) fun _ _ _ _ _ _ us hl => match us, hl with | [_, _], _ => rfl
  have F2 := fun_mk (st := sIsRefused) l2 c2 k2
  have B2 := F2.binds (ps := ["b", "states", "machines"]) fun _ _ _ _ _ _ us hl => match us, hl with | [_, _, _], _ => rfl
  have F3 := fun_mk (st := sOverOneDivisor) l3 c3 k3
  have B3 := F3.binds (ps := ["rates"]) fun _ _ _ _ _ _ us hl => match us, hl with | [_], _ => rfl
  have F4 := fun_mk (st := sStateCounts) l4 c4 k4
  have B4 := F4.binds (ps := ["machines"]) fun _ _ _ _ _ _ us hl => match us, hl with | [_], _ => rfl
  have F5 := fun_mk (st := sJointStates) l5 c5 k5
  have B5 := F5.binds (ps := ["counts"]) fun _ _ _ _ _ _ us hl => match us, hl with | [_], _ => rfl
  have F6 := fun_mk (st := sJointNumber) l6 c6 k6
  have B6 := F6.binds (ps := ["states", "counts"]) fun _ _ _ _ _ _ us hl => match us, hl with | [_, _], _ => rfl
  have F7 := fun_mk (st := sPullOf) l7 c7 k7
  have B7 := F7.binds (ps := ["machines", "counts", "states", "i"]) fun _ _ _ _ _ _ us hl => match us, hl with | [_, _, _, _], _ => rfl
  have F8 := fun_mk (st := sAllPulls) l8 c8 k8
  have B8 := F8.binds (ps := ["machines"]) fun _ _ _ _ _ _ us hl => match us, hl with | [_], _ => rfl
  have F9 := fun_mk (st := sEquation) l9 c9 k9
  have B9 := F9.binds (ps := ["b", "pull", "number", "count"]) fun _ _ _ _ _ _ us hl => match us, hl with | [_, _, _, _], _ => rfl
  have F10 := fun_mk (st := sReducedRow) l10 c10 k10
  have B10 := F10.binds (ps := ["row", "pivot_row", "k", "divisor"]) fun _ _ _ _ _ _ us hl => match us, hl with | [_, _, _, _], _ => rfl
  have F11 := fun_mk (st := sSolve) l11 c11 k11
  have B11 := F11.binds (ps := ["rows"]) fun _ _ _ _ _ _ us hl => match us, hl with | [_], _ => rfl
  have F12 := fun_mk (st := sWorthsOfChoices) l12 c12 k12
  have B12 := F12.binds (ps := ["b", "pulls", "choices"]) fun _ _ _ _ _ _ us hl => match us, hl with | [_, _, _], _ => rfl
  have F13 := fun_mk (st := sPullNumerator) l13 c13 k13
  have B13 := F13.binds (ps := ["b", "pull", "settled"]) fun _ _ _ _ _ _ us hl => match us, hl with | [_, _, _], _ => rfl
  have F14 := fun_mk (st := sIsWorthMore) l14 c14 k14
  have B14 := F14.binds (ps := ["b", "pull", "other", "settled"]) fun _ _ _ _ _ _ us hl => match us, hl with | [_, _, _, _], _ => rfl
  have F15 := fun_mk (st := sBetteredChoices) l15 c15 k15
  have B15 := F15.binds (ps := ["b", "pulls", "choices", "settled"]) fun _ _ _ _ _ _ us hl => match us, hl with | [_, _, _, _], _ => rfl
  have F16 := fun_mk (st := sBestWorths) l16 c16 k16
  have B16 := F16.binds (ps := ["b", "pulls"]) fun _ _ _ _ _ _ us hl => match us, hl with | [_, _], _ => rfl
  have F17 := fun_mk (st := sRateOf) l17 c17 k17
  have B17 := F17.binds (ps := ["b", "state", "machine"]) fun _ _ _ _ _ _ us hl => match us, hl with | [_, _, _], _ => rfl
  have F18 := fun_mk (st := sAllRates) l18 c18 k18
  have B18 := F18.binds (ps := ["b", "states", "machines"]) fun _ _ _ _ _ _ us hl => match us, hl with | [_, _, _], _ => rfl
  have F19 := fun_mk (st := sOrder) l19 c19 k19
  refine ⟨PySem.W.fnOf "order" "order" (defArgs sOrder) (defBody sOrder) (defScope sOrder) .none kV19 dc19 pm19 an19 cd19 ct19, ⟨_, X _ _ l19, rfl⟩, fun s us hu => match us, hu with | [_, _, _], _ => .of_eq rfl, fun c Tb base hcc _ _ hC hB => ?_⟩
  cases hcc
  have C0 : Cal P w K mg base "weight_row" ["weights", "count", "state"] 1 (spWeightRow K) f0 _ := ⟨ok_weight_row F0 , B0, k0, PySem.W.mg_of X G a0⟩
  have C1 : Cal P w K mg base "is_bad_machine" ["gains", "weights"] 2 (spIsBadMachine K) f1 _ := ⟨ok_is_bad_machine F1 T C0, B1, k1, PySem.W.mg_of X G a1⟩
  have C2 : Cal P w K mg base "is_refused" ["b", "states", "machines"] 3 (spIsRefused K) f2 _ := ⟨ok_is_refused F2 T C1, B2, k2, PySem.W.mg_of X G a2⟩
  have C3 : Cal P w K mg base "over_one_divisor" ["rates"] 1 (spOneDivisor K) f3 _ := ⟨ok_one_divisor F3 T, B3, k3, PySem.W.mg_of X G a3⟩
  have C4 : Cal P w K mg base "state_counts" ["machines"] 1 (spStateCounts K) f4 _ := ⟨ok_state_counts F4 T, B4, k4, PySem.W.mg_of X G a4⟩
  have C5 : Cal P w K mg base "joint_states" ["counts"] 1 (spJointStates K) f5 _ := ⟨ok_joint_states F5 T, B5, k5, PySem.W.mg_of X G a5⟩
  have C6 : Cal P w K mg base "joint_number" ["states", "counts"] 1 (spJointNumber K) f6 _ := ⟨ok_joint_number F6 T, B6, k6, PySem.W.mg_of X G a6⟩
  have C7 : Cal P w K mg base "pull_of" ["machines", "counts", "states", "i"] 2 (spPullOf K) f7 _ := ⟨ok_pull_of F7 T C0 C6, B7, k7, PySem.W.mg_of X G a7⟩
  have C8 : Cal P w K mg base "all_pulls" ["machines"] 3 (spAllPulls K) f8 _ := ⟨ok_all_pulls F8 T C4 C5 C7, B8, k8, PySem.W.mg_of X G a8⟩
  have C9 : Cal P w K mg base "equation" ["b", "pull", "number", "count"] 1 (spEquation K) f9 _ := ⟨ok_equation F9 T, B9, k9, PySem.W.mg_of X G a9⟩
  have C10 : Cal P w K mg base "reduced_row" ["row", "pivot_row", "k", "divisor"] 1 (spReduced K) f10 _ := ⟨ok_reduced F10 T, B10, k10, PySem.W.mg_of X G a10⟩
  have C11 : Cal P w K mg base "solve" ["rows"] 2 (spSolve K) f11 _ := ⟨ok_solve F11 T C10, B11, k11, PySem.W.mg_of X G a11⟩
  have C12 : Cal P w K mg base "worths_of_choices" ["b", "pulls", "choices"] 3 (spChoices K) f12 _ := ⟨ok_choices F12 T C9 C11, B12, k12, PySem.W.mg_of X G a12⟩
  have C13 : Cal P w K mg base "pull_numerator" ["b", "pull", "settled"] 1 (spPullNum K) f13 _ := ⟨ok_pull_num F13 T, B13, k13, PySem.W.mg_of X G a13⟩
  have C14 : Cal P w K mg base "is_worth_more" ["b", "pull", "other", "settled"] 2 (spWorthMore K) f14 _ := ⟨ok_worth_more F14 C13, B14, k14, PySem.W.mg_of X G a14⟩
  have C15 : Cal P w K mg base "bettered_choices" ["b", "pulls", "choices", "settled"] 3 (spBettered K) f15 _ := ⟨ok_bettered F15 T C14, B15, k15, PySem.W.mg_of X G a15⟩
  have C16 : Cal P w K mg base "best_worths" ["b", "pulls"] 4 (spBestWorths K) f16 _ := ⟨ok_best_worths F16 T C12 C15, B16, k16, PySem.W.mg_of X G a16⟩
  have C17 : Cal P w K mg base "rate_of" ["b", "state", "machine"] 5 (spRateOf K) f17 _ := ⟨ok_rate_of F17 T C8 C16, B17, k17, PySem.W.mg_of X G a17⟩
  have C18 : Cal P w K mg base "all_rates" ["b", "states", "machines"] 6 (spAllRates K) f18 _ := ⟨ok_all_rates F18 T C17, B18, k18, PySem.W.mg_of X G a18⟩
  exact ok_order l19 c19 hC hB T TD TO C2 C3 C18
end Lw
end
open PySem PySem.W PyProof.Rows
set_option Elab.async false
set_option maxRecDepth 100000 in
set_option maxHeartbeats 0 in
theorem PySem.Challenge.cw_leverpulls_s05_order_holds : PySem.Challenge.rw_leverpulls_s05_order.Holds := by
  w_on; k_headS; (case hw => exact ⟨[.int 0, .list [], .list [.list [], .list []]], by decide +kernel, by decide +kernel⟩)
  k_fillS
  refine L2.walk_specT (r := PySem.Challenge.rw_leverpulls_s05_order) (k := 7) (CX := L2.CX0) (ps := ["b", "states", "machines"]) (sp := Lw.spOrder) (by decide +kernel) rfl ⟨rfl, by decide, by decide⟩ ?rec ?nt (fun w h Y => PySem.W.kIn_of Y) ?F ?S (fun _ _ _ _ z => z)
  case rec => first | exact .head _ | exact .tail _ (.head _)
  case nt => exact fun _ => rfl
  case F =>
    intro w mg fa h Y KX G hmg
    refine' Lw.all_mk KX G hmg ?n_range ?n_len ?n_sum ?n_any ?n_min ?n_max ?n_zip ?n_enumerate ?n_list ?n_sorted ?c_refused ?c_hundred ?c_machines ?c_states ?c_gain ?c_weight ?c_TD ?a0 ?l0 ?c0 ?k0 ?a1 ?l1 ?c1 ?k1 ?a2 ?l2 ?c2 ?k2 ?a3 ?l3 ?c3 ?k3 ?a4 ?l4 ?c4 ?k4 ?a5 ?l5 ?c5 ?k5 ?a6 ?l6 ?c6 ?k6 ?a7 ?l7 ?c7 ?k7 ?a8 ?l8 ?c8 ?k8 ?a9 ?l9 ?c9 ?k9 ?a10 ?l10 ?c10 ?k10 ?a11 ?l11 ?c11 ?k11 ?a12 ?l12 ?c12 ?k12 ?a13 ?l13 ?c13 ?k13 ?a14 ?l14 ?c14 ?k14 ?a15 ?l15 ?c15 ?k15 ?a16 ?l16 ?c16 ?k16 ?a17 ?l17 ?c17 ?k17 ?a18 ?l18 ?c18 ?k18 ?a19 ?l19 ?c19 ?k19
    (case n_range => k_is); (case n_len => k_is); (case n_sum => k_is); (case n_any => k_is); (case n_min => k_is); (case n_max => k_is)
    (case n_zip => k_is); (case n_enumerate => k_is); (case n_list => k_is); (case n_sorted => k_is); (case c_refused => k_is); (case c_hundred => k_is)
    (case c_machines => k_is); (case c_states => k_is); (case c_gain => k_is); (case c_weight => k_is); (case c_TD => k_is); (case a0 => k_is)
    (case l0 => k_is); (case c0 => k_is); (case k0 => k_is); (case a1 => k_is); (case l1 => k_is); (case c1 => k_is)
    (case k1 => k_is); (case a2 => k_is); (case l2 => k_is); (case c2 => k_is); (case k2 => k_is); (case a3 => k_is)
    (case l3 => k_is); (case c3 => k_is); (case k3 => k_is); (case a4 => k_is); (case l4 => k_is); (case c4 => k_is)
    (case k4 => k_is); (case a5 => k_is); (case l5 => k_is); (case c5 => k_is); (case k5 => k_is); (case a6 => k_is)
    (case l6 => k_is); (case c6 => k_is); (case k6 => k_is); (case a7 => k_is); (case l7 => k_is); (case c7 => k_is)
    (case k7 => k_is); (case a8 => k_is); (case l8 => k_is); (case c8 => k_is); (case k8 => k_is); (case a9 => k_is)
    (case l9 => k_is); (case c9 => k_is); (case k9 => k_is); (case a10 => k_is); (case l10 => k_is); (case c10 => k_is)
    (case k10 => k_is); (case a11 => k_is); (case l11 => k_is); (case c11 => k_is); (case k11 => k_is); (case a12 => k_is)
    (case l12 => k_is); (case c12 => k_is); (case k12 => k_is); (case a13 => k_is); (case l13 => k_is); (case c13 => k_is)
    (case k13 => k_is); (case a14 => k_is); (case l14 => k_is); (case c14 => k_is); (case k14 => k_is); (case a15 => k_is)
    (case l15 => k_is); (case c15 => k_is); (case k15 => k_is); (case a16 => k_is); (case l16 => k_is); (case c16 => k_is)
    (case k16 => k_is); (case a17 => k_is); (case l17 => k_is); (case c17 => k_is); (case k17 => k_is); (case a18 => k_is)
    (case l18 => k_is); (case c18 => k_is); (case k18 => k_is); (case a19 => k_is); (case l19 => k_is); (case c19 => k_is)
    (case k19 => k_is)
  case S =>
    intro K H H2 T xs a hwi hask hx hsm hT
    obtain ⟨b, ss, rs, u⟩ := a
    cases hx with
    | cons h1 hx =>
      cases hx with
      | cons h2 hx =>
        cases hx with
        | cons h3 hx =>
          cases hx
          cases h1
          cases h2 with
          | lst hs ha =>
            have e := L2.ints_dw ss _ ha
            subst e
            cases h3 with
            | lst hr hb =>
              obtain ⟨as, e, hP⟩ := Lw.rows_dw rs _ hb
              subst e
              have q : (Codec.inInt _ _ b && ((Codec.inLen 0 5 ss && ss.all (Codec.inInt _ _)) && ((Codec.inLen 2 8 rs && rs.all fun r => Codec.inLen 0 36 r && r.all (Codec.inInt _ _)) && true))) = true := hwi
              simp only [Bool.and_eq_true, List.all_eq_true] at q
              have g : Sf95Neutral.given b ss rs = true := hask
              exact ⟨_, _, b, ss, rs, rfl, hsm.seq hs, Lw.Rows.mono _ _ _ _ hsm ⟨as, hr, hP⟩, Lw.askd_of g fun r hr => (Codec.inNat_iff.mp (q.2.2.1.2 r hr).1).2, hT, fun H' p hp => .lst (L2.SqL.of hp) (L2.dw_ints _)⟩
#print axioms PySem.Challenge.cw_leverpulls_s05_order_holds
