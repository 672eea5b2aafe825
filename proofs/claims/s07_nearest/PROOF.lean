import PyProof.Rows.All
import Wide.All
import OpenK.AllK
import Wide.FinOn
import PyProof.EqAt
import PyProof.EqKinds
import PyProof.TupleCall
import KE.BitLaws
import Open.SpecLaws
import KE.OsHead
import KE.OsGo
import KE.KSortTupG
import KE.KRevIter
import KE.KDictList
import KE.KNestM
import KE.KLam
import KE.KSortKey
import PySem.Challenge.RW_exactplane_s07_nearest
section
set_option Elab.async false
set_option linter.all false
set_option maxRecDepth 100000
namespace L2
open PySem PySem.Spec PyProof.Rows
/-- a key: an int or a str -/
abbrev Key := Sum Int Str
def keyIs : Key → Value → Bool
  | .inl k, v => Value.isInt k v
  | .inr x, v => Value.isStrOf x v
def keyH (w : World) : Key → Int
  | .inl k => hashInt k
  | .inr x => hashStr w x
theorem keyIs_shape : ∀ {k : Key} {v : Value}, keyIs k v = true → (∃ i t, k = Sum.inl i ∧ v = Value.int i t) ∨ (∃ x t, k = Sum.inr x ∧ v = Value.str x t)
  | .inl i, v, h => by
    obtain ⟨t, e⟩ := Value.isInt_shape (k := i) (v := v) h
    exact .inl ⟨i, t, rfl, e⟩
  | .inr x, v, h => by
    obtain ⟨t, e⟩ := Value.isStrOf_shape (x := x) (v := v) h
    exact .inr ⟨x, t, rfl, e⟩
theorem keyIs_int (i : Int) (t : Tok) : keyIs (.inl i) (.int i t) = true := by simp [keyIs, Value.isInt]
theorem keyIs_str (x : Str) (t : Tok) : keyIs (.inr x) (.str x t) = true := by simp [keyIs, Value.isStrOf]
theorem key_ll (a b : Int) : decide ((Sum.inl a : Key) = Sum.inl b) = (a == b) := by
  by_cases e : a = b
  · subst e; simp
  · have h : ¬ (Sum.inl a : Key) = Sum.inl b := fun q => e (Sum.inl.inj q)
    rw [decide_eq_false h]
    exact (beq_eq_false_iff_ne.mpr e).symm
theorem key_rr (a b : Str) : decide ((Sum.inr a : Key) = Sum.inr b) = decide (a = b) := by
  by_cases e : a = b
  · subst e; simp
  · have h : ¬ (Sum.inr a : Key) = Sum.inr b := fun q => e (Sum.inr.inj q)
    rw [decide_eq_false h, decide_eq_false e]
theorem key_lr (a : Int) (b : Str) : decide ((Sum.inl a : Key) = Sum.inr b) = false := decide_eq_false (fun q => nomatch q)
theorem key_rl (a : Str) (b : Int) : decide ((Sum.inr a : Key) = Sum.inl b) = false := decide_eq_false (fun q => nomatch q)
def mixKind (prog : Program) (w : World) : PySem.KeyKind prog w Key where
  is := keyIs
  hash := keyH w
  inj := fun v a b ha hb => by
    rcases keyIs_shape ha with ⟨i, t, rfl, rfl⟩ | ⟨x, t, rfl, rfl⟩
    · rcases keyIs_shape hb with ⟨j, u, rfl, e⟩ | ⟨y, u, rfl, e⟩
      · injection e with e1 _; rw [e1]
      · exact nomatch e
    · rcases keyIs_shape hb with ⟨j, u, rfl, e⟩ | ⟨y, u, rfl, e⟩
      · exact nomatch e
      · injection e with e1 _; rw [e1]
  byValue := fun k v h => by
    rcases keyIs_shape h with ⟨i, t, rfl, rfl⟩ | ⟨x, t, rfl, rfl⟩ <;> rfl
  pyHash := fun hv h => by
    rcases keyIs_shape hv with ⟨i, t, rfl, rfl⟩ | ⟨x, t, rfl, rfl⟩
    · exact wpAny_pyHash_int h
    · exact wpAny_pyHash_str h
  eqBool := fun hu hv h => by
    rcases keyIs_shape hu with ⟨i, t, rfl, rfl⟩ | ⟨x, t, rfl, rfl⟩
    · rcases keyIs_shape hv with ⟨j, u, rfl, rfl⟩ | ⟨y, u, rfl, rfl⟩
      · rw [key_ll] at h; exact wpAny_eqBool_int h
      · rw [key_lr] at h; exact SeqAt.EqAt.int_str i t y u _ _ _ _ h
    · rcases keyIs_shape hv with ⟨j, u, rfl, rfl⟩ | ⟨y, u, rfl, rfl⟩
      · rw [key_rl] at h; exact SeqAt.EqAt.str_int x t j u _ _ _ _ h
      · rw [key_rr] at h; exact wpAny_eqBool_str h
  «strs» := fun k x t v h => by
    rcases keyIs_shape h with ⟨i, u, rfl, e⟩ | ⟨y, u, rfl, e⟩
    · exact nomatch e
    · injection e with e1 _
      subst e1
      cases v <;> rfl
theorem mixKind_int (prog : Program) (w : World) (i : Int) (t : Tok) : (mixKind prog w).is (.inl i) (.int i t) = true := keyIs_int i t
theorem mixKind_str (prog : Program) (w : World) (x : Str) (t : Tok) : (mixKind prog w).is (.inr x) (.str x t) = true := keyIs_str x t
end L2
namespace L2
open PySem PySem.Spec PyProof.Rows
/-- a value, without the heap -/
inductive V where
  | non | bl (b : Bool) | int (i : Int) | str (x : Str) | byt (b : Array UInt8) | flt (b : UInt64) | ref (a : Addr) | ty (n : String)
  deriving DecidableEq
def RelV : V → Value → Prop
  | .non, u => u = Value.none
  | .bl b, u => u = Value.bool b
  | .int i, u => ∃ t, u = Value.int i t
  | .str x, u => ∃ t, u = Value.str x t
  | .byt b, u => ∃ t, u = Value.bytes b t
  | .flt b, u => ∃ t, u = Value.float b t
  | .ref a, u => u = Value.ref a
  | .ty n, u => u = Value.type n
abbrev Vals : List V → List Value → Prop := Paired RelV
theorem Vals.length {xs : List V} {us : List Value} (r : Vals xs us) : xs.length = us.length := Paired.length r
theorem Vals.get : ∀ {xs : List V} {us : List Value} {i : Nat} {x : V}, Vals xs us → xs[i]? = some x → ∃ u, us[i]? = some u ∧ RelV x u
  | _, _, _, _, .nil, e => by simp at e
  | _, _, 0, _, .cons r _, e => by simp at e; subst e; exact ⟨_, rfl, r⟩
  | _, _, i + 1, x, .cons _ t, e => by
    obtain ⟨u, h1, h2⟩ := Vals.get (i := i) (x := x) t (by simpa using e)
    exact ⟨u, by simpa using h1, h2⟩
theorem Vals.set {x : V} {u : Value} (r : RelV x u) : ∀ {xs : List V} {us : List Value} (i : Nat), Vals xs us → Vals (xs.set i x) (us.set i u)
  | _, _, _, .nil => .nil
  | _, _, 0, .cons _ t => .cons r t
  | _, _, i + 1, .cons q t => .cons q (Vals.set r i t)
theorem Vals.append : ∀ {xs ys : List V} {us ws : List Value}, Vals xs us → Vals ys ws → Vals (xs ++ ys) (us ++ ws)
  | _, _, _, _, .nil, s => s
  | _, _, _, _, .cons r t, s => .cons r (Vals.append t s)
theorem Vals.take : ∀ {xs : List V} {us : List Value} (n : Nat), Vals xs us → Vals (xs.take n) (us.take n)
  | _, _, 0, _ => .nil
  | _, _, _ + 1, .nil => .nil
  | _, _, n + 1, .cons r t => .cons r (Vals.take n t)
theorem Vals.drop : ∀ {xs : List V} {us : List Value} (n : Nat), Vals xs us → Vals (xs.drop n) (us.drop n)
  | _, _, 0, r => r
  | _, _, _ + 1, .nil => .nil
  | _, _, n + 1, .cons _ t => Vals.drop n t
def RelO : Option V → Option Value → Prop
  | some v, some u => RelV v u
  | none, none => True
  | _, _ => False
def KV {κ : Type} : List (κ × V) → List (κ × Value) → Prop := Paired fun (p : κ × V) (q : κ × Value) => p.1 = q.1 ∧ RelV p.2 q.2
/-- a key of a dict (00_mix): an int or a text -/
def kV : Key → V
  | .inl i => .int i
  | .inr x => .str x
/-- what stands at a tracked address -/
inductive HO where
  /-- a list -/
  | lst (xs : List V)
  /-- a tuple (never changes) -/
  | tup (xs : List V)
  /-- a dict whose keys are ints and texts; one whose keys are tuples of ints and texts (the empty one is both) -/
  | dK (kvs : List (Key × V)) | dT (kvs : List (List Key × V))
  /-- a set of ints: its members, its size -/
  | set (S : Int → Bool) (n : Nat)
  /-- an instance of the class at C, its dict at dx, its attributes -/
  | ins (C dx : Addr) (fs : List (Str × V))
  /-- the dict of the instance at x -/
  | own (x : Addr)
  /-- the dict of an exception -/
  | xd (fs : List (Str × V))
  /-- a bound method, f of x -/
  | met (f x : Addr)
  /-- a range object lo, lo + 1, .. below hi -/
  | rng (lo hi : Int)
  /-- a thing that is known to the object (the script; a dict while a loop walks it): read, never written while it is so -/
  | frz (o : Obj) (u : HO)
  /-- a code object's table -/
  | tbl (ps : Array Value)
  /-- any other thing, by what is true of its one object (a def of one's own: SetO a S n := HO.ext fun h => ..) -/
  | ext (φ : Heap → Prop)
abbrev Hp := Addr → Option HO
def upd (H : Hp) (a : Addr) (o : HO) : Hp := fun b => if b = a then some o else H b
theorem upd_same {H : Hp} {a : Addr} {o : HO} : upd H a o a = some o := by unfold upd; rw [if_pos rfl]
theorem upd_ne {H : Hp} {a b : Addr} {o : HO} (h : b ≠ a) : upd H a o b = H b := by unfold upd; rw [if_neg h]
/-- two objects of different content stand apart -/
theorem ne_of {H : Hp} {a b : Addr} {o u : HO} (h : H a = some o) (h' : H b = some u) (d : o ≠ u) : a ≠ b := by
  intro e; subst e; rw [h] at h'; exact d (Option.some.inj h')
theorem ne_of_none {H : Hp} {a b : Addr} {o : HO} (h : H a = some o) (h' : H b = none) : a ≠ b := by
  intro e; subst e; rw [h] at h'; cases h'
section
variable (P : Program) (w : World)
def ObjOk (H : Hp) (h : Heap) (a : Addr) : HO → Prop
  | .lst xs => xs.length ≤ sizeLine ∧ ∃ (its : List Value) (n : Nat), Vals xs its ∧ h.get? a = some { cls := .type "list", data := .seq its.toArray n }
  | .tup xs => xs.length ≤ sizeLine ∧ ∃ its : List Value, Vals xs its ∧ IsTup h a its.toArray
  | .dK kvs => kvs.length ≤ sizeLine ∧ (a == sysModules) = false ∧ ∃ vs, KV kvs vs ∧ h.DictOf (mixKind P w) a vs
  | .dT kvs => kvs.length ≤ sizeLine ∧ (a == sysModules) = false ∧ ∃ xs : List (List Key × Addr × Value),
      Paired (fun (p : List Key × V) (q : List Key × Addr × Value) => p.1 = q.1 ∧ H q.2.1 = some (.tup (p.1.map kV)) ∧ RelV p.2 q.2.2) kvs xs ∧
      ∃ o es ep, h.get? a = some o ∧ o.ExactDict ∧ o.data = .dict es ep ∧ es.toList = xs.map (entryOfKey (tupleKind (mixKind P w))) ∧ (xs.map (·.1)).Nodup
  | .set S n => h.SetOf (intKind P w) a S n
  | .ins C dx fs => H dx = some (.own a) ∧ fs.length ≤ 1000 ∧ dx ≠ a ∧ h.get? a = some (PySem.W.instObj C dx) ∧
      ∃ mA, h.Ns1 dx mA ∧ (∀ f, RelO (fs.lookup f) (mA f)) ∧ PySem.Within mA (fs.map (·.1))
  | .own _ => ∃ o, h.get? a = some o
  | .xd fs => ∃ mA, h.Ns1 a mA ∧ ∀ f, RelO (fs.lookup f) (mA f)
  | .rng lo hi => ∃ t u v, h.get? a = some { cls := .type "range", data := .fields #[.int lo t, .int hi u, .int 1 v] }
  | .frz o u => h.get? a = some o ∧ ObjOk H h a u
  | .tbl ps => h.get? a = some { cls := .none, data := .fields ps }
  | .met f x => h.get? a = some (PySem.W.methodObj (.ref f) (.ref x))
  | .ext φ => φ h ∧ (∃ o, h.get? a = some o) ∧ ∀ h1 h2 : Heap, φ h1 → (∀ o, h1.get? a = some o → h2.get? a = some o) → φ h2
/-- the abstract heap is held -/
def HOk (H : Hp) (h : Heap) : Prop := ∀ a o, H a = some o → ObjOk P w H h a o
end
section
variable {P : Program} {w : World} {H H' : Hp} {h h' : Heap} {a : Addr} {o : HO}
theorem ObjOk.lt (x : ObjOk P w H h a o) : a < h.objs.size := by
  cases o with
  | lst xs => obtain ⟨_, _, _, _, e⟩ := x; exact Heap.lt_size e
  | tup xs => obtain ⟨_, _, _, p⟩ := x; exact p.lt
  | dK kvs => obtain ⟨_, _, _, _, o, _, _, e, _⟩ := x; exact Heap.lt_size e
  | dT kvs => obtain ⟨_, _, _, _, o, _, _, e, _⟩ := x; exact Heap.lt_size e
  | set S n => obtain ⟨o, _, _, _, e, _⟩ := x; exact Heap.lt_size e
  | ins C dx fs => obtain ⟨_, _, _, e, _⟩ := x; exact Heap.lt_size e
  | own y => obtain ⟨_, e⟩ := x; exact Heap.lt_size e
  | xd fs => obtain ⟨_, ⟨_, _, _, e, _⟩, _⟩ := x; exact Heap.lt_size e
  | rng lo hi => obtain ⟨_, _, _, e⟩ := x; exact Heap.lt_size e
  | frz ob u => obtain ⟨e, _⟩ := x; exact Heap.lt_size e
  | tbl ps => exact Heap.lt_size (show h.get? a = some _ from x)
  | met f y => exact Heap.lt_size (show h.get? a = some _ from x)
  | ext φ => obtain ⟨_, ⟨_, e⟩, _⟩ := x; exact Heap.lt_size e
theorem Paired.mapP {α β : Type} {F G : α → β → Prop} : ∀ {l₁ : List α} {l₂ : List β}, Paired F l₁ l₂ → (∀ a b, F a b → G a b) → Paired G l₁ l₂
  | _, _, .nil, _ => .nil
  | _, _, .cons r t, f => .cons (f _ _ r) (Paired.mapP t f)
/-- what an object's description leans on: its own object, its own dict, the tuples -/
theorem ObjOk.stay (x : ObjOk P w H h a o) (k : ∀ b u, (b = a ∨ H b = some (.own a)) → h.get? b = some u → h'.get? b = some u)
    (ho : ∀ b, H b = some (.own a) → H' b = some (.own a)) (ht : ∀ b xs, H b = some (.tup xs) → H' b = some (.tup xs)) : ObjOk P w H' h' a o := by
  induction o with
  | lst xs => obtain ⟨z, its, n, r, e⟩ := x; exact ⟨z, its, n, r, k _ _ (.inl rfl) e⟩
  | tup xs => obtain ⟨z, its, r, ob, e, c⟩ := x; exact ⟨z, its, r, ob, k _ _ (.inl rfl) e, c⟩
  | dK kvs => obtain ⟨z, y, vs, r, ob, es, ep, e, c⟩ := x; exact ⟨z, y, vs, r, ob, es, ep, k _ _ (.inl rfl) e, c⟩
  | dT kvs =>
    obtain ⟨z, y, xs, r, ob, es, ep, e, c⟩ := x
    exact ⟨z, y, xs, Paired.mapP r fun p q z => ⟨z.1, ht _ _ z.2.1, z.2.2⟩, ob, es, ep, k _ _ (.inl rfl) e, c⟩
  | set S n => obtain ⟨ob, es, ep, t, e, c⟩ := x; exact ⟨ob, es, ep, t, k _ _ (.inl rfl) e, c⟩
  | ins C dx fs =>
    obtain ⟨d, z, ne, e, mA, ⟨od, es, ep, e2, c⟩, r⟩ := x
    exact ⟨ho _ d, z, ne, k _ _ (.inl rfl) e, mA, ⟨od, es, ep, k _ _ (.inr d) e2, c⟩, r⟩
  | own y => obtain ⟨ob, e⟩ := x; exact ⟨ob, k _ _ (.inl rfl) e⟩
  | xd fs => obtain ⟨mA, ⟨od, es, ep, e, c⟩, r⟩ := x; exact ⟨mA, ⟨od, es, ep, k _ _ (.inl rfl) e, c⟩, r⟩
  | rng lo hi => obtain ⟨t, u, v, e⟩ := x; exact ⟨t, u, v, k _ _ (.inl rfl) e⟩
  | frz ob u ih => obtain ⟨e, q⟩ := x; exact ⟨k _ _ (.inl rfl) e, ih q⟩
  | tbl ps =>
    have e : h.get? a = some { cls := .none, data := .fields ps } := x
    show h'.get? a = some { cls := .none, data := .fields ps }
    exact k a _ (.inl rfl) e
  | met f y =>
    have e : h.get? a = some (PySem.W.methodObj (.ref f) (.ref y)) := x
    show h'.get? a = some (PySem.W.methodObj (.ref f) (.ref y))
    exact k a _ (.inl rfl) e
  | ext φ => obtain ⟨p, ⟨o, e⟩, st⟩ := x; exact ⟨st _ _ p fun o q => k _ _ (.inl rfl) q, ⟨o, k _ _ (.inl rfl) e⟩, st⟩
theorem HOk.lt (x : HOk P w H h) (e : H a = some o) : a < h.objs.size := (x a o e).lt
theorem HOk.fresh (x : HOk P w H h) (e : h.objs.size ≤ a) : H a = none := by
  cases q : H a with
  | none => rfl
  | some u => exact absurd (Nat.lt_of_lt_of_le (x.lt q) e) (Nat.lt_irrefl _)
/-- every object of the heap is kept -/
theorem HOk.kept (x : HOk P w H h) (k : ∀ b u, h.get? b = some u → h'.get? b = some u) : HOk P w H h' := fun a o e =>
  (x a o e).stay (fun b u _ q => k b u q) (fun _ q => q) fun _ _ q => q
/-- a new object is laid and tracked -/
theorem HOk.laid (x : HOk P w H h) (k : ∀ b u, h.get? b = some u → h'.get? b = some u) (hp : h.objs.size ≤ a) (new : ObjOk P w (upd H a o) h' a o) : HOk P w (upd H a o) h' := fun b u e => by
  have hn := x.fresh hp
  by_cases hb : b = a
  · subst hb; rw [upd_same] at e; cases e; exact new
  · rw [upd_ne hb] at e
    exact (x b u e).stay (fun c v _ q => k c v q) (fun c q => by rw [upd_ne (ne_of_none q hn)]; exact q) fun c xs q => by rw [upd_ne (ne_of_none q hn)]; exact q
end
/-- what may be read as u: it is u, or a known u -/
def Rd (H : Hp) (a : Addr) (u : HO) : Prop := H a = some u ∨ ∃ o, H a = some (.frz o u)
theorem Rd.ok {P : Program} {w : World} {H : Hp} {h : Heap} {a : Addr} {u : HO} (r : Rd H a u) (x : HOk P w H h) : ObjOk P w H h a u := by
  rcases r with r | ⟨o, r⟩
  · exact x a u r
  · obtain ⟨_, q⟩ := x a _ r
    exact q
/-- what may be written -/
def Mut : Option HO → Prop
  | some (.lst _) => True
  | some (.dK _) => True
  | some (.dT _) => True
  | some (.set _ _) => True
  | some (.ins _ _ _) => True
  | some (.ext _) => True
  | _ => False
section
variable {P : Program} {w : World} {H : Hp} {h h' : Heap} {x e : Addr} {o' : HO}
/-- the object at e is changed: x itself, or the dict of the instance x -/
theorem HOk.write (ok : HOk P w H h) (mu : Mut (H x)) (he : e = x ∨ H e = some (.own x)) (k : ∀ b u, b ≠ e → h.get? b = some u → h'.get? b = some u) (heo : ∃ u, h'.get? e = some u)
    (new : ObjOk P w (upd H x o') h' x o') : HOk P w (upd H x o') h' := fun b u q => by
  have nown : ∀ c y, H c = some (.own y) → c ≠ x := fun c y r z => by subst z; rw [r] at mu; exact mu
  have ntup : ∀ c xs, H c = some (.tup xs) → c ≠ x := fun c xs r z => by subst z; rw [r] at mu; exact mu
  by_cases hb : b = x
  · subst hb; rw [upd_same] at q; cases q; exact new
  · rw [upd_ne hb] at q
    by_cases hbe : b = e
    · have q' : H b = some (.own x) := by
        rcases he with z | z
        · exact absurd (hbe.trans z) hb
        · rw [hbe]; exact z
      rw [q] at q'; cases q'
      obtain ⟨v, hv⟩ := heo
      exact ⟨v, by rw [hbe]; exact hv⟩
    · refine (ok b u q).stay (fun c v hc r => k c v ?_ r) (fun c r => by rw [upd_ne (nown c b r)]; exact r) fun c xs r => by rw [upd_ne (ntup c xs r)]; exact r
      rcases hc with rfl | hc
      · exact hbe
      · rintro rfl
        rcases he with z | z
        · exact nown c b hc z
        · rw [hc] at z; cases z; exact hb rfl
end
structure Un (fs ex : List Addr) (H H' : Hp) (h h' : Heap) : Prop where
  keep : ∀ b o, h.get? b = some o → H b = none → b ∉ fs → b ∉ ex → h'.get? b = some o
  slot : ∀ b o, h.get? b = some o → H b = none → b ∈ fs → b ∉ ex → ∃ sl, h'.get? b = some { o with slots := sl }
  free : ∀ b o, h.get? b = some o → H b = none → b ∉ ex → H' b = none
  there : ∀ b o, h.get? b = some o → b ∉ ex → ∃ o', h'.get? b = some o'
  tups : ∀ b xs, H b = some (.tup xs) → H' b = some (.tup xs)
  frzs : ∀ b o u, H b = some (.frz o u) → H' b = some (.frz o u)
  tbls : ∀ b ps, H b = some (.tbl ps) → ∃ more, H' b = some (.tbl (ps ++ more))
section
variable {fs fs' ex ex' : List Addr} {H H1 H2 : Hp} {h h1 h2 h' : Heap} {a x e : Addr} {o : HO}
theorem Un.any (u : Un fs ex H H1 h h1) {b : Addr} {ob : Obj} (q : h.get? b = some ob) (n : H b = none) (hx : b ∉ ex) : ∃ sl, h1.get? b = some { ob with slots := sl } := by
  by_cases hb : b ∈ fs
  · exact u.slot b ob q n hb hx
  · exact ⟨ob.slots, u.keep b ob q n hb hx⟩
theorem Un.kept (k : ∀ b u, h.get? b = some u → h'.get? b = some u) : Un fs ex H H h h' :=
  ⟨fun b ob q _ _ _ => k b ob q, fun b ob q _ _ _ => ⟨ob.slots, k b ob q⟩, fun _ _ _ n _ => n, fun b ob q _ => ⟨ob, k b ob q⟩, fun _ _ q => q, fun _ _ _ q => q, fun _ ps q => ⟨#[], by rw [q]; simp⟩⟩
theorem Un.refl : Un fs ex H H h h := Un.kept fun _ _ q => q
theorem Un.laid (k : ∀ b u, h.get? b = some u → h'.get? b = some u) (hp : h.objs.size ≤ a) (hn : H a = none) : Un fs ex H (upd H a o) h h' where
  keep := fun b u q _ _ _ => k b u q
  slot := fun b u q _ _ _ => ⟨u.slots, k b u q⟩
  free := fun b u q n _ => by rw [upd_ne (Nat.ne_of_lt (Nat.lt_of_lt_of_le (Heap.lt_size q) hp))]; exact n
  there := fun b u q _ => ⟨u, k b u q⟩
  tups := fun b xs q => by rw [upd_ne (ne_of_none q hn)]; exact q
  frzs := fun b u xs q => by rw [upd_ne (ne_of_none q hn)]; exact q
  tbls := fun b ps q => ⟨#[], by rw [upd_ne (ne_of_none q hn), q]; simp⟩
theorem Un.write (mu : Mut (H x)) (he : e = x ∨ H e = some (.own x)) (k : ∀ b u, b ≠ e → h.get? b = some u → h'.get? b = some u) (heo : ∃ u, h'.get? e = some u) : Un fs ex H (upd H x o) h h' := by
  have hx : ∀ b, H b = none → b ≠ x := fun b n z => by subst z; rw [n] at mu; exact mu
  have hb : ∀ b, H b = none → b ≠ e := fun b n z => by
    subst z
    rcases he with r | r
    · exact hx b n r
    · rw [n] at r; cases r
  have hm : ∀ b u, H b = some u → ¬ Mut (some u) → b ≠ x := fun b u q nm z => by subst z; rw [q] at mu; exact nm mu
  refine ⟨fun b u q n _ _ => k b u (hb b n) q, fun b u q n _ _ => ⟨u.slots, k b u (hb b n) q⟩, fun b u q n _ => by rw [upd_ne (hx b n)]; exact n, fun b u q _ => ?_,
    fun b xs q => by rw [upd_ne (hm b _ q fun z => z)]; exact q, fun b u xs q => by rw [upd_ne (hm b _ q fun z => z)]; exact q, fun b ps q => ⟨#[], by rw [upd_ne (hm b _ q fun z => z), q]; simp⟩⟩
  by_cases hbe : b = e
  · subst hbe; exact heo
  · exact ⟨u, k b u hbe q⟩
end
def trk (h : Heap) (H : Hp) : List Addr := (List.range h.objs.size).filter fun a => (H a).isSome
def hidT (h : Heap) (H : Hp) : Heap := PySem.W.hideAll h (trk h H)
theorem hidT_size (h : Heap) (H : Hp) : (hidT h H).objs.size = h.objs.size := PySem.W.hideAll_size _ _
theorem hidT_get {h : Heap} {H : Hp} {b : Addr} {o : Obj} (e : h.get? b = some o) (n : H b = none) : (hidT h H).get? b = some o :=
  PySem.W.hideAll_get _ e fun hm => by
    have q : (H b).isSome = true := (List.mem_filter.mp hm).2
    rw [n] at q; simp at q
theorem of_hidT {h : Heap} {H : Hp} {b : Addr} {o : Obj} (e : (hidT h H).get? b = some o) : h.get? b = some o ∧ H b = none := by
  have e' : h.get? b = some o := PySem.W.of_hideAll (trk h H) e
  refine ⟨e', ?_⟩
  cases q : H b with
  | none => rfl
  | some x =>
    have hm : b ∈ trk h H := List.mem_filter.mpr ⟨List.mem_range.mpr (Heap.lt_size e'), by simp [q]⟩
    have z : (hidT h H).get? b = none := PySem.W.hideAll_none (trk h H) hm
    rw [z] at e; cases e
end L2
namespace L2
open PySem PySem.Spec PyProof.Rows
/-- the module's facts, over the base: the heap at the law's entry without what is tracked there -/
structure Mod (K : PySem.W.Frag) (mg : Str → Option Value) (base : Heap) : Prop where
  kin : K.In base
  glob : base.Ns mainGlobals mg
  blt : ∃ mb, base.Ns builtinsNs mb ∧ ∀ x : Str, x ≠ "__name__" → mb x = bootBuiltins x
  nolimit : base.NoLimit
/-- the context: a def's body (or a comprehension's block) running. base: fixed through the whole law; s₀, H₀: the entry; outer: the frames whose slots others may change (a def's callers); stack: all frames that run;
   ex: iterators that were made ahead of the entry and are walked here (a comprehension's); fn: the names whose cells were made at the entry (a def: all; a comprehension's block: its own); calm: not within an except suite; pn: pins that every state bears; xe: what is wanted of an exception that leaves the code -/
structure Cx where
  prog : Program
  w : World
  K : PySem.W.Frag
  mg : Str → Option Value
  base : Heap
  A : Around
  N : List Str
  s_0 : Shared
  H_0 : Hp
  env : Env
  outer : List Env
  stack : List Env
  ex : List Addr
  fn : Str → Bool
  calm : Bool
  pn : List (Addr × Obj)
  xe : Value → Shared → Prop
/-- the callers' frames -/
def frs (l : List Env) : List Addr := l.filterMap (·.frame)
abbrev Cx.fs (X : Cx) : List Addr := frs X.outer
def Vis (sc : Scope) (x : Str) : Prop := sc.names.lookup x = some .local ∨ sc.names.lookup x = some .cell ∨ sc.names.lookup x = some .free
def Loc (sc : Scope) (x : Str) : Prop := sc.names.lookup x = some .local ∨ sc.names.lookup x = some .cell
def Look (env : Env) (h : Heap) (m : Str → Option Value) (x : Str) (u : Value) : Prop :=
  (env.kindOf x = some .local ∧ m x = some u) ∨ ((env.kindOf x = some .cell ∨ env.kindOf x = some .free) ∧ ∃ c, env.cells.lookup x = some c ∧ h.IsCell c (some u))
structure Cx.Ok (X : Cx) : Prop where
  mod : Mod X.K X.mg X.base
  kind : X.env.scope.kind = .function
  glob : X.env.globals = mainGlobals
  blt : X.env.builtins = builtinsNs
  above : X.s_0.heap.objs.size ≤ X.env.locals
  inj : ∀ x y c, X.env.cells.lookup x = some c → X.env.cells.lookup y = some c → x = y
  has : ∀ x, (X.env.kindOf x = some .cell ∨ X.env.kindOf x = some .free) → ∃ c, X.env.cells.lookup x = some c
  cab : ∀ x c, X.fn x = true → X.env.cells.lookup x = some c → X.s_0.heap.objs.size ≤ c
  hd : X.calm = true → X.A.handled = none
  frames : X.A.frames = some X.stack
  stk : X.stack = X.outer ∨ (X.stack = X.env :: X.outer ∧ X.env.frame = some X.env.locals)
  exf : ∀ b ∈ X.ex, b ≠ X.env.locals ∧ ∀ x c, X.env.cells.lookup x = some c → c ≠ b
  bs : ∀ b o, X.base.get? b = some o → X.s_0.heap.get? b = some o ∧ X.H_0 b = none
  bsz : X.base.objs.size ≤ X.s_0.heap.objs.size
  noex : ∀ b o, X.base.get? b = some o → b ∉ X.ex
  exfs : ∀ b ∈ X.ex, b ∉ X.fs
  funs : X.s_0.heap.FunFrames X.base X.outer
  frf : ∀ b ∈ X.fs, X.H_0 b = none
structure Inv (X : Cx) (pins : List (Addr × Obj)) (σ : List (Option V)) (H : Hp) (s : Shared) : Prop where
  ok : X.Ok
  os : s.os = X.s_0.os
  bare : AllBare s.gens
  base : Un X.fs X.ex X.H_0 H X.s_0.heap s.heap
  loc : ∃ m, s.heap.Ns X.env.locals m ∧ ∀ (i : Nat) (x : Str) (v : V), X.N[i]? = some x → σ[i]? = some (some v) → Vis X.env.scope x → ∃ u, RelV v u ∧ Look X.env s.heap m x u
  cell : ∀ x c, X.env.cells.lookup x = some c → ∃ v, s.heap.IsCell c v
  free : H X.env.locals = none
  freeC : ∀ x c, X.env.cells.lookup x = some c → H c = none
  pin : ∀ p ∈ X.pn ++ pins, s.heap.get? p.1 = some p.2 ∧ H p.1 = none ∧ p.1 ≠ X.env.locals ∧ p.1 ∉ X.fs ∧ ∀ v, p.2.data ≠ .cell v
  hok : HOk X.prog X.w H s.heap
  len : σ.length = X.N.length
section
variable {X : Cx} {pins : List (Addr × Obj)} {σ : List (Option V)} {H H' : Hp} {s : Shared} {h' : Heap}
theorem Cx.Ok.nofr (ok : X.Ok) {b : Addr} {o : Obj} (e : X.base.get? b = some o) : b ∉ X.fs := fun hb => by
  have := (ok.funs.mem hb).1
  rw [e] at this; cases this
theorem Inv.bs (I : Inv X pins σ H s) : ∀ b o, X.base.get? b = some o → s.heap.get? b = some o ∧ H b = none := fun b o e =>
  ⟨I.base.keep b o (I.ok.bs b o e).1 (I.ok.bs b o e).2 (I.ok.nofr e) (I.ok.noex b o e), I.base.free b o (I.ok.bs b o e).1 (I.ok.bs b o e).2 (I.ok.noex b o e)⟩
theorem Inv.bk (I : Inv X pins σ H s) : ∀ b o, X.base.get? b = some o → s.heap.get? b = some o := fun b o e => (I.bs b o e).1
theorem Inv.mod (I : Inv X pins σ H s) : Mod X.K X.mg X.base := I.ok.mod
theorem Inv.kIn (I : Inv X pins σ H s) : X.K.In s.heap := I.ok.mod.kin.keeps I.bk
/-- the frame over the base: for OpenK's rules (K.In X.base is I.mod.kin) -/
theorem Inv.fr (I : Inv X pins σ H s) : ∃ m, Fr X.base X.env.locals s.heap m :=
  let ⟨m, hn, _⟩ := I.loc
  ⟨m, hn, I.bk, Nat.le_trans I.ok.bsz I.ok.above⟩
theorem Inv.lt (I : Inv X pins σ H s) : X.env.locals < s.heap.objs.size := let ⟨_, hn, _⟩ := I.loc; hn.lt
theorem Inv.sz (I : Inv X pins σ H s) : X.s_0.heap.objs.size ≤ s.heap.objs.size := Nat.le_trans I.ok.above (Nat.le_of_lt I.lt)
theorem Inv.nofs (I : Inv X pins σ H s) {a : Addr} (h : s.heap.objs.size ≤ a) : a ∉ X.fs := fun hb => by
  obtain ⟨_, o, ho, _⟩ := I.ok.funs.mem hb
  exact absurd (Nat.lt_of_lt_of_le (Heap.lt_size ho) (Nat.le_trans I.sz h)) (Nat.lt_irrefl _)
theorem Inv.cne (I : Inv X pins σ H s) : ∀ x c, X.env.cells.lookup x = some c → c ≠ X.env.locals := fun x c e z => by
  obtain ⟨v, o, ho, hd⟩ := I.cell x c e
  obtain ⟨m, ⟨o', es, ep, ho', hd', _⟩, _⟩ := I.loc
  rw [z, ho'] at ho; cases ho; rw [hd'] at hd; cases hd
theorem Inv.funs (I : Inv X pins σ H s) : s.heap.FunFrames X.base X.outer := by
  have all : ∀ (l : List Env), (∀ b ∈ frs l, b ∈ X.fs) → X.s_0.heap.FunFrames X.base l → s.heap.FunFrames X.base l := by
    intro l
    induction l with
    | nil => intro _ _; trivial
    | cons env r ih =>
      intro hs hl
      obtain ⟨hk, ⟨L, o, hf, hn, ho, hd⟩, hr⟩ := hl
      have hL : L ∈ X.fs := hs L (by unfold frs; rw [List.filterMap_cons, hf]; exact List.mem_cons_self)
      obtain ⟨sl, e⟩ := I.base.slot L o ho (I.ok.frf L hL) hL fun z => I.ok.exfs L z hL
      exact ⟨hk, ⟨L, _, hf, hn, e, hd⟩, ih (fun b hb => hs b (by unfold frs; rw [List.filterMap_cons, hf]; exact List.mem_cons_of_mem _ hb)) hr⟩
  exact all X.outer (fun _ hb => hb) I.ok.funs
/-- the frames that run, for a call -/
theorem Inv.stack (I : Inv X pins σ H s) : s.heap.FunFrames X.base X.stack := by
  rcases I.ok.stk with e | ⟨e, hf⟩
  · rw [e]; exact I.funs
  · rw [e]
    obtain ⟨m, hn, _⟩ := I.loc
    refine .cons (by rw [I.ok.kind]; decide) hf hn ?_ I.funs
    exact Heap.get?_none_of_le (Nat.le_trans I.ok.bsz I.ok.above)
theorem Inv.stkSub (I : Inv X pins σ H s) : ∀ b ∈ frs X.stack, b ∈ X.env.locals :: X.fs := fun b hb => by
  rcases I.ok.stk with e | ⟨e, hf⟩
  · rw [e] at hb; exact List.mem_cons_of_mem _ hb
  · rw [e] at hb
    unfold frs at hb
    rw [List.filterMap_cons, hf] at hb
    exact hb
theorem Inv.stkFree (I : Inv X pins σ H s) : ∀ b ∈ frs X.stack, H b = none := fun b hb => by
  rcases List.mem_cons.mp (I.stkSub b hb) with e | hb
  · rw [e]; exact I.free
  · obtain ⟨_, o, ho, _⟩ := I.ok.funs.mem hb
    exact I.base.free b o ho (I.ok.frf b hb) fun z => I.ok.exfs b z hb
/-- THE STEP: the untracked objects but the frame and the records at ch are kept (the callers' frames up to slots), the frame's map is kept, the new abstract heap is held -/
theorem Inv.step {g' : Array GenState} {t' : Nat} {d' : Drawn} {ch : List Addr} (I : Inv X pins σ H s)
    (hch : ∀ b ∈ ch, (b ∈ X.ex ∨ X.s_0.heap.objs.size ≤ b) ∧ b ≠ X.env.locals ∧ (∀ x c, X.env.cells.lookup x = some c → c ≠ b) ∧ ∀ p ∈ X.pn ++ pins, p.1 ≠ b)
    (keep : ∀ b o, b ≠ X.env.locals → b ∉ X.fs → b ∉ ch → s.heap.get? b = some o → H b = none → h'.get? b = some o)
    (slot : ∀ b o, b ≠ X.env.locals → b ∈ X.fs → b ∉ ch → s.heap.get? b = some o → H b = none → ∃ sl, h'.get? b = some { o with slots := sl }) (free : ∀ b o, b ∉ ch → s.heap.get? b = some o → H b = none → H' b = none)
    (there : ∀ b o, b ∉ ch → s.heap.get? b = some o → ∃ o', h'.get? b = some o')
    (tups : ∀ b xs, H b = some (.tup xs) → H' b = some (.tup xs)) (frzs : ∀ b o u, H b = some (.frz o u) → H' b = some (.frz o u)) (tbls : ∀ b ps, H b = some (.tbl ps) → ∃ more, H' b = some (.tbl (ps ++ more)))
    (ns : ∀ m, s.heap.Ns X.env.locals m → h'.Ns X.env.locals m) (hok : HOk X.prog X.w H' h') (hg : AllBare g') :
    Inv X pins σ H' { s with heap := h', gens := g', drawn := d', toks := t' } := by
  have neL : ∀ b o, X.s_0.heap.get? b = some o → b ≠ X.env.locals := fun b o e => Nat.ne_of_lt (Nat.lt_of_lt_of_le (Heap.lt_size e) I.ok.above)
  have neC : ∀ b o, X.s_0.heap.get? b = some o → b ∉ X.ex → b ∉ ch := fun b o e hx hb => by
    rcases (hch b hb).1 with z | z
    · exact hx z
    · exact absurd (Nat.lt_of_lt_of_le (Heap.lt_size e) z) (Nat.lt_irrefl _)
  have cellK : ∀ x c, X.env.cells.lookup x = some c → ∀ v, s.heap.IsCell c v → h'.IsCell c v := fun x c e v ⟨o, ho, hd⟩ => by
    have nch : c ∉ ch := fun z => (hch c z).2.2.1 x c e rfl
    by_cases hc : c ∈ X.fs
    · obtain ⟨sl, q⟩ := slot c o (I.cne x c e) hc nch ho (I.freeC x c e)
      exact ⟨_, q, hd⟩
    · exact ⟨o, keep c o (I.cne x c e) hc nch ho (I.freeC x c e), hd⟩
  refine ⟨I.ok, I.os, hg, ⟨fun b o e n hb hx => ?_, fun b o e n hb hx => ?_, fun b o e n hx => ?_, fun b o e hx => ?_, fun b xs e => tups b xs (I.base.tups b xs e), fun b o xs e => frzs b o xs (I.base.frzs b o xs e), fun b ps e => ?_⟩, ?_, fun x c e => ?_, ?_, fun x c e => ?_, fun p hp => ?_, hok, I.len⟩
  · exact keep b o (neL b o e) hb (neC b o e hx) (I.base.keep b o e n hb hx) (I.base.free b o e n hx)
  · obtain ⟨sl, e1⟩ := I.base.slot b o e n hb hx
    obtain ⟨sl', e2⟩ := slot b _ (neL b o e) hb (neC b o e hx) e1 (I.base.free b o e n hx)
    exact ⟨sl', e2⟩
  · obtain ⟨o', e1⟩ := I.base.there b o e hx
    exact free b o' (neC b o e hx) e1 (I.base.free b o e n hx)
  · obtain ⟨o', e1⟩ := I.base.there b o e hx
    exact there b o' (neC b o e hx) e1
  · obtain ⟨m1, e1⟩ := I.base.tbls b ps e
    obtain ⟨m2, e2⟩ := tbls b _ e1
    exact ⟨m1 ++ m2, by rw [e2, Array.append_assoc]⟩
  · obtain ⟨m, hn, hl⟩ := I.loc
    refine ⟨m, ns m hn, fun i x v e1 e2 e3 => ?_⟩
    obtain ⟨u, r, l⟩ := hl i x v e1 e2 e3
    refine ⟨u, r, ?_⟩
    rcases l with l | ⟨k, c, e, z⟩
    · exact .inl l
    · exact .inr ⟨k, c, e, cellK x c e _ z⟩
  · obtain ⟨v, z⟩ := I.cell x c e
    exact ⟨v, cellK x c e v z⟩
  · obtain ⟨m, ⟨o, _, _, ho, _⟩, _⟩ := I.loc
    exact free _ o (fun z => (hch _ z).2.1 rfl) ho I.free
  · obtain ⟨v, o, ho, hd⟩ := I.cell x c e
    exact free c o (fun z => (hch c z).2.2.1 x c e rfl) ho (I.freeC x c e)
  · obtain ⟨e, n, ne, nf, d⟩ := I.pin p hp
    have nch : p.1 ∉ ch := fun z => (hch p.1 z).2.2.2 p hp rfl
    exact ⟨keep p.1 p.2 ne nf nch e n, free p.1 p.2 nch e n, ne, nf, d⟩
/-- .. where the frame's own object is kept too -/
theorem Inv.un {t' : Nat} (I : Inv X pins σ H s) (u : Un X.fs [] H H' s.heap h') (hok : HOk X.prog X.w H' h') : Inv X pins σ H' { s with heap := h', toks := t' } := by
  obtain ⟨m, ⟨o, es, ep, ho, r⟩, _⟩ := id I.loc
  obtain ⟨sl, hL⟩ := u.any ho I.free (by simp)
  exact I.step (g' := s.gens) (d' := s.drawn) (ch := []) (fun _ z => nomatch z) (fun b o _ hb _ e n => u.keep b o e n hb (by simp)) (fun b o _ hb _ e n => u.slot b o e n hb (by simp)) (fun b o _ e n => u.free b o e n (by simp)) (fun b o _ e => u.there b o e (by simp)) u.tups u.frzs u.tbls (fun m' hm => by
    obtain ⟨o', es', ep', ho', r'⟩ := hm
    rw [ho] at ho'; cases ho'
    exact ⟨_, es', ep', hL, r'⟩) hok I.bare
/-- behind a call (or a comprehension's block): the slots of this frame may have changed too, the records at ch may have turned -/
theorem Inv.call {g' : Array GenState} {t' : Nat} {d' : Drawn} {ch : List Addr} (I : Inv X pins σ H s) (u : Un (frs X.stack) ch H H' s.heap h') (hok : HOk X.prog X.w H' h') (hg : AllBare g')
    (hch : ∀ b ∈ ch, (b ∈ X.ex ∨ X.s_0.heap.objs.size ≤ b) ∧ b ≠ X.env.locals ∧ (∀ x c, X.env.cells.lookup x = some c → c ≠ b) ∧ ∀ p ∈ X.pn ++ pins, p.1 ≠ b) :
    Inv X pins σ H' { s with heap := h', gens := g', drawn := d', toks := t' } := by
  obtain ⟨m, ⟨o, es, ep, ho, r⟩, _⟩ := id I.loc
  obtain ⟨sl, hL⟩ := u.any ho I.free fun z => (hch _ z).2.1 rfl
  exact I.step (ch := ch) hch (fun b o hL hb hc e n => u.keep b o e n (fun z => (List.mem_cons.mp (I.stkSub b z)).elim hL hb) hc) (fun b o _ _ hc e n => u.any e n hc) (fun b o hc e n => u.free b o e n hc) (fun b o hc e => u.there b o e hc) u.tups u.frzs u.tbls (fun m' hm => by
    obtain ⟨o', es', ep', ho', r'⟩ := hm
    rw [ho] at ho'; cases ho'
    exact ⟨_, es', ep', hL, r'⟩) hok hg
/-- an untracked record of ours (an iterator) has turned -/
theorem Inv.turned {t' : Nat} {it : Addr} (I : Inv X pins σ H s) (k : ∀ b o, b ≠ it → s.heap.get? b = some o → h'.get? b = some o) (hn : H it = none) (hL : it ≠ X.env.locals)
    (h1 : it ∈ X.ex ∨ X.s_0.heap.objs.size ≤ it) (h2 : ∀ x c, X.env.cells.lookup x = some c → c ≠ it) (h3 : ∀ p ∈ X.pn ++ pins, p.1 ≠ it) : Inv X pins σ H { s with heap := h', toks := t' } := by
  have nit : ∀ b u, H b = some u → b ≠ it := fun b u e z => by rw [z, hn] at e; cases e
  refine I.step (g' := s.gens) (d' := s.drawn) (ch := [it]) (fun b hb => ?_) (fun b o _ _ hc e _ => k b o (fun z => hc (by simp [z])) e) (fun b o _ _ hc e _ => ⟨o.slots, k b o (fun z => hc (by simp [z])) e⟩) (fun _ _ _ _ n => n)
    (fun b o hc e => ⟨o, k b o (fun z => hc (by simp [z])) e⟩) (fun _ _ e => e) (fun _ _ _ e => e) (fun b ps e => ⟨#[], by rw [e]; simp⟩) (fun m hm => ?_) (fun b u e => ?_) I.bare
  · have e : b = it := by simpa using hb
    subst e
    exact ⟨h1, hL, h2, h3⟩
  · obtain ⟨o, es, ep, ho, r⟩ := hm
    exact ⟨o, es, ep, k _ o (Ne.symm hL) ho, r⟩
  · refine (I.hok b u e).stay (fun c v hc q => k c v ?_ q) (fun _ q => q) fun _ _ q => q
    rcases hc with z | z
    · rw [z]; exact nit b u e
    · exact nit c _ z
theorem Inv.tok (I : Inv X pins σ H s) (t : Nat) : Inv X pins σ H { s with toks := t } := I.un (h' := s.heap) (t' := t) Un.refl I.hok
/-- all objects kept -/
theorem Inv.kept {t' : Nat} (I : Inv X pins σ H s) (k : ∀ b u, s.heap.get? b = some u → h'.get? b = some u) : Inv X pins σ H { s with heap := h', toks := t' } := I.un (Un.kept k) (I.hok.kept k)
/-- a new object laid and tracked -/
theorem Inv.laid {a : Addr} {o : HO} {t' : Nat} (I : Inv X pins σ H s) (k : ∀ b u, s.heap.get? b = some u → h'.get? b = some u) (hp : s.heap.objs.size ≤ a) (new : ObjOk X.prog X.w (upd H a o) h' a o) :
    Inv X pins σ (upd H a o) { s with heap := h', toks := t' } := I.un (Un.laid k hp (I.hok.fresh hp)) (I.hok.laid k hp new)
/-- an object written -/
theorem Inv.write {x e : Addr} {o : HO} {t' : Nat} (I : Inv X pins σ H s) (mu : Mut (H x)) (he : e = x ∨ H e = some (.own x)) (k : ∀ b u, b ≠ e → s.heap.get? b = some u → h'.get? b = some u) (heo : ∃ u, h'.get? e = some u)
    (new : ObjOk X.prog X.w (upd H x o) h' x o) : Inv X pins σ (upd H x o) { s with heap := h', toks := t' } := I.un (Un.write mu he k heo) (I.hok.write mu he k heo new)
/-- forgetting slots, pins -/
theorem Inv.weak {σ' : List (Option V)} (I : Inv X pins σ H s) (hl : σ'.length = σ.length) (w : ∀ (i : Nat) v, σ'[i]? = some (some v) → σ[i]? = some (some v)) : Inv X pins σ' H s :=
  ⟨I.ok, I.os, I.bare, I.base, let ⟨m, hn, hl'⟩ := I.loc; ⟨m, hn, fun i x v e1 e2 e3 => hl' i x v e1 (w i v e2) e3⟩, I.cell, I.free, I.freeC, I.pin, I.hok, hl.trans I.len⟩
theorem Inv.pins_of {pins' : List (Addr × Obj)} (I : Inv X pins σ H s) (h : ∀ p ∈ pins', s.heap.get? p.1 = some p.2 ∧ H p.1 = none ∧ p.1 ≠ X.env.locals ∧ p.1 ∉ X.fs ∧ ∀ v, p.2.data ≠ .cell v) : Inv X pins' σ H s :=
  ⟨I.ok, I.os, I.bare, I.base, I.loc, I.cell, I.free, I.freeC, fun p hp => (List.mem_append.mp hp).elim (fun z => I.pin p (List.mem_append_left _ z)) (h p), I.hok, I.len⟩
theorem nodup_ix {N : List Str} (hN : N.Nodup) {i j : Nat} {x : Str} (a : N[i]? = some x) (b : N[j]? = some x) : i = j := by
  obtain ⟨h1, e1⟩ := List.getElem?_eq_some_iff.mp a
  obtain ⟨h2, e2⟩ := List.getElem?_eq_some_iff.mp b
  exact (List.getElem_inj hN).mp (e1.trans e2.symm)
/-- a name is stored; what changed -/
theorem store_ok2 {M : Model} {A : Around} {E : Value → Shared → Prop} {i : Nat} {x : Str} {v : V} {u : Value} {Q : Unit → Shared → Prop} (I : Inv X pins σ H s) (hN : X.N.Nodup) (hi : X.N[i]? = some x) (hx : Loc X.env.scope x) (r : RelV v u)
    (h : ∀ s', Inv X pins (σ.set i (some v)) H s' → (∃ a, Heap.SameBut a s.heap s'.heap ∧ (a = X.env.locals ∨ X.env.cells.lookup x = some a)) → Q () s') (hf : X.fn x = true ∨ X.env.scope.names.lookup x = some .local := by first | exact .inl rfl | exact .inr rfl | assumption) : wpAny M A (storeName X.env x u) Q E s := by
  obtain ⟨m, hn, hl⟩ := id I.loc
  have hcls : (X.env.scope.kind == .class || (X.env.scope.kind == .module && X.env.locals != X.env.globals)) = false := by rw [I.ok.kind]; rfl
  have hiσ : i < σ.length := by rw [I.len]; exact (List.getElem?_eq_some_iff.mp hi).1
  have cne := I.cne
  have tracked : ∀ {a : Addr} {h' : Heap}, (∃ o, s.heap.get? a = some o ∧ H a = none) → Heap.SameBut a s.heap h' → HOk X.prog X.w H h' := fun {a h'} ha hs b ob e => by
    obtain ⟨_, _, hfree⟩ := ha
    refine (I.hok b ob e).stay (fun c w' hc q => (hs.2 c ?_).trans q) (fun _ q => q) fun _ _ q => q
    rintro rfl
    rcases hc with rfl | hc
    · rw [hfree] at e; cases e
    · rw [hfree] at hc; cases hc
  rcases hx with hk | hk
  · refine wpAny_storeName_local hk hn (fun h' hn' hs => ?_) hcls
    obtain ⟨oL, _, _, hoL, _⟩ := id hn
    refine h _ ⟨I.ok, I.os, I.bare, ⟨fun b o e n hb hx => ?_, fun b o e n hb hx => ?_, I.base.free, fun b o e hx => ?_, I.base.tups, I.base.frzs, I.base.tbls⟩, ⟨_, hn', fun j y v' e1 e2 e3 => ?_⟩, fun y c e => ?_, I.free, I.freeC, fun p hp => ?_, tracked ⟨oL, hoL, I.free⟩ hs, by simpa using I.len⟩ ⟨_, hs, .inl rfl⟩
    · exact (hs.2 b (Nat.ne_of_lt (Nat.lt_of_lt_of_le (Heap.lt_size e) I.ok.above))).trans (I.base.keep b o e n hb hx)
    · obtain ⟨sl, e1⟩ := I.base.slot b o e n hb hx
      exact ⟨sl, (hs.2 b (Nat.ne_of_lt (Nat.lt_of_lt_of_le (Heap.lt_size e) I.ok.above))).trans e1⟩
    · obtain ⟨o', e1⟩ := I.base.there b o e hx
      exact ⟨o', (hs.2 b (Nat.ne_of_lt (Nat.lt_of_lt_of_le (Heap.lt_size e) I.ok.above))).trans e1⟩
    · by_cases hj : j = i
      · subst hj
        rw [hi] at e1; cases e1
        rw [List.getElem?_set_self hiσ] at e2
        cases e2
        exact ⟨u, r, .inl ⟨hk, by simp⟩⟩
      · rw [List.getElem?_set_ne (Ne.symm hj)] at e2
        obtain ⟨u', r', q⟩ := hl j y v' e1 e2 e3
        refine ⟨u', r', ?_⟩
        rcases q with ⟨k, e⟩ | ⟨k, c, e, z⟩
        · refine .inl ⟨k, ?_⟩
          have : y ≠ x := fun e => hj (nodup_ix hN e1 (e ▸ hi))
          simp [this, e]
        · exact .inr ⟨k, c, e, z.sameBut hs (cne y c e)⟩
    · obtain ⟨w', z⟩ := I.cell y c e
      exact ⟨w', z.sameBut hs (cne y c e)⟩
    · obtain ⟨e, n, ne, nf, d⟩ := I.pin p hp
      exact ⟨(hs.2 p.1 ne).trans e, n, ne, nf, d⟩
  · have hfn : X.fn x = true := by
      rcases hf with z | z
      · exact z
      · rw [z] at hk; cases hk
    obtain ⟨c, hc⟩ := I.ok.has x (.inl hk)
    obtain ⟨w', z⟩ := I.cell x c hc
    refine wpAny_storeName_cell I.ok.kind hk hc z (fun h' hc' hs => ?_)
    obtain ⟨oc, hoc, hocd⟩ := id z
    refine h { s with heap := h' } ⟨I.ok, I.os, I.bare, ⟨fun b o e n hb hx => ?_, fun b o e n hb hx => ?_, I.base.free, fun b o e hx => ?_, I.base.tups, I.base.frzs, I.base.tbls⟩, ⟨m, hn.sameBut hs (Ne.symm (cne x c hc)), fun j y v' e1 e2 e3 => ?_⟩, fun y c' e => ?_, I.free, I.freeC, fun p hp => ?_, tracked ⟨oc, hoc, I.freeC x c hc⟩ hs, by simpa using I.len⟩ ⟨c, hs, .inr hc⟩
    · exact (hs.2 b (Nat.ne_of_lt (Nat.lt_of_lt_of_le (Heap.lt_size e) (I.ok.cab x c hfn hc)))).trans (I.base.keep b o e n hb hx)
    · obtain ⟨sl, e1⟩ := I.base.slot b o e n hb hx
      exact ⟨sl, (hs.2 b (Nat.ne_of_lt (Nat.lt_of_lt_of_le (Heap.lt_size e) (I.ok.cab x c hfn hc)))).trans e1⟩
    · obtain ⟨o', e1⟩ := I.base.there b o e hx
      exact ⟨o', (hs.2 b (Nat.ne_of_lt (Nat.lt_of_lt_of_le (Heap.lt_size e) (I.ok.cab x c hfn hc)))).trans e1⟩
    · by_cases hj : j = i
      · subst hj
        rw [hi] at e1; cases e1
        rw [List.getElem?_set_self hiσ] at e2
        cases e2
        exact ⟨u, r, .inr ⟨.inl hk, c, hc, hc'⟩⟩
      · rw [List.getElem?_set_ne (Ne.symm hj)] at e2
        obtain ⟨u', r', q⟩ := hl j y v' e1 e2 e3
        refine ⟨u', r', ?_⟩
        rcases q with q | ⟨k, c', e, z'⟩
        · exact .inl q
        · refine .inr ⟨k, c', e, z'.sameBut hs ?_⟩
          rintro rfl
          exact hj (nodup_ix hN e1 (I.ok.inj _ _ _ e hc ▸ hi))
    · by_cases hcc : c' = c
      · subst hcc; exact ⟨_, hc'⟩
      · obtain ⟨w2, z2⟩ := I.cell y c' e
        exact ⟨w2, z2.sameBut hs hcc⟩
    · obtain ⟨e, n, ne, nf, d⟩ := I.pin p hp
      refine ⟨(hs.2 p.1 ?_).trans e, n, ne, nf, d⟩
      intro q
      rw [q, hoc] at e
      have q' : oc = p.2 := Option.some.inj e
      exact d w' (by rw [← q']; exact hocd)
theorem store_ok {M : Model} {A : Around} {E : Value → Shared → Prop} {i : Nat} {x : Str} {v : V} {u : Value} {Q : Unit → Shared → Prop} (I : Inv X pins σ H s) (hN : X.N.Nodup) (hi : X.N[i]? = some x) (hx : Loc X.env.scope x) (r : RelV v u)
    (h : ∀ s', Inv X pins (σ.set i (some v)) H s' → Q () s') (hf : X.fn x = true ∨ X.env.scope.names.lookup x = some .local := by first | exact .inl rfl | exact .inr rfl | assumption) : wpAny M A (storeName X.env x u) Q E s :=
  store_ok2 I hN hi hx r (fun s' I' _ => h s' I') hf
/-- behind a call or a block, the state as it is -/
theorem Inv.call' {s' : Shared} {ch : List Addr} (I : Inv X pins σ H s) (ho : s'.os = s.os) (u : Un (frs X.stack) ch H H' s.heap s'.heap) (hok : HOk X.prog X.w H' s'.heap) (hg : AllBare s'.gens)
    (hch : ∀ b ∈ ch, (b ∈ X.ex ∨ X.s_0.heap.objs.size ≤ b) ∧ b ≠ X.env.locals ∧ (∀ x c, X.env.cells.lookup x = some c → c ≠ b) ∧ ∀ p ∈ X.pn ++ pins, p.1 ≠ b) : Inv X pins σ H' s' := by
  obtain ⟨h', g', d', t', o'⟩ := s'
  have e : o' = s.os := ho
  subst e
  exact I.call (g' := g') (t' := t') (d' := d') u hok hg hch
end
/-- an exception: its class, its own dict's address (where it has one), the abstract heap behind it -/
abbrev XK := Value → Option Addr → Hp → Prop
abbrev St := List (Option V)
abbrev VK := V → Hp → Prop
/-- an expression's reading; a test's; an argument list's -/
abbrev TE := St → Hp → VK → Prop
abbrev TT := St → Hp → (Bool → Hp → Prop) → Prop
abbrev TA := St → Hp → (List V → Hp → Prop) → Prop
/-- what is wanted behind a statement -/
structure Ends where
  nx : St → Hp → Prop
  rt : VK
  bk : St → Hp → Prop := fun _ _ => False
  ct : St → Hp → Prop := fun _ _ => False
abbrev TS := Ends → St → Hp → Prop
def EP (X : Cx) (pins : List (Addr × Obj)) (σ : St) (Q : VK) (u : Value) (s' : Shared) : Prop := ∃ v H', Inv X pins σ H' s' ∧ RelV v u ∧ Q v H'
def TP (X : Cx) (pins : List (Addr × Obj)) (σ : St) (Q : Bool → Hp → Prop) (b : Bool) (s' : Shared) : Prop := ∃ H', Inv X pins σ H' s' ∧ Q b H'
def AP (X : Cx) (pins : List (Addr × Obj)) (σ : St) (Q : List V → Hp → Prop) (us : List Value) (s' : Shared) : Prop := ∃ vs H', Inv X pins σ H' s' ∧ Vals vs us ∧ Q vs H'
def SP (X : Cx) (pins : List (Addr × Obj)) (D : Ends) (f : Flow) (s' : Shared) : Prop :=
  match f with
  | .next => ∃ σ' H', Inv X pins σ' H' s' ∧ D.nx σ' H'
  | .brk => ∃ σ' H', Inv X pins σ' H' s' ∧ D.bk σ' H'
  | .cont => ∃ σ' H', Inv X pins σ' H' s' ∧ D.ct σ' H'
  | .ret u => ∃ v σ' H', Inv X pins σ' H' s' ∧ RelV v u ∧ D.rt v H'
def PE (X : Cx) (e : Expr) (t : TE) : Prop :=
  ∀ (pins : List (Addr × Obj)) (s : Shared) (σ : St) (H : Hp) (Q : VK), Inv X pins σ H s → t σ H Q → wpAny (model X.prog X.w) X.A (eval e X.env) (EP X pins σ Q) X.xe s
def PT (X : Cx) (e : Expr) (t : TT) : Prop :=
  ∀ (pins : List (Addr × Obj)) (s : Shared) (σ : St) (H : Hp) (Q : Bool → Hp → Prop), Inv X pins σ H s → t σ H Q → wpAny (model X.prog X.w) X.A (isTrue e X.env (eval e X.env)) (TP X pins σ Q) X.xe s
/-- a test whatever its 'whole' is (and, or) -/
def PW (X : Cx) (e : Expr) (t : TT) : Prop :=
  ∀ (whole : Sem Value) (pins : List (Addr × Obj)) (s : Shared) (σ : St) (H : Hp) (Q : Bool → Hp → Prop), Inv X pins σ H s → t σ H Q → wpAny (model X.prog X.w) X.A (isTrue e X.env whole) (TP X pins σ Q) X.xe s
theorem PW.pt {X : Cx} {e : Expr} {t : TT} (h : PW X e t) : PT X e t := h _
/-- an argument list (no star), from the left -/
def PA (X : Cx) (es : List Expr) (t : TA) : Prop :=
  ∀ (pos : Pos) (pins : List (Addr × Obj)) (s : Shared) (σ : St) (H : Hp) (Q : List V → Hp → Prop), Inv X pins σ H s → t σ H Q → wpAny (model X.prog X.w) X.A (spliced (backTo pos (starEach es X.env))) (AP X pins σ Q) X.xe s
def PS (X : Cx) (st : Stmt) (t : TS) : Prop :=
  ∀ (pins : List (Addr × Obj)) (s : Shared) (σ : St) (H : Hp) (D : Ends), Inv X pins σ H s → t D σ H → wpAny (model X.prog X.w) X.A (exec st X.env) (SP X pins D) X.xe s
def PSs (X : Cx) (st : List Stmt) (t : TS) : Prop :=
  ∀ (pins : List (Addr × Obj)) (s : Shared) (σ : St) (H : Hp) (D : Ends), Inv X pins σ H s → t D σ H → wpAny (model X.prog X.w) X.A (execs st X.env) (SP X pins D) X.xe s
/-- weaken the end -/
theorem thn {α : Type} {t : Sem α} {Q Q' : α → Shared → Prop} {M : Model} {A : Around} {E : Value → Shared → Prop} {s : Shared} (h : wpAny M A t Q E s) (hQ : ∀ a s, Q a s → Q' a s) : wpAny M A t Q' E s := wpAny_mono h hQ fun _ _ x => x
end L2
namespace L2
open PySem PySem.Spec PyProof.Rows
section
variable {X : Cx}
/-- two expressions in a row -/
theorem bin {a b : Expr} {ta tb : TE} (ha : PE X a ta) (hb : PE X b tb) {pins : List (Addr × Obj)} {s : Shared} {σ : St} {H : Hp} {R : V → V → Hp → Prop} (I : Inv X pins σ H s) (h : ta σ H fun x H1 => tb σ H1 fun y H2 => R x y H2)
    {α : Type} {Q : α → Shared → Prop} {f : Value → Value → Sem α}
    (hf : ∀ v u s2 x y H2, Inv X pins σ H2 s2 → RelV x v → RelV y u → R x y H2 → wpAny (model X.prog X.w) X.A (f v u) Q X.xe s2) :
    wpAny (model X.prog X.w) X.A (eval a X.env) (fun v s₁ => wpAny (model X.prog X.w) X.A (eval b X.env) (fun u s₂ => wpAny (model X.prog X.w) X.A (f v u) Q X.xe s₂) X.xe s₁) X.xe s := by
  refine thn (ha pins s σ H _ I h) fun v s1 ⟨x, H1, I1, r1, q1⟩ => ?_
  refine thn (hb pins s1 σ H1 _ I1 q1) fun u s2 ⟨y, H2, I2, r2, q2⟩ => ?_
  exact hf v u s2 x y H2 I2 r1 r2 q2
def tVar (i : Nat) : TE := fun σ H Q => ∃ v, σ[i]? = some (some v) ∧ Q v H
def tC (v : V) : TE := fun _ H Q => Q v H
theorem pe_var {i : Nat} {x : Str} {pos : Pos} (hN : X.N[i]? = some x) (hv : Vis X.env.scope x) (hd : (x == ("__debug__" : Str)) = false := by decide) (hcd : (x == ("__classdict__" : Str)) = false := by decide) : PE X (.Name x pos) (tVar i) := by
  intro pins s σ H Q I h
  obtain ⟨v, e, h⟩ := h
  obtain ⟨m, hn, hl⟩ := I.loc
  obtain ⟨u, r, l⟩ := hl i x v hN e hv
  have fin : EP X pins σ Q u s := ⟨v, H, I, r, h⟩
  rcases l with ⟨hk, hm⟩ | ⟨hk, c, hc, hcell⟩
  · exact wpAny_Name (wpAny_loadName_local I.ok.kind hk hn hm fin) hd
  · rcases hk with hk | hk
    · exact wpAny_Name (wpAny_loadName_cell I.ok.kind hk hc hcell fin) hd
    · exact wpAny_Name (wpAny_loadName_free I.ok.kind hk hc hcell fin hcd) hd
theorem pe_int {i j pos} : PE X (.Constant (.int i) j pos) (tC (.int i)) := fun _ _ _ H _ I h => wpAny_Constant_int ⟨.int i, H, I.tok _, ⟨_, rfl⟩, h⟩
theorem pe_bl {b j pos} : PE X (.Constant (.bool b) j pos) (tC (.bl b)) := fun _ _ _ H _ I h => Constant_bool ⟨.bl b, H, I, rfl, h⟩
/-- a global name of the def -/
def Gl (X : Cx) (x : Str) : Prop := X.env.kindOf x = some .globalImplicit
theorem ld_glob {E : Value → Shared → Prop} {pins : List (Addr × Obj)} {s : Shared} {σ : St} {H : Hp} {x : Str} {u : Value} {pos : Pos} {Q : Value → Shared → Prop} (I : Inv X pins σ H s) (hg : Gl X x) (hm : X.mg x = some u) (h : Q u s)
    (hd : (x == ("__debug__" : Str)) = false := by decide) : wpAny (model X.prog X.w) X.A (eval (.Name x pos) X.env) Q E s :=
  Calls.Name_function_global I.ok.kind hg (Calls.loadGlobal_global (by rw [I.ok.glob]; exact I.mod.glob.keeps I.bk) hm h) hd
theorem ld_blt {E : Value → Shared → Prop} {pins : List (Addr × Obj)} {s : Shared} {σ : St} {H : Hp} {x : Str} {u : Value} {pos : Pos} {Q : Value → Shared → Prop} (I : Inv X pins σ H s) (hg : Gl X x) (hm : X.mg x = none) (hv : bootBuiltins x = some u) (h : Q u s)
    (hn : x ≠ "__name__" := by decide) (hd : (x == ("__debug__" : Str)) = false := by decide) : wpAny (model X.prog X.w) X.A (eval (.Name x pos) X.env) Q E s := by
  obtain ⟨mb, h1, h2⟩ := I.mod.blt
  exact Calls.Name_function_global I.ok.kind hg (Calls.loadGlobal_builtin (by rw [I.ok.glob]; exact I.mod.glob.keeps I.bk) hm (by rw [I.ok.blt]; exact h1.keeps I.bk) ((h2 x hn).trans hv) h) hd
/-- a module's constant, a class, a function, as a value -/
theorem pe_glob {x : Str} {v : V} {u : Value} {pos : Pos} (hg : Gl X x) (hm : X.mg x = some u) (r : RelV v u) (hd : (x == ("__debug__" : Str)) = false := by decide) : PE X (.Name x pos) (tC v) :=
  fun _ _ _ H _ I h => ld_glob I hg hm ⟨v, H, I, r, h⟩ hd
variable {a b : Expr} {ta tb : TE} {pos : Pos}
variable {tA tB' : TT} {rest : List Expr}
def tAnd (t u : TT) : TT := fun σ H Q => t σ H fun c H1 => if c = true then u σ H1 Q else Q false H1
def tOr (t u : TT) : TT := fun σ H Q => t σ H fun c H1 => if c = true then Q true H1 else u σ H1 Q
def tNot (t : TT) : TT := fun σ H Q => t σ H fun c H1 => Q (!c) H1
theorem pw_and1 (ha : PT X a tA) : PW X (.BoolOp .And [a] pos) tA := by
  intro wh pins s σ H Q I h
  refine isTrue_and (thn (ha pins s σ H Q I h) fun c s1 e => ?_)
  cases c with
  | true => exact isTrue_and_nil e
  | false => exact e
theorem pw_or1 (ha : PT X a tA) : PW X (.BoolOp .Or [a] pos) tA := by
  intro wh pins s σ H Q I h
  refine isTrue_or (thn (ha pins s σ H Q I h) fun c s1 e => ?_)
  cases c with
  | false => exact isTrue_or_nil e
  | true => exact e
theorem pw_and (ha : PT X a tA) (hb : PW X (.BoolOp .And (b :: rest) pos) tB') : PW X (.BoolOp .And (a :: b :: rest) pos) (tAnd tA tB') := by
  intro wh pins s σ H Q I h
  refine isTrue_and (thn (ha pins s σ H _ I h) fun c s1 ⟨H1, I1, q1⟩ => ?_)
  cases c with
  | true => exact hb wh pins s1 σ H1 Q I1 q1
  | false => exact ⟨H1, I1, q1⟩
theorem pw_or (ha : PT X a tA) (hb : PW X (.BoolOp .Or (b :: rest) pos) tB') : PW X (.BoolOp .Or (a :: b :: rest) pos) (tOr tA tB') := by
  intro wh pins s σ H Q I h
  refine isTrue_or (thn (ha pins s σ H _ I h) fun c s1 ⟨H1, I1, q1⟩ => ?_)
  cases c with
  | true => exact ⟨H1, I1, q1⟩
  | false => exact hb wh pins s1 σ H1 Q I1 q1
theorem pt_not (ha : PT X a tA) : PT X (.UnaryOp .Not a pos) (tNot tA) := by
  intro pins s σ H Q I h
  exact isTrue_not (ha pins s σ H (fun c H1 => Q (!c) H1) I h)
/-- .. as values (bools) -/
def tAndV (ta tb : TE) : TE := fun σ H Q => ta σ H fun x H1 => ∃ c, x = .bl c ∧ if c = true then tb σ H1 Q else Q (.bl false) H1
theorem pe_one {op} {t : TE} (h : PE X a t) : PE X (.BoolOp op [a] pos) t := fun pins s σ H Q I hw => BoolOp_one (h pins s σ H Q I hw)
theorem pe_and (ha : PE X a ta) (hb : PE X (.BoolOp .And (b :: rest) pos) tb) : PE X (.BoolOp .And (a :: b :: rest) pos) (tAndV ta tb) := by
  intro pins s σ H Q I h
  refine BoolOp_and (thn (ha pins s σ H _ I h) fun v s1 ⟨x, H1, I1, r1, q1⟩ => ?_)
  obtain ⟨c, rfl, q1⟩ := q1
  cases r1
  refine wpAny_truthy_bool ?_
  cases c with
  | true => exact hb pins s1 σ H1 Q I1 q1
  | false => exact ⟨.bl false, H1, I1, rfl, q1⟩
end
end L2
namespace L2
open PySem PySem.Spec PyProof.Rows
def SqL (K : PySem.W.Frag) (H : Hp) (a : Addr) (xs : List V) : Prop :=
  Rd H a (.lst xs) ∨
    ∃ (o : Obj) (its : Array Value) (n : Nat), K.lookup a = some o ∧ o.cls = .type "list" ∧ o.dict = none ∧ o.data = .seq its n ∧ its.size ≤ sizeLine ∧ Vals xs its.toList
def SqT (K : PySem.W.Frag) (H : Hp) (a : Addr) (xs : List V) : Prop :=
  Rd H a (.tup xs) ∨
    ∃ (o : Obj) (its : Array Value) (n : Nat), K.lookup a = some o ∧ o.cls = .type "tuple" ∧ o.data = .seq its n ∧ its.size ≤ sizeLine ∧ Vals xs its.toList
def absV : Value → Option V
  | .none => some .non
  | .bool b => some (.bl b)
  | .int i _ => some (.int i)
  | .str x _ => some (.str x)
  | .bytes b _ => some (.byt b)
  | .float b _ => some (.flt b)
  | .ref a => some (.ref a)
  | .type n => some (.ty n)
  | _ => none
theorem RelV.abs {x : V} {u : Value} (r : RelV x u) : absV u = some x := by
  cases x with
  | non => cases r; rfl
  | bl _ => cases r; rfl
  | int _ => obtain ⟨t, rfl⟩ := r; rfl
  | str _ => obtain ⟨t, rfl⟩ := r; rfl
  | byt _ => obtain ⟨t, rfl⟩ := r; rfl
  | flt _ => obtain ⟨t, rfl⟩ := r; rfl
  | ref _ => cases r; rfl
  | ty _ => cases r; rfl
theorem RelV.inj {x y : V} {u : Value} (r : RelV x u) (q : RelV y u) : x = y := Option.some.inj (r.abs.symm.trans q.abs)
theorem Vals.inj : ∀ {xs ys : List V} {us : List Value}, Vals xs us → Vals ys us → xs = ys
  | _, _, _, .nil, .nil => rfl
  | _, _, _, .cons r t, .cons r' t' => by rw [r.inj r', Vals.inj t t']
section
variable {X : Cx} {pins : List (Addr × Obj)} {σ : St} {H : Hp} {s : Shared} {a : Addr} {xs ys : List V}
theorem SqL.of {K : PySem.W.Frag} (h : H a = some (.lst xs)) : SqL K H a xs := .inl (.inl h)
theorem SqT.of {K : PySem.W.Frag} (h : H a = some (.tup xs)) : SqT K H a xs := .inl (.inl h)
theorem Inv.list (I : Inv X pins σ H s) (h : SqL X.K H a xs) : ∃ its : List Value, Vals xs its ∧ PlainL s.heap a its.toArray ∧ xs.length ≤ sizeLine := by
  rcases h with h | ⟨o, its, n, hk, hc, hd, hs, hz, r⟩
  · obtain ⟨z, its, n, r, e⟩ := h.ok I.hok
    exact ⟨its, r, ⟨_, n, e, rfl, rfl, rfl⟩, z⟩
  · refine ⟨its.toList, r, ⟨o, n, I.kIn a o hk, hc, hd, by simpa using hs⟩, ?_⟩
    have e := r.length
    simp only [Array.length_toList] at e
    omega
theorem Inv.tuple (I : Inv X pins σ H s) (h : SqT X.K H a xs) : ∃ its : List Value, Vals xs its ∧ IsTup s.heap a its.toArray ∧ xs.length ≤ sizeLine := by
  rcases h with h | ⟨o, its, n, hk, hc, hs, hz, r⟩
  · obtain ⟨z, its, r, p⟩ := h.ok I.hok
    exact ⟨its, r, p, z⟩
  · refine ⟨its.toList, r, ⟨o, I.kIn a o hk, hc, n, by simpa using hs⟩, ?_⟩
    have e := r.length
    simp only [Array.length_toList] at e
    omega
theorem Inv.list_inj (I : Inv X pins σ H s) (h : SqL X.K H a xs) (h' : SqL X.K H a ys) : xs = ys := by
  obtain ⟨its, r, ⟨o, n, e, _, _, d⟩, _⟩ := I.list h
  obtain ⟨its', r', ⟨o', n', e', _, _, d'⟩, _⟩ := I.list h'
  rw [e] at e'; cases e'
  rw [d] at d'
  injection d' with d1 _
  have : its = its' := by simpa using congrArg Array.toList d1
  subst this
  exact r.inj r'
theorem Inv.tuple_inj (I : Inv X pins σ H s) (h : SqT X.K H a xs) (h' : SqT X.K H a ys) : xs = ys := by
  obtain ⟨its, r, ⟨o, e, _, n, d⟩, _⟩ := I.tuple h
  obtain ⟨its', r', ⟨o', e', _, n', d'⟩, _⟩ := I.tuple h'
  rw [e] at e'; cases e'
  rw [d] at d'
  injection d' with d1 _
  have : its = its' := by simpa using congrArg Array.toList d1
  subst this
  exact r.inj r'
end
abbrev Cx.wish (X : Cx) (E : Value → Shared → Prop) : Cx := { X with xe := E }
/-- no exception leaves -/
abbrev Cx.nox (X : Cx) : Cx := X.wish fun _ _ => False
theorem Cx.Ok.wish {X : Cx} (ok : X.Ok) (E : Value → Shared → Prop) : (X.wish E).Ok :=
  ⟨ok.mod, ok.kind, ok.glob, ok.blt, ok.above, ok.inj, ok.has, ok.cab, ok.hd, ok.frames, ok.stk, ok.exf, ok.bs, ok.bsz, ok.noex, ok.exfs, ok.funs, ok.frf⟩
theorem Cx.Ok.unwish {X : Cx} {E : Value → Shared → Prop} (ok : (X.wish E).Ok) : X.Ok :=
  ⟨ok.mod, ok.kind, ok.glob, ok.blt, ok.above, ok.inj, ok.has, ok.cab, ok.hd, ok.frames, ok.stk, ok.exf, ok.bs, ok.bsz, ok.noex, ok.exfs, ok.funs, ok.frf⟩
section
variable {X : Cx} {pins : List (Addr × Obj)} {σ : St} {H : Hp} {s : Shared} {E : Value → Shared → Prop}
theorem Inv.wish (I : Inv X pins σ H s) (E : Value → Shared → Prop) : Inv (X.wish E) pins σ H s := ⟨I.ok.wish E, I.os, I.bare, I.base, I.loc, I.cell, I.free, I.freeC, I.pin, I.hok, I.len⟩
theorem Inv.unwish (I : Inv (X.wish E) pins σ H s) : Inv X pins σ H s := ⟨I.ok.unwish, I.os, I.bare, I.base, I.loc, I.cell, I.free, I.freeC, I.pin, I.hok, I.len⟩
theorem SP.unwish {D : Ends} {f : Flow} {s' : Shared} (h : SP (X.wish E) pins D f s') : SP X pins D f s' := by
  cases f with
  | next => obtain ⟨σ', H', I, q⟩ := h; exact ⟨σ', H', I.unwish, q⟩
  | brk => obtain ⟨σ', H', I, q⟩ := h; exact ⟨σ', H', I.unwish, q⟩
  | cont => obtain ⟨σ', H', I, q⟩ := h; exact ⟨σ', H', I.unwish, q⟩
  | ret u => obtain ⟨v, σ', H', I, r, q⟩ := h; exact ⟨v, σ', H', I.unwish, r, q⟩
theorem PSs.nox {st : List Stmt} {t : TS} (h : PSs X.nox st t) : PSs X st t := fun pins s σ H D I hw =>
  wpAny_mono (h pins s σ H D (I.wish _) hw) (fun _ _ q => q.unwish) fun _ _ z => False.elim z
end
section
variable {X : Cx} {st : Stmt} {rest : List Stmt} {t u : TS} {e : Expr} {te : TE} {pos : Pos}
def tNext : TS := fun D σ H => D.nx σ H
def tSeq (t u : TS) : TS := fun D σ H => t { D with nx := u D } σ H
theorem pss_nil : PSs X [] tNext := fun _ _ σ H _ I h => wpAny_execs_nil ⟨σ, H, I, h⟩
theorem pss_cons (h1 : PS X st t) (h2 : PSs X rest u) : PSs X (st :: rest) (tSeq t u) := by
  intro pins s σ H D I h
  refine wpAny_execs_cons (thn (h1 pins s σ H { D with nx := u D } I h) fun f s1 q => ?_)
  cases f with
  | next =>
    obtain ⟨σ', H', I', q⟩ := q
    exact h2 pins s1 σ' H' D I' q
  | ret v => exact q
  | brk => exact q
  | cont => exact q
theorem pss_one (h1 : PS X st t) : PSs X [st] t := by
  intro pins s σ H D I h
  refine wpAny_execs_cons (thn (h1 pins s σ H D I h) fun f s1 q => ?_)
  cases f with
  | next => exact wpAny_execs_nil q
  | ret v => exact q
  | brk => exact q
  | cont => exact q
/-- in a def's body nothing is shown -/
theorem Inv.quiet {pins : List (Addr × Obj)} {σ : St} {H : Hp} {s : Shared} (I : Inv X pins σ H s) : interactive X.env = false := by simp [interactive, I.ok.kind]
/-- an expression whose value is dropped -/
def tDrop (te : TE) : TS := fun D σ H => te σ H fun _ H1 => D.nx σ H1
theorem ps_expr (he : PE X e te) (hs : swapsWith e none pos.line X.env = pure false := by rfl) : PS X (.Expr e pos) (tDrop te) := by
  intro pins s σ H D I h
  exact wpAny_Expr_any (thn (he pins s σ H _ I h) fun v s1 ⟨x, H1, I1, r1, q1⟩ => ⟨σ, H1, I1, q1⟩) I.quiet hs
def tRet (te : TE) : TS := fun D σ H => te σ H D.rt
theorem ps_ret (he : PE X e te) : PS X (.Return (some e) pos) (tRet te) := by
  intro pins s σ H D I h
  exact wpAny_Return_some (thn (he pins s σ H _ I h) fun v s1 ⟨x, H1, I1, r1, q1⟩ => ⟨x, σ, H1, I1, r1, q1⟩)
def tIfS (c : TT) (t u : TS) : TS := fun D σ H => c σ H fun b H1 => if b = true then t D σ H1 else u D σ H1
theorem ps_if {c : Expr} {a b : List Stmt} {tc : TT} (hc : PT X c tc) (ha : PSs X a t) (hb : PSs X b u) : PS X (.If c a b pos) (tIfS tc t u) := by
  intro pins s σ H D I h
  refine wpAny_If (thn (hc pins s σ H _ I h) fun d s1 ⟨H1, I1, q1⟩ => ?_)
  cases d with
  | true => exact ha pins s1 σ H1 D I1 q1
  | false => exact hb pins s1 σ H1 D I1 q1
end
abbrev TG := V → St → Hp → (St → Hp → Prop) → Prop
def PG (X : Cx) (target : Expr) (t : TG) : Prop :=
  ∀ (pins : List (Addr × Obj)) (s : Shared) (σ : St) (H : Hp) (v : V) (u : Value) (Q : St → Hp → Prop), Inv X pins σ H s → RelV v u → t v σ H Q →
    wpAny (model X.prog X.w) X.A (assign target X.env u) (fun _ s' => ∃ σ' H', Inv X pins σ' H' s' ∧ Q σ' H') X.xe s
section
variable {X : Cx} {pos : Pos}
def gName (i : Nat) : TG := fun v σ H Q => Q (σ.set i (some v)) H
theorem pg_name {i : Nat} {x : Str} (hN : X.N.Nodup) (hi : X.N[i]? = some x) (hx : Loc X.env.scope x) (hf : X.fn x = true ∨ X.env.scope.names.lookup x = some .local := by first | exact .inl rfl | exact .inr rfl | assumption) : PG X (.Name x pos) (gName i) := by
  intro pins s σ H v u Q I r h
  exact wpAny_assign_Name (store_ok I hN hi hx r (fun s' I' => ⟨_, H, I', h⟩) hf)
/-- target = value -/
def tAsg (te : TE) (g : TG) : TS := fun D σ H => te σ H fun x H1 => g x σ H1 D.nx
/-- name = value -/
theorem ps_set {i : Nat} {x : Str} {e : Expr} {te : TE} {pos' : Pos} (hN : X.N.Nodup) (hi : X.N[i]? = some x) (hx : Loc X.env.scope x) (he : PE X e te) (hs : swapsWith e (some (.Name x pos')) pos.line X.env = pure false := by rfl) (hf : X.fn x = true ∨ X.env.scope.names.lookup x = some .local := by first | exact .inl rfl | exact .inr rfl | assumption) :
    PS X (.Assign [.Name x pos'] e pos) (tAsg te (gName i)) := by
  intro pins s σ H D I h
  refine wpAny_Assign_Name (thn (he pins s σ H _ I h) fun v s1 ⟨y, H1, I1, r1, q1⟩ => ?_) hs
  exact store_ok I1 hN hi hx r1 (fun s2 I2 => ⟨_, H1, I2, q1⟩) hf
end
section
variable {X : Cx} {pos : Pos}
/-- the invariant W with its measure -/
def tWhile (c : TT) (tb : TS) : TS := fun D σ H => ∃ W : Nat → St → Hp → Prop, (∃ m, W m σ H) ∧ ∀ m σ H, W m σ H →
  c σ H fun b H1 => if b = true then ∃ N : St → Hp → Prop, (∀ σ' H', N σ' H' → ∃ m', m' < m ∧ W m' σ' H') ∧ tb { D with nx := N, ct := N, bk := D.nx } σ H1 else D.nx σ H1
theorem ps_while {c : Expr} {body : List Stmt} {tc : TT} {tb : TS} (hp : PassesOwn (model X.prog X.w) X.A X.env X.xe) (hc : PT X c tc) (hb : PSs X body tb) : PS X (.While c body [] pos) (tWhile tc tb) := by
  intro pins s σ H D I h
  obtain ⟨W, ⟨m0, w0⟩, turn⟩ := h
  refine wpAny_While (codeAny_whileLoop (fun n s' => ∃ σ' H', Inv X pins σ' H' s' ∧ W n σ' H') ?_ m0 ⟨σ, H, I, w0⟩)
  rintro n s1 ⟨σ1, H1, I1, w1⟩
  refine wpAny_passesOwn hp (thn (hc pins s1 σ1 H1 _ I1 (turn n σ1 H1 w1)) fun b s2 ⟨H2, I2, q2⟩ => ?_)
  cases b with
  | true =>
    obtain ⟨N, hN, q2⟩ := q2
    rw [if_pos rfl]
    refine wpAny_passesOwn hp (thn (hb pins s2 σ1 H2 _ I2 q2) fun f s3 q3 => ?_)
    cases f with
    | next =>
      obtain ⟨σ3, H3, I3, n3⟩ := q3
      obtain ⟨m', hm, w3⟩ := hN σ3 H3 n3
      exact ⟨m', hm, σ3, H3, I3, w3⟩
    | cont =>
      obtain ⟨σ3, H3, I3, n3⟩ := q3
      obtain ⟨m', hm, w3⟩ := hN σ3 H3 n3
      exact ⟨m', hm, σ3, H3, I3, w3⟩
    | brk => exact q3
    | ret v => exact q3
  | false =>
    rw [if_neg Bool.false_ne_true]
    exact wpAny_execs_nil ⟨σ1, H2, I2, q2⟩
end
/-- at turn i: it yields x (the heap may grow), or it stops -/
structure It where
  go : Nat → Hp → Prop
  yld : Nat → Hp → V → Hp → Prop
  stop : Nat → Hp → Prop
/-- the iterator's own objects may turn: they are not the frame's, not pinned, younger than the entry (or a comprehension's own) -/
def FpOk (X : Cx) (pins : List (Addr × Obj)) (H : Hp) (b : Addr) : Prop :=
  H b = none ∧ b ≠ X.env.locals ∧ b ∉ X.fs ∧ (b ∈ X.ex ∨ X.s_0.heap.objs.size ≤ b) ∧ (∀ x c, X.env.cells.lookup x = some c → c ≠ b) ∧ ∀ p ∈ X.pn ++ pins, p.1 ≠ b
theorem Inv.fpOk {X : Cx} {pins : List (Addr × Obj)} {σ : St} {H H' : Hp} {s : Shared} {b : Addr} (I : Inv X pins σ H s) (hb : s.heap.objs.size ≤ b) (hn : H' b = none) : FpOk X pins H' b := by
  refine ⟨hn, Nat.ne_of_gt (Nat.lt_of_lt_of_le I.lt hb), I.nofs hb, .inr (Nat.le_trans I.sz hb), fun x c e z => ?_, fun p hp z => ?_⟩
  · obtain ⟨v, q⟩ := I.cell x c e
    exact absurd (Nat.lt_of_lt_of_le q.lt (by rw [z]; exact hb)) (Nat.lt_irrefl _)
  · exact absurd (Nat.lt_of_lt_of_le (Heap.lt_size (I.pin p hp).1) (by rw [z]; exact hb)) (Nat.lt_irrefl _)
structure Turn (P : Program) (w : World) (K : PySem.W.Frag) (tg : Expr) (J : It) (fp : List Addr) (it : Addr) (tn : Nat → Heap → Prop) : Prop where
  mem : it ∈ fp
  obj : ∀ i h, tn i h → ∀ b ∈ fp, ∃ o, h.get? b = some o ∧ ∀ v, o.data ≠ .cell v
  keep : ∀ i h h', tn i h → (∀ b ∈ fp, ∀ o, h.get? b = some o → h'.get? b = some o) → tn i h'
  item : ∀ (X : Cx), X.prog = P → X.w = w → X.K = K → X.calm = true → ∀ (i : Nat) (pins : List (Addr × Obj)) (s : Shared) (σ : St) (H : Hp) (E : Value → Shared → Prop), Inv X pins σ H s → (∀ b ∈ fp, FpOk X pins H b) → tn i s.heap → J.go i H →
    wpAny (model P w) X.A (pyNext (.ref it)) (fun r s1 => ∃ u, r = some u ∧
      wpAny (model P w) X.A (letOwnedTupleGo tg (.ref it) u) (fun _ s2 => ∃ x H', Inv X pins σ H' s2 ∧ RelV x u ∧ J.yld i H x H' ∧ tn (i + 1) s2.heap ∧ ∀ b ∈ fp, H' b = none) E s1) E s
  done : ∀ (X : Cx), X.prog = P → X.w = w → X.K = K → X.calm = true → ∀ (i : Nat) (pins : List (Addr × Obj)) (s : Shared) (σ : St) (H : Hp) (E : Value → Shared → Prop), Inv X pins σ H s → (∀ b ∈ fp, FpOk X pins H b) → tn i s.heap → J.stop i H →
    wpAny (model P w) X.A (pyNext (.ref it)) (fun r s1 => r = none ∧ Inv X pins σ H s1) E s
  self : ∀ (A : Around) (i : Nat) (s : Shared) (Q : Value → Shared → Prop) (E : Value → Shared → Prop), tn i s.heap → Q (.ref it) s → wpAny (model P w) A (pyIter (.ref it)) Q E s
abbrev TI := St → Hp → (It → Hp → Prop) → Prop
/-- an iterator has come -/
def PIE (X : Cx) (pins : List (Addr × Obj)) (σ : St) (tg : Expr) (R : It → Hp → Prop) (itv : Value) (s2 : Shared) : Prop :=
  ∃ (it : Addr) (fp : List Addr) (tn : Nat → Heap → Prop) (J : It) (H' : Hp), itv = .ref it ∧ Inv X pins σ H' s2 ∧ Turn X.prog X.w X.K tg J fp it tn ∧ tn 0 s2.heap ∧ (∀ b ∈ fp, FpOk X pins H' b) ∧ R J H'
def PI (X : Cx) (tg iter : Expr) (wi : TI) : Prop :=
  ∀ (pins : List (Addr × Obj)) (s : Shared) (σ : St) (H : Hp) (R : It → Hp → Prop), Inv X pins σ H s → wi σ H R →
    wpAny (model X.prog X.w) X.A (eval iter X.env) (fun v s1 => wpAny (model X.prog X.w) X.A (pyIter v) (PIE X pins σ tg R) X.xe s1) X.xe s
/-- the step ahead of the store is nothing for an iterator that keeps no tuple -/
theorem go_of {M : Model} {A : Around} {E : Value → Shared → Prop} {s : Shared} {tg : Expr} {it : Addr} {u : Value} {o : Obj} {n : String} {vs : Array Value} {Q : Unit → Shared → Prop} (ho : s.heap.get? it = some o) (hc : o.cls = .type n) (hd : o.data = .fields vs)
    (hn : ["enumerate", "zip", "dict_itemiterator", "dict_reverseitemiterator", "odict_iterator", "itertools.zip_longest", "itertools.pairwise"].contains n = false) (hQ : Q () s) : wpAny M A (letOwnedTupleGo tg (.ref it) u) Q E s := by
  unfold letOwnedTupleGo
  cases tg <;> first
    | exact wpAny_pure hQ
    | (cases u <;> first
        | exact wpAny_pure hQ
        | (refine wpAny_bind (wpAny_load ho ?_)
           rw [hc, hd]
           show wpAny M A (if (["enumerate", "zip", "dict_itemiterator", "dict_reverseitemiterator", "odict_iterator", "itertools.zip_longest", "itertools.pairwise"].contains n && vs[0]? == some (rawInt _)) = true then _ else _) Q E s
           rw [if_neg (by intro h; rw [hn, Bool.false_and] at h; cases h)]
           exact wpAny_pure hQ))
/-- the list at a, as it stands at each turn (a loop may append to it) -/
def Itl (K : PySem.W.Frag) (a : Addr) : It :=
  ⟨fun i H => ∃ xs x, SqL K H a xs ∧ xs[i]? = some x, fun i H x H' => H' = H ∧ ∀ xs, SqL K H a xs → xs[i]? = some x, fun i H => ∃ xs, SqL K H a xs ∧ xs.length ≤ i⟩
def Itt (K : PySem.W.Frag) (a : Addr) : It :=
  ⟨fun i H => ∃ xs x, SqT K H a xs ∧ xs[i]? = some x, fun i H x H' => H' = H ∧ ∀ xs, SqT K H a xs → xs[i]? = some x, fun i H => ∃ xs, SqT K H a xs ∧ xs.length ≤ i⟩
/-- lo, lo + 1, .. (n of them) -/
def Itr (lo : Int) (n : Nat) : It := ⟨fun i _ => i < n, fun i H x H' => H' = H ∧ x = .int (lo + i), fun i _ => n ≤ i⟩
theorem turn_list {P : Program} {w : World} {K : PySem.W.Frag} {tg : Expr} (a it : Addr) : Turn P w K tg (Itl K a) [it] it (fun i h => h.IsListIter it a i) where
  mem := by simp
  obj := fun i h st b hb => by
    have e : b = it := by simpa using hb
    subst e
    obtain ⟨o, e, c, d⟩ := st
    exact ⟨o, e, fun v z => by rw [d] at z; cases z⟩
  keep := fun i h h' st k => st.at fun o e => k it (by simp) o e
  item := by
    intro X hP hw hK hc i pins s σ H E I hf st hg
    subst hP hw hK
    obtain ⟨xs, x, hq, hx⟩ := hg
    obtain ⟨its, rv, p, hz⟩ := I.list hq
    obtain ⟨u, hu, ru⟩ := rv.get hx
    obtain ⟨f0, f1, f2, f3, f4, f5⟩ := hf it (by simp)
    refine wpAny_pyNext_list_item st p.isList (x := u) (by simpa using hu) fun h' st' sb => ?_
    have I1 : Inv X pins σ H { s with heap := h' } := I.turned (t' := s.toks) (fun b o hb e => (sb.2 b hb).trans e) f0 f1 f3 f4 f5
    obtain ⟨o, e, c, d⟩ := id st'
    exact ⟨u, rfl, go_of (s := { s with heap := h' }) e c d (by decide) ⟨x, H, I1, ru, ⟨rfl, fun ys hy => by rw [I.list_inj hy hq]; exact hx⟩, st', fun b hb => (hf b hb).1⟩⟩
  done := by
    intro X hP hw hK hc i pins s σ H E I hf st hg
    subst hP hw hK
    obtain ⟨xs, hq, hx⟩ := hg
    obtain ⟨its, rv, p, hz⟩ := I.list hq
    obtain ⟨f0, f1, f2, f3, f4, f5⟩ := hf it (by simp)
    have hl := rv.length
    exact wpAny_pyNext_list_end (I.ok.hd hc) st p.isList (by simp; omega) fun h' eb => ⟨rfl, I.turned (t' := s.toks) (fun b o hb e => eb b o hb e) f0 f1 f3 f4 f5⟩
  self := fun _ _ _ _ _ st h => wpAny_pyIter_listiter st h
theorem turn_tuple {P : Program} {w : World} {K : PySem.W.Frag} {tg : Expr} (a it : Addr) : Turn P w K tg (Itt K a) [it] it (fun i h => h.IsTupleIter it a i) where
  mem := by simp
  obj := fun i h st b hb => by
    have e : b = it := by simpa using hb
    subst e
    obtain ⟨o, e, c, d⟩ := st
    exact ⟨o, e, fun v z => by rw [d] at z; cases z⟩
  keep := fun i h h' st k => st.at fun o e => k it (by simp) o e
  item := by
    intro X hP hw hK hc i pins s σ H E I hf st hg
    subst hP hw hK
    obtain ⟨xs, x, hq, hx⟩ := hg
    obtain ⟨its, rv, p, hz⟩ := I.tuple hq
    obtain ⟨u, hu, ru⟩ := rv.get hx
    obtain ⟨f0, f1, f2, f3, f4, f5⟩ := hf it (by simp)
    refine wpAny_pyNext_tuple_item st (show s.heap.IsTuple a its.toArray from p) (x := u) (by simpa using hu) fun h' st' sb => ?_
    have I1 : Inv X pins σ H { s with heap := h' } := I.turned (t' := s.toks) (fun b o hb e => (sb.2 b hb).trans e) f0 f1 f3 f4 f5
    obtain ⟨o, e, c, d⟩ := id st'
    exact ⟨u, rfl, go_of (s := { s with heap := h' }) e c d (by decide) ⟨x, H, I1, ru, ⟨rfl, fun ys hy => by rw [I.tuple_inj hy hq]; exact hx⟩, st', fun b hb => (hf b hb).1⟩⟩
  done := by
    intro X hP hw hK hc i pins s σ H E I hf st hg
    subst hP hw hK
    obtain ⟨xs, hq, hx⟩ := hg
    obtain ⟨its, rv, p, hz⟩ := I.tuple hq
    obtain ⟨f0, f1, f2, f3, f4, f5⟩ := hf it (by simp)
    have hl := rv.length
    exact wpAny_pyNext_tuple_end (I.ok.hd hc) st (show s.heap.IsTuple a its.toArray from p) (by simp; omega) fun h' eb => ⟨rfl, I.turned (t' := s.toks) (fun b o hb e => eb b o hb e) f0 f1 f3 f4 f5⟩
  self := fun _ _ _ _ _ st h => wpAny_pyIter_tupleiter st h
theorem turn_range {P : Program} {w : World} {K : PySem.W.Frag} {tg : Expr} (it : Addr) (lo : Int) (n : Nat) : Turn P w K tg (Itr lo n) [it] it (fun i h => IsRangeIter h it (lo + (i : Nat) * 1) ((n : Int) - (i : Nat)) 1) where
  mem := by simp
  obj := fun i h st b hb => by
    have e : b = it := by simpa using hb
    subst e
    exact ⟨_, st, fun v z => by
      have z' : Data.fields _ = Data.cell v := z
      cases z'⟩
  keep := fun i h h' st k => k it (by simp) _ st
  item := by
    intro X hP hw hK hc i pins s σ H E I hf st hg
    subst hP hw hK
    obtain ⟨f0, f1, f2, f3, f4, f5⟩ := hf it (by simp)
    have W := Walks.range (prog := X.prog) (w := X.w) (I.ok.hd hc) it lo 1 n
    refine W.item i s _ _ hg st fun v h' tk hv st' kk => ?_
    obtain ⟨t, rfl⟩ := hv
    have I1 : Inv X pins σ H { s with heap := h', toks := tk } := I.turned (fun b o hb e => kk b o (by simpa using hb) e) f0 f1 f3 f4 f5
    refine ⟨_, rfl, go_of (s := { s with heap := h', toks := tk }) (n := "range_iterator") st' rfl rfl (by decide) ⟨.int (lo + i), H, I1, ⟨t, ?_⟩, ⟨rfl, rfl⟩, st', fun b hb => (hf b hb).1⟩⟩
    rw [Int.mul_one]
  done := by
    intro X hP hw hK hc i pins s σ H E I hf st hg
    subst hP hw hK
    obtain ⟨f0, f1, f2, f3, f4, f5⟩ := hf it (by simp)
    exact wpAny_pyNext_range_end (I.ok.hd hc) st (by have : n ≤ i := hg; omega) fun h' eb => ⟨rfl, I.turned (t' := s.toks) (fun b o hb e => eb b o hb e) f0 f1 f3 f4 f5⟩
  self := fun _ _ _ _ _ st h => wpAny_pyIter_rangeiter st h
end L2
namespace L2
open PySem PySem.Spec PyProof.Rows
section
variable {X : Cx} {tg : Expr}
def iList (K : PySem.W.Frag) (tl : TE) : TI := fun σ H R => tl σ H fun x H1 => ∃ a, x = .ref a ∧ (∃ xs, SqL K H1 a xs) ∧ R (Itl K a) H1
def iTup (K : PySem.W.Frag) (tl : TE) : TI := fun σ H R => tl σ H fun x H1 => ∃ a, x = .ref a ∧ (∃ xs, SqT K H1 a xs) ∧ R (Itt K a) H1
theorem pi_list {l : Expr} {tl : TE} (hl : PE X l tl) : PI X tg l (iList X.K tl) := by
  intro pins s σ H R I h
  refine thn (hl pins s σ H _ I h) fun v s1 ⟨x, H1, I1, r1, q1⟩ => ?_
  obtain ⟨a, e, ⟨xs, hq⟩, q⟩ := q1
  subst e
  cases r1
  obtain ⟨its, rv, p, hz⟩ := I1.list hq
  refine wpAny_pyIter_list p.isList ?_
  refine ⟨s1.heap.objs.size, [s1.heap.objs.size], _, _, H1, rfl, I1.kept (t' := s1.toks) fun b o e => Heap.get?_push_of_some _ e, turn_list a _, ⟨_, Heap.get?_push_size _ rfl, rfl, rfl⟩, fun b hb => ?_, q⟩
  have e : b = s1.heap.objs.size := by simpa using hb
  subst e
  exact I1.fpOk (Nat.le_refl _) (I1.hok.fresh (Nat.le_refl _))
theorem pi_tup {l : Expr} {tl : TE} (hl : PE X l tl) : PI X tg l (iTup X.K tl) := by
  intro pins s σ H R I h
  refine thn (hl pins s σ H _ I h) fun v s1 ⟨x, H1, I1, r1, q1⟩ => ?_
  obtain ⟨a, e, ⟨xs, hq⟩, q⟩ := q1
  subst e
  cases r1
  obtain ⟨its, rv, p, hz⟩ := I1.tuple hq
  refine wpAny_pyIter_tuple (show s1.heap.IsTuple a its.toArray from p) ?_
  refine ⟨s1.heap.objs.size, [s1.heap.objs.size], _, _, H1, rfl, I1.kept (t' := s1.toks) fun b o e => Heap.get?_push_of_some _ e, turn_tuple a _, ⟨_, Heap.get?_push_size _ rfl, rfl, rfl⟩, fun b hb => ?_, q⟩
  have e : b = s1.heap.objs.size := by simpa using hb
  subst e
  exact I1.fpOk (Nat.le_refl _) (I1.hok.fresh (Nat.le_refl _))
/-- a range object just made, walked -/
theorem range_it {pins : List (Addr × Obj)} {σ : St} {H : Hp} {s : Shared} {R : It → Hp → Prop} {E : Value → Shared → Prop} {lo hi : Int} {t u v : Tok} {tk : Nat} (I : Inv X pins σ H s) (h1 : -(2 ^ 62) ≤ lo) (h2 : lo < 2 ^ 62) (h3 : -(2 ^ 62) ≤ hi) (h4 : hi < 2 ^ 62)
    (q : R (Itr lo (hi - lo).toNat) H) : wpAny (model X.prog X.w) X.A (pyIter (.ref s.heap.objs.size)) (PIE X pins σ tg R) E { s with heap := s.heap.push { cls := .type "range", data := .fields #[.int lo t, .int hi u, .int 1 v] }, toks := tk } := by
  refine wpAny_pyIter_range (IsRange.new ..) (small_one h1 h2 h3 h4) ?_
  have I1 : Inv X pins σ H { s with heap := s.heap.push { cls := .type "range", data := .fields #[.int lo t, .int hi u, .int 1 v] }, toks := tk } := I.kept fun b o e => Heap.get?_push_of_some _ e
  refine ⟨(s.heap.push { cls := .type "range", data := .fields #[.int lo t, .int hi u, .int 1 v] }).objs.size, [(s.heap.push { cls := .type "range", data := .fields #[.int lo t, .int hi u, .int 1 v] }).objs.size], _, _, H, rfl,
    I1.kept (t' := tk) fun b o e => Heap.get?_push_of_some _ e, turn_range _ lo (hi - lo).toNat, ?_, fun b hb => ?_, q⟩
  · have e1 : lo + ((0 : Nat) : Int) * 1 = lo := by simp
    have e2 : (((hi - lo).toNat : Nat) : Int) - ((0 : Nat) : Int) = Builtin.Range.rangeSize lo hi 1 := by rw [rangeSize_one]; split <;> omega
    show IsRangeIter _ _ (lo + ((0 : Nat) : Int) * 1) ((((hi - lo).toNat : Nat) : Int) - ((0 : Nat) : Int)) 1
    rw [e1, e2]
    exact Heap.get?_push_size _ rfl
  · have e : b = (s.heap.push { cls := .type "range", data := .fields #[.int lo t, .int hi u, .int 1 v] }).objs.size := by simpa using hb
    subst e
    exact I1.fpOk (Nat.le_refl _) (I1.hok.fresh (Nat.le_refl _))
def iRng1 (ta : TA) : TI := fun σ H R => ta σ H fun vs H1 => ∃ j : Int, vs = [.int j] ∧ -(2 ^ 62) ≤ j ∧ j < 2 ^ 62 ∧ R (Itr 0 j.toNat) H1
theorem pi_range1 {a : Expr} {ta : TA} {p pos : Pos} (hg : Gl X "range") (hm : X.mg "range" = none) (ha : PA X [a] ta) (hs : starEach [a] X.env = [(false, eval a X.env)] := by rfl) : PI X tg (.Call (.Name "range" p) [a] [] pos) (iRng1 ta) := by
  intro pins s σ H R I h
  refine Call_ (ld_blt I hg hm boot_range (PyProof.Rows.callWith_type1 (thn (ha pos pins s σ H _ I h) fun us s1 ⟨vs, H1, I1, r1, q1⟩ => ?_) hs rfl))
  obtain ⟨j, e, q1, q2, q⟩ := q1
  subst e
  cases r1 with
  | cons r rr =>
    cases rr
    obtain ⟨t, rfl⟩ := r
    exact call_range_1 (range_it I1 (by omega) (by omega) q1 q2 (by simpa using q))
/-- W: the invariant by the turn and a measure; N: what the body is to reach -/
def tFor (wi : TI) (g : TG) (tb : TS) : TS := fun D σ H => wi σ H fun J H1 => ∃ W : Nat → Nat → St → Hp → Prop, (∃ m, W 0 m σ H1) ∧ ∀ i m σ H, W i m σ H →
  (J.stop i H ∧ D.nx σ H) ∨ (J.go i H ∧ ∃ N : St → Hp → Prop, (∀ σ' H', N σ' H' → ∃ m', m' < m ∧ W (i + 1) m' σ' H') ∧ ∀ x H', J.yld i H x H' → g x σ H' fun σ2 H2 => tb { D with nx := N, ct := N, bk := D.nx } σ2 H2)
/-- the records at fp as they stand -/
def pinsAt (fp : List Addr) (h : Heap) : List (Addr × Obj) := fp.filterMap fun b => (h.get? b).map fun o => (b, o)
theorem mem_pinsAt {fp : List Addr} {h : Heap} {b : Addr} {o : Obj} (hb : b ∈ fp) (e : h.get? b = some o) : (b, o) ∈ pinsAt fp h := List.mem_filterMap.mpr ⟨b, hb, by rw [e]; rfl⟩
theorem of_pinsAt {fp : List Addr} {h : Heap} {p : Addr × Obj} (hp : p ∈ pinsAt fp h) : p.1 ∈ fp ∧ h.get? p.1 = some p.2 := by
  obtain ⟨b, hb, e⟩ := List.mem_filterMap.mp hp
  cases q : h.get? b with
  | none => rw [q] at e; cases e
  | some o =>
    rw [q] at e
    have e' : (b, o) = p := Option.some.inj e
    subst e'
    exact ⟨hb, q⟩
theorem Inv.pinned {pins : List (Addr × Obj)} {σ : St} {H : Hp} {s : Shared} {fp : List Addr} (I : Inv X pins σ H s) (hf : ∀ b ∈ fp, FpOk X pins H b) (ho : ∀ b ∈ fp, ∃ o, s.heap.get? b = some o ∧ ∀ v, o.data ≠ .cell v) : Inv X (pins ++ pinsAt fp s.heap) σ H s :=
  I.pins_of fun p hp => (List.mem_append.mp hp).elim (fun z => I.pin p (List.mem_append_right _ z)) fun z => by
    obtain ⟨hb, e⟩ := of_pinsAt z
    obtain ⟨f0, f1, f2, _⟩ := hf p.1 hb
    obtain ⟨o, e', d⟩ := ho p.1 hb
    rw [e] at e'; cases e'
    exact ⟨e, f0, f1, f2, d⟩
theorem Inv.unpinned {pins pl : List (Addr × Obj)} {σ : St} {H : Hp} {s : Shared} (I : Inv X (pins ++ pl) σ H s) : Inv X pins σ H s := I.pins_of fun p hp => I.pin p (List.mem_append_right _ (List.mem_append_left _ hp))
theorem ps_for {iter : Expr} {body : List Stmt} {wi : TI} {g : TG} {tb : TS} {pos : Pos} (hp : PassesOwn (model X.prog X.w) X.A X.env X.xe) (hc : X.calm = true) (hi : PI X tg iter wi) (hg : PG X tg g) (hb : PSs X body tb)
    (hs : ∀ x, foldedSetIterable iter X.env x = pure x := by intro _; rfl) : PS X (.For tg iter body [] pos) (tFor wi g tb) := by
  intro pins s σ H D I h
  refine wpAny_For (thn (hi pins s σ H _ I h) fun v s1 h1 => thn h1 fun itv s2 h2 => ?_) hs
  obtain ⟨it, fp, tn, J, H2, e, I2, T, st2, f2, W, ⟨m0, w0⟩, turn⟩ := h2
  subst e
  -- what stays true of the iterator's objects through the loop
  have stat : ∀ {H' : Hp}, (∀ b ∈ fp, H' b = none) → ∀ b ∈ fp, FpOk X pins H' b := fun hn b hb => ⟨hn b hb, (f2 b hb).2⟩
  refine codeAny_forLoop_any (fun n s' => ∃ i σ' H', Inv X pins σ' H' s' ∧ tn i s'.heap ∧ (∀ b ∈ fp, H' b = none) ∧ W i n σ' H') ?_ m0 ⟨0, σ, H2, I2, st2, fun b hb => (f2 b hb).1, w0⟩
  rintro n s3 ⟨i, σ3, H3, I3, st3, fr3, w3⟩
  rcases turn i n σ3 H3 w3 with ⟨stop, qn⟩ | ⟨go, N, hN, step⟩
  · refine wpAny_passesOwn hp (thn (T.done X rfl rfl rfl hc i pins s3 σ3 H3 X.xe I3 (stat fr3) st3 stop) fun r s4 ⟨hr, I4⟩ => ?_)
    subst hr
    exact wpAny_execs_nil ⟨σ3, H3, I4, qn⟩
  · refine wpAny_passesOwn hp (thn (T.item X rfl rfl rfl hc i pins s3 σ3 H3 X.xe I3 (stat fr3) st3 go) fun r s4 ⟨u, hr, h4⟩ => ?_)
    subst hr
    refine wpAny_passesOwn hp (thn h4 fun _ s5 ⟨x, H5, I5, r5, y5, st5, fr5⟩ => ?_)
    have I5' := I5.pinned (stat fr5) (T.obj _ _ st5)
    refine wpAny_passesOwn hp (thn (hg _ s5 σ3 H5 x u _ I5' r5 (step x H5 y5)) fun _ s6 ⟨σ6, H6, I6, q6⟩ => ?_)
    refine wpAny_passesOwn hp (thn (hb _ s6 σ6 H6 _ I6 q6) fun f s7 q7 => ?_)
    have again : ∀ {σ7 : St} {H7 : Hp}, Inv X (pins ++ pinsAt fp s5.heap) σ7 H7 s7 → N σ7 H7 → ∃ m, m < n ∧ ∃ i σ' H', Inv X pins σ' H' s7 ∧ tn i s7.heap ∧ (∀ b ∈ fp, H' b = none) ∧ W i m σ' H' := fun {σ7 H7} I7 n7 => by
      obtain ⟨m', hm, w7⟩ := hN σ7 H7 n7
      refine ⟨m', hm, i + 1, σ7, H7, I7.unpinned, T.keep _ _ _ st5 fun b hb o e => (I7.pin (b, o) (List.mem_append_right _ (List.mem_append_right _ (mem_pinsAt hb e)))).1, fun b hb => ?_, w7⟩
      obtain ⟨o, e, d⟩ := T.obj _ _ st5 b hb
      exact (I7.pin (b, o) (List.mem_append_right _ (List.mem_append_right _ (mem_pinsAt hb e)))).2.1
    cases f with
    | next => obtain ⟨σ7, H7, I7, n7⟩ := q7; exact again I7 n7
    | cont => obtain ⟨σ7, H7, I7, n7⟩ := q7; exact again I7 n7
    | brk => obtain ⟨σ7, H7, I7, q7⟩ := q7; exact ⟨σ7, H7, I7.unpinned, q7⟩
    | ret v => obtain ⟨x7, σ7, H7, I7, r7, q7⟩ := q7; exact ⟨x7, σ7, H7, I7.unpinned, r7, q7⟩
end
/-- over a list that the body leaves as it is -/
theorem for_list {K : PySem.W.Frag} {a : Addr} {xs : List V} {g : TG} {tb : TS} {D : Ends} {σ : St} {H : Hp} (Pv : Nat → St → Hp → Prop) (h0 : Pv 0 σ H) (hl : ∀ i σ H, i ≤ xs.length → Pv i σ H → SqL K H a xs)
    (hs : ∀ i x σ H, xs[i]? = some x → Pv i σ H → g x σ H fun σ2 H2 => tb { D with nx := Pv (i + 1), ct := Pv (i + 1), bk := D.nx } σ2 H2) (hd : ∀ σ H, Pv xs.length σ H → D.nx σ H) :
    ∃ W : Nat → Nat → St → Hp → Prop, (∃ m, W 0 m σ H) ∧ ∀ i m σ H, W i m σ H →
      ((Itl K a).stop i H ∧ D.nx σ H) ∨ ((Itl K a).go i H ∧ ∃ N : St → Hp → Prop, (∀ σ' H', N σ' H' → ∃ m', m' < m ∧ W (i + 1) m' σ' H') ∧ ∀ x H', (Itl K a).yld i H x H' → g x σ H' fun σ2 H2 => tb { D with nx := N, ct := N, bk := D.nx } σ2 H2) := by
  refine ⟨fun i m σ H => m = xs.length - i ∧ i ≤ xs.length ∧ Pv i σ H, ⟨xs.length, by simp, Nat.zero_le _, h0⟩, ?_⟩
  rintro i m σ H ⟨rfl, hi, p⟩
  have q := hl i σ H hi p
  by_cases hlt : i < xs.length
  · refine .inr ⟨⟨xs, xs[i], q, by simp [hlt]⟩, Pv (i + 1), fun σ' H' p' => ⟨xs.length - (i + 1), by omega, rfl, hlt, p'⟩, fun x H' y => ?_⟩
    obtain ⟨e, y⟩ := y
    subst e
    exact hs i x σ _ (y xs q) p
  · have e : i = xs.length := by omega
    subst e
    exact .inl ⟨⟨xs, q, Nat.le_refl _⟩, hd σ H p⟩
theorem for_range {lo : Int} {n : Nat} {g : TG} {tb : TS} {D : Ends} {σ : St} {H : Hp} (Pv : Nat → St → Hp → Prop) (h0 : Pv 0 σ H)
    (hs : ∀ i σ H, i < n → Pv i σ H → g (.int (lo + i)) σ H fun σ2 H2 => tb { D with nx := Pv (i + 1), ct := Pv (i + 1), bk := D.nx } σ2 H2) (hd : ∀ σ H, Pv n σ H → D.nx σ H) :
    ∃ W : Nat → Nat → St → Hp → Prop, (∃ m, W 0 m σ H) ∧ ∀ i m σ H, W i m σ H →
      ((Itr lo n).stop i H ∧ D.nx σ H) ∨ ((Itr lo n).go i H ∧ ∃ N : St → Hp → Prop, (∀ σ' H', N σ' H' → ∃ m', m' < m ∧ W (i + 1) m' σ' H') ∧ ∀ x H', (Itr lo n).yld i H x H' → g x σ H' fun σ2 H2 => tb { D with nx := N, ct := N, bk := D.nx } σ2 H2) := by
  refine ⟨fun i m σ H => m = n - i ∧ i ≤ n ∧ Pv i σ H, ⟨n, by simp, Nat.zero_le _, h0⟩, ?_⟩
  rintro i m σ H ⟨rfl, hi, p⟩
  by_cases hlt : i < n
  · refine .inr ⟨hlt, Pv (i + 1), fun σ' H' p' => ⟨n - (i + 1), by omega, rfl, hlt, p'⟩, fun x H' y => ?_⟩
    obtain ⟨e, y⟩ := y
    subst e y
    exact hs i σ _ hlt p
  · have e : i = n := by omega
    subst e
    exact .inl ⟨Nat.le_refl _, hd σ H p⟩
end L2
namespace L2
open PySem PySem.Spec PyProof.Rows
abbrev R2 := V → V → Hp → VK → Prop
/-- a two-place operation on values: f is binaryOp op, inplaceOp op or compareOp op -/
def OpR (X : Cx) (f : Value → Value → Sem Value) (r : R2) : Prop :=
  ∀ (pins : List (Addr × Obj)) (s : Shared) (σ : St) (H : Hp) (x y : V) (v u : Value) (Q : VK), Inv X pins σ H s → RelV x v → RelV y u → r x y H Q →
    wpAny (model X.prog X.w) X.A (f v u) (EP X pins σ Q) X.xe s
/-- a one-place operation -/
def UnR (X : Cx) (f : Value → Sem Value) (r : V → Hp → VK → Prop) : Prop :=
  ∀ (pins : List (Addr × Obj)) (s : Shared) (σ : St) (H : Hp) (x : V) (v : Value) (Q : VK), Inv X pins σ H s → RelV x v → r x H Q →
    wpAny (model X.prog X.w) X.A (f v) (EP X pins σ Q) X.xe s
/-- a call of a value that is known (a builtin, a type) with values -/
def CallR (X : Cx) (f : Value) (r : List V → Hp → VK → Prop) : Prop :=
  ∀ (pins : List (Addr × Obj)) (s : Shared) (σ : St) (H : Hp) (xs : List V) (us : List Value) (Q : VK), Inv X pins σ H s → Vals xs us → r xs H Q →
    wpAny (model X.prog X.w) X.A (call f us) (EP X pins σ Q) X.xe s
/-- a value's truth -/
def TruR (X : Cx) (r : V → Hp → (Bool → Hp → Prop) → Prop) : Prop :=
  ∀ (pins : List (Addr × Obj)) (s : Shared) (σ : St) (H : Hp) (x : V) (v : Value) (Q : Bool → Hp → Prop), Inv X pins σ H s → RelV x v → r x H Q →
    wpAny (model X.prog X.w) X.A (truthy v) (TP X pins σ Q) X.xe s
def tOp (r : R2) (ta tb : TE) : TE := fun σ H Q => ta σ H fun x H1 => tb σ H1 fun y H2 => r x y H2 Q
def tUn (r : V → Hp → VK → Prop) (ta : TE) : TE := fun σ H Q => ta σ H fun x H1 => r x H1 Q
/-- ints in, under C, and a value out -/
def rI (C : Int → Int → Prop) (g : Int → Int → V) : R2 := fun x y H Q => ∃ i j, x = .int i ∧ y = .int j ∧ C i j ∧ Q (g i j) H
def rI0 (g : Int → Int → V) : R2 := fun x y H Q => ∃ i j, x = .int i ∧ y = .int j ∧ Q (g i j) H
def rU (g : Int → V) : V → Hp → VK → Prop := fun x H Q => ∃ i, x = .int i ∧ Q (g i) H
section
variable {X : Cx} {a b c : Expr} {ta tb tc : TE} {pos : Pos}
theorem binT (ha : PE X a ta) (hb : PE X b tb) {pins : List (Addr × Obj)} {s : Shared} {σ : St} {H : Hp} {R : V → V → Hp → Prop} (I : Inv X pins σ H s)
    (h : ta σ H fun x H1 => tb σ H1 fun y H2 => R x y H2) {Q : Value → Shared → Prop} {f : Value → Value → Sem Value}
    (hf : ∀ v u s2 x y H2, Inv X pins σ H2 s2 → RelV x v → RelV y u → R x y H2 → wpAny (model X.prog X.w) X.A (f v u) Q X.xe s2) :
    wpAny (model X.prog X.w) X.A (eval a X.env) (fun v s₁ => wpAny (model X.prog X.w) X.A (eval b X.env) (fun u s₂ => wpAny (model X.prog X.w) X.A (f v u) Q X.xe s₂) X.xe s₁) X.xe s := by
  refine thn (ha pins s σ H _ I h) fun v s1 ⟨x, H1, I1, r1, q1⟩ => ?_
  refine thn (hb pins s1 σ H1 _ I1 q1) fun u s2 ⟨y, H2, I2, r2, q2⟩ => ?_
  exact hf v u s2 x y H2 I2 r1 r2 q2
theorem pe_op {op : Operator} {r : R2} (ho : OpR X (binaryOp op) r) (ha : PE X a ta) (hb : PE X b tb) : PE X (.BinOp a op b pos) (tOp r ta tb) := by
  intro pins s σ H Q I h
  exact wpAny_BinOp (binT ha hb I h fun v u s2 x y H2 I2 rx ry q => ho pins s2 σ H2 x y v u Q I2 rx ry q)
theorem pe_un {op : UnaryOp} {r : V → Hp → VK → Prop} (ho : UnR X (unaryOp op) r) (ha : PE X a ta) : PE X (.UnaryOp op a pos) (tUn r ta) := by
  intro pins s σ H Q I h
  exact UnaryOp_ (thn (ha pins s σ H _ I h) fun v s1 ⟨x, H1, I1, r1, q1⟩ => ho pins s1 σ H1 x v Q I1 r1 q1)
theorem opI {f : Value → Value → Sem Value} {C : Int → Int → Prop} {g : Int → Int → Int}
    (rule : ∀ (i j : Int) (t u : Tok) (s : Shared) (Q : Value → Shared → Prop) (E : Value → Shared → Prop), C i j → Q (.int (g i j) s.toks) { s with toks := s.toks + 1 } → wpAny (model X.prog X.w) X.A (f (.int i t) (.int j u)) Q E s) :
    OpR X f (rI C fun i j => .int (g i j)) := by
  intro pins s σ H x y v u Q I rx ry h
  obtain ⟨i, j, rfl, rfl, hc, q⟩ := h
  obtain ⟨t, rfl⟩ := rx
  obtain ⟨t', rfl⟩ := ry
  exact rule i j t t' s _ _ hc ⟨.int (g i j), H, I.tok _, ⟨_, rfl⟩, q⟩
theorem opI0 {f : Value → Value → Sem Value} {g : Int → Int → Int}
    (rule : ∀ (i j : Int) (t u : Tok) (s : Shared) (Q : Value → Shared → Prop) (E : Value → Shared → Prop), Q (.int (g i j) s.toks) { s with toks := s.toks + 1 } → wpAny (model X.prog X.w) X.A (f (.int i t) (.int j u)) Q E s) :
    OpR X f (rI0 fun i j => .int (g i j)) := by
  intro pins s σ H x y v u Q I rx ry h
  obtain ⟨i, j, rfl, rfl, q⟩ := h
  obtain ⟨t, rfl⟩ := rx
  obtain ⟨t', rfl⟩ := ry
  exact rule i j t t' s _ _ ⟨.int (g i j), H, I.tok _, ⟨_, rfl⟩, q⟩
theorem opB0 {f : Value → Value → Sem Value} {g : Int → Int → Bool}
    (rule : ∀ (i j : Int) (t u : Tok) (s : Shared) (Q : Value → Shared → Prop) (E : Value → Shared → Prop), Q (.bool (g i j)) s → wpAny (model X.prog X.w) X.A (f (.int i t) (.int j u)) Q E s) :
    OpR X f (rI0 fun i j => .bl (g i j)) := by
  intro pins s σ H x y v u Q I rx ry h
  obtain ⟨i, j, rfl, rfl, q⟩ := h
  obtain ⟨t, rfl⟩ := rx
  obtain ⟨t', rfl⟩ := ry
  exact rule i j t t' s _ _ ⟨.bl (g i j), H, I, rfl, q⟩
def CDiv (i j : Int) : Prop := 0 < j ∧ j < 1073741824
def CMul (i j : Int) : Prop := (-(2 ^ 64) < i ∧ i < 2 ^ 64) ∨ (-(2 ^ 64) < j ∧ j < 2 ^ 64)
theorem CMul.ok {i j : Int} (h : CMul i j) : IntMulOk i j := by
  rcases h with ⟨h1, h2⟩ | ⟨h1, h2⟩
  · exact .of_left (intBits_le_64 h1 h2)
  · exact .of_right (intBits_le_64 h1 h2)
theorem op_add : OpR X (binaryOp .Add) (rI0 fun i j => .int (i + j)) := opI0 fun _ _ _ _ _ _ _ q => add_int q
theorem op_sub : OpR X (binaryOp .Sub) (rI0 fun i j => .int (i - j)) := opI0 fun _ _ _ _ _ _ _ q => sub_int q
theorem op_mul : OpR X (binaryOp .Mult) (rI CMul fun i j => .int (i * j)) := opI fun _ _ _ _ _ _ _ hc q => mul_int q hc.ok
/-- // by a positive divisor -/
theorem op_fdiv : OpR X (binaryOp .FloorDiv) (rI CDiv fun i j => .int (i / j)) := opI fun i j _ _ _ _ _ hc q => by
  have h1 : (0 : Int) < j := hc.1
  have h2 : j < 1073741824 := hc.2
  exact floordiv_int (by omega) (by rw [Int.fdiv_eq_ediv_of_nonneg i (by omega)]; exact q) (.inl (PyProof.noPylong_small (by omega)))
/-- % by a positive divisor of any size -/
theorem op_mod : OpR X (binaryOp .Mod) (rI (fun _ j => 0 < j) fun i j => .int (i % j)) := opI fun i j _ _ _ _ _ hc q => by
  have h1 : (0 : Int) < j := hc
  exact mod_int' (by omega) (by rw [Int.fmod_eq_emod_of_nonneg i (by omega)]; exact q)
theorem unI {f : Value → Sem Value} {g : Int → Int}
    (rule : ∀ (i : Int) (t : Tok) (s : Shared) (Q : Value → Shared → Prop) (E : Value → Shared → Prop), Q (.int (g i) s.toks) { s with toks := s.toks + 1 } → wpAny (model X.prog X.w) X.A (f (.int i t)) Q E s) :
    UnR X f (rU fun i => .int (g i)) := by
  intro pins s σ H x v Q I rx h
  obtain ⟨i, rfl, q⟩ := h
  obtain ⟨t, rfl⟩ := rx
  exact rule i t s _ _ ⟨.int (g i), H, I.tok _, ⟨_, rfl⟩, q⟩
theorem un_neg : UnR X (unaryOp .USub) (rU fun i => .int (-i)) := unI fun _ _ _ _ _ q => neg_int q
end
/-- the scalars that == tells apart as data does -/
def scal : V → V → Bool
  | .non, .non => true | .non, .int _ => true | .int _, .non => true | .non, .bl _ => true | .bl _, .non => true | .non, .str _ => true | .str _, .non => true
  | .int _, .int _ => true | .bl _, .bl _ => true | .str _, .str _ => true | .byt _, .byt _ => true
  | .int _, .str _ => true | .str _, .int _ => true | .bl _, .str _ => true | .str _, .bl _ => true
  | _, _ => false
def rEq : R2 := fun x y H Q => scal x y = true ∧ Q (.bl (decide (x = y))) H
theorem dec_int {i j : Int} : decide (V.int i = V.int j) = (i == j) := by
  rw [Bool.eq_iff_iff]
  simp
theorem dec_bl {i j : Bool} : decide (V.bl i = V.bl j) = (i == j) := by
  rw [Bool.eq_iff_iff]
  simp
theorem dec_str {i j : Str} : decide (V.str i = V.str j) = (i == j) := by
  rw [Bool.eq_iff_iff]
  simp
theorem dec_byt {i j : Array UInt8} : decide (V.byt i = V.byt j) = (i.toList == j.toList) := by
  rw [Bool.eq_iff_iff]
  cases i
  cases j
  simp
section
variable {X : Cx} {a b c : Expr} {ta tb tc : TE} {pos : Pos}
theorem fin_bl {pins : List (Addr × Obj)} {σ : St} {H : Hp} {s : Shared} {Q : VK} {k k' : Bool} (I : Inv X pins σ H s) (q : Q (.bl k) H) (e : k = k') : EP X pins σ Q (.bool k') s := by
  subst e
  exact ⟨.bl k, H, I, rfl, q⟩
theorem op_eq : OpR X (compareOp .Eq) rEq := by
  intro pins s σ H x y v u Q I rx ry h
  obtain ⟨hs, q⟩ := h
  cases x with
  | non =>
    cases rx
    cases y with
    | non => cases ry; exact PySem.EqNone.eq_none_none (fin_bl I q (by simp))
    | bl j => cases ry; exact PySem.EqNone.eq_none_bool (fin_bl I q (by simp))
    | int j => obtain ⟨t', rfl⟩ := ry; exact PySem.EqNone.eq_none_int (fin_bl I q (by simp))
    | str j => obtain ⟨t', rfl⟩ := ry; exact PySem.EqNone.eq_none_str (fin_bl I q (by simp))
    | _ => exact absurd (show false = true from hs) Bool.false_ne_true
  | bl i =>
    cases rx
    cases y with
    | non => cases ry; exact PySem.EqNone.eq_bool_none (fin_bl I q (by simp))
    | bl j => cases ry; exact eq_bool (fin_bl I q dec_bl)
    | str j => obtain ⟨t', rfl⟩ := ry; exact PySem.EqMixed.eq_bool_str (fin_bl I q (by simp))
    | _ => exact absurd (show false = true from hs) Bool.false_ne_true
  | int i =>
    obtain ⟨t, rfl⟩ := rx
    cases y with
    | non => cases ry; exact PySem.EqNone.eq_int_none (fin_bl I q (by simp))
    | int j => obtain ⟨t', rfl⟩ := ry; exact eq_int (fin_bl I q dec_int)
    | str j => obtain ⟨t', rfl⟩ := ry; exact PySem.EqMixed.eq_int_str (fin_bl I q (by simp))
    | _ => exact absurd (show false = true from hs) Bool.false_ne_true
  | str i =>
    obtain ⟨t, rfl⟩ := rx
    cases y with
    | non => cases ry; exact PySem.EqNone.eq_str_none (fin_bl I q (by simp))
    | bl j => cases ry; exact PySem.EqMixed.eq_str_bool (fin_bl I q (by simp))
    | int j => obtain ⟨t', rfl⟩ := ry; exact PySem.EqMixed.eq_str_int (fin_bl I q (by simp))
    | str j => obtain ⟨t', rfl⟩ := ry; exact eq_str (fin_bl I q dec_str)
    | _ => exact absurd (show false = true from hs) Bool.false_ne_true
  | byt i =>
    obtain ⟨t, rfl⟩ := rx
    cases y with
    | byt j => obtain ⟨t', rfl⟩ := ry; exact PySem.W.eq_bytes (fin_bl I q dec_byt)
    | _ => exact absurd (show false = true from hs) Bool.false_ne_true
  | _ => cases y <;> exact absurd (show false = true from hs) Bool.false_ne_true
theorem op_lt : OpR X (compareOp .Lt) (rI0 fun i j => .bl (decide (i < j))) := opB0 fun _ _ _ _ _ _ _ q => lt_int q
theorem op_le : OpR X (compareOp .LtE) (rI0 fun i j => .bl (decide (i ≤ j))) := opB0 fun _ _ _ _ _ _ _ q => le_int q
theorem op_gt : OpR X (compareOp .Gt) (rI0 fun i j => .bl (decide (j < i))) := opB0 fun _ _ _ _ _ _ _ q => gt_int q
theorem op_ge : OpR X (compareOp .GtE) (rI0 fun i j => .bl (decide (j ≤ i))) := opB0 fun _ _ _ _ _ _ _ q => ge_int q
theorem nomark (b : Expr) {op : CmpOp} (h : op ≠ .In := by decide) (h2 : op ≠ .NotIn := by decide) : behindInMarks op b = false := by
  have e1 : (op == CmpOp.In) = false := by cases op <;> first | rfl | exact absurd rfl h
  have e2 : (op == CmpOp.NotIn) = false := by cases op <;> first | rfl | exact absurd rfl h2
  cases b <;> simp [behindInMarks, e1, e2]
/-- a comparison as a value; hm: nomark b, or (for in, not in) by with_unfolding_all rfl -/
theorem pe_cmpR {op : CmpOp} {r : R2} (ho : OpR X (compareOp op) r) (ha : PE X a ta) (hb : PE X b tb) (hm : behindInMarks op b = false) : PE X (.Compare a [op] [b] pos) (tOp r ta tb) := by
  intro pins s σ H Q I h
  exact wpAny_Compare1 (binT ha hb I h fun v u s2 x y H2 I2 rx ry q => ho pins s2 σ H2 x y v u Q I2 rx ry q) hm
/-- a reading of a value as a test -/
def tTest (t : TE) : TT := fun σ H Q => t σ H fun x H' => ∃ k, x = .bl k ∧ Q k H'
theorem pt_cmpR {op : CmpOp} {r : R2} (ho : OpR X (compareOp op) r) (ha : PE X a ta) (hb : PE X b tb) (hm : behindInMarks op b = false) : PT X (.Compare a [op] [b] pos) (tTest (tOp r ta tb)) := by
  intro pins s σ H Q I h
  refine wpAny_isTrue_Compare1 (thn (ha pins s σ H _ I h) fun v s1 ⟨x, H1, I1, r1, q1⟩ => thn (hb pins s1 σ H1 _ I1 q1) fun u s2 ⟨y, H2, I2, r2, q2⟩ =>
    thn (ho pins s2 σ H2 x y v u _ I2 r1 r2 q2) fun c s3 ⟨z, H3, I3, r3, k, e, q3⟩ => ?_) hm
  subst e
  cases r3
  exact wpAny_truthy_bool ⟨H3, I3, q3⟩
/-- a value's truth by the abstract heap -/
def TruV (K : PySem.W.Frag) (x : V) (H : Hp) (k : Bool) : Prop :=
  match x with
  | .non => k = false
  | .bl b => k = b
  | .int i => k = (i != 0)
  | .str y => y.length ≤ sizeLine ∧ k = ((y.length : Int) != 0)
  | .byt y => y.size ≤ sizeLine ∧ k = ((y.size : Int) != 0)
  | .ref p => (∃ xs, SqL K H p xs ∧ k = !xs.isEmpty) ∨ (∃ xs, SqT K H p xs ∧ k = !xs.isEmpty) ∨ ∃ kvs, H p = some (.dK kvs) ∧ k = !kvs.isEmpty
  | _ => False
theorem isEmpty_kv {κ : Type} {kvs : List (κ × V)} {vs : List (κ × Value)} (r : KV kvs vs) : (!vs.isEmpty) = !kvs.isEmpty := by
  cases r <;> rfl
theorem isEmpty_of {xs : List V} {its : List Value} (r : Vals xs its) : (!its.toArray.isEmpty) = !xs.isEmpty := by
  cases r <;> simp
theorem line63 : (sizeLine : Nat) < 2 ^ 63 := by rw [sizeLine_eq]; decide
theorem tru_ok : TruR X (fun x H Q => ∃ k, TruV X.K x H k ∧ Q k H) := by
  intro pins s σ H x v Q I rx h
  obtain ⟨k, e, q⟩ := h
  have hl := line63
  have hs : sizeLine = 16777216 := sizeLine_eq
  cases x with
  | non =>
    cases rx
    have e' : k = false := e
    subst e'
    exact truthy_none ⟨H, I, q⟩
  | bl b =>
    cases rx
    have e' : k = b := e
    subst e'
    exact wpAny_truthy_bool ⟨H, I, q⟩
  | int i =>
    obtain ⟨t, rfl⟩ := rx
    have e' : k = (i != 0) := e
    subst e'
    exact PySem.P.truthy_int ⟨H, I, q⟩
  | str y =>
    obtain ⟨t, rfl⟩ := rx
    obtain ⟨hy, e'⟩ : y.length ≤ sizeLine ∧ k = ((y.length : Int) != 0) := e
    subst e'
    exact PySem.P.truthy_str (by omega) ⟨H, I.tok _, q⟩
  | byt y =>
    obtain ⟨t, rfl⟩ := rx
    obtain ⟨hy, e'⟩ : y.size ≤ sizeLine ∧ k = ((y.size : Int) != 0) := e
    subst e'
    exact PySem.W.truthy_bytes (by omega) ⟨H, I.tok _, q⟩
  | ref p =>
    cases rx
    have e' : (∃ xs, SqL X.K H p xs ∧ k = !xs.isEmpty) ∨ (∃ xs, SqT X.K H p xs ∧ k = !xs.isEmpty) ∨ ∃ kvs, H p = some (.dK kvs) ∧ k = !kvs.isEmpty := e
    rcases e' with ⟨xs, hx, e'⟩ | ⟨xs, hx, e'⟩ | ⟨kvs, hx, e'⟩
    · subst e'
      obtain ⟨its, r, pl, hz⟩ := I.list hx
      have hlen := r.length
      exact wpAny_truthy_list pl.isList (by simp only [List.size_toArray]; omega) ⟨H, I.tok _, by rw [isEmpty_of r]; exact q⟩
    · subst e'
      obtain ⟨its, r, pl, hz⟩ := I.tuple hx
      have hlen := r.length
      exact truthy_tuple pl (by simp only [List.size_toArray]; omega) ⟨H, I.tok _, by rw [isEmpty_of r]; exact q⟩
    · subst e'
      obtain ⟨hz, hS, vs, r, m⟩ : kvs.length ≤ sizeLine ∧ (p == sysModules) = false ∧ ∃ vs, KV kvs vs ∧ s.heap.DictOf (mixKind X.prog X.w) p vs := I.hok p _ hx
      have hlen : kvs.length = vs.length := Paired.length r
      exact wpAny_truthy_dict hS m (by omega) ⟨H, I.tok _, by rw [isEmpty_kv r]; exact q⟩
  | _ => exact (show False from e).elim
/-- any expression whose test is its value's truth (a name, a call, a subscript, a field ..: he by fun _ => rfl) -/
theorem pt_truth (ha : PE X a ta) (he : ∀ whole, isTrue a X.env whole = (do let v ← whole; standAt a.pos; holding [v] (truthy v))) :
    PT X a (fun σ H Q => ta σ H fun x H' => ∃ k, TruV X.K x H' k ∧ Q k H') := by
  intro pins s σ H Q I h
  exact isTrue_plain (thn (ha pins s σ H _ I h) fun v s1 ⟨x, H1, I1, r1, q1⟩ => tru_ok pins s1 σ H1 x v Q I1 r1 q1) (he _)
theorem vals1 {x : V} {us : List Value} (r : Vals [x] us) : ∃ u, us = [u] ∧ RelV x u := by
  cases r with
  | cons r1 r2 => cases r2; exact ⟨_, rfl, r1⟩
theorem vals2 {x y : V} {us : List Value} (r : Vals [x, y] us) : ∃ u w', us = [u, w'] ∧ RelV x u ∧ RelV y w' := by
  cases r with
  | cons r1 r2 =>
    cases r2 with
    | cons r3 r4 => cases r4; exact ⟨_, _, rfl, r1, r3⟩
theorem call_max2 (hc : X.calm = true) : CallR X (.builtin "max") (fun xs H Q => ∃ i j, xs = [.int i, .int j] ∧ Q (.int (if j > i then j else i)) H) := by
  intro pins s σ H xs us Q I r h
  obtain ⟨i, j, rfl, q⟩ := h
  obtain ⟨u, w', rfl, ⟨t, rfl⟩, ⟨t', rfl⟩⟩ := vals2 r
  refine max_two_ints (I.ok.hd hc) fun h' tk k => ⟨_, H, I.kept k, ?_, q⟩
  by_cases hj : j > i
  · rw [if_pos hj, if_pos hj]; exact ⟨_, rfl⟩
  · rw [if_neg hj, if_neg hj]; exact ⟨_, rfl⟩
theorem call_min2 (hc : X.calm = true) : CallR X (.builtin "min") (fun xs H Q => ∃ i j, xs = [.int i, .int j] ∧ Q (.int (if j < i then j else i)) H) := by
  intro pins s σ H xs us Q I r h
  obtain ⟨i, j, rfl, q⟩ := h
  obtain ⟨u, w', rfl, ⟨t, rfl⟩, ⟨t', rfl⟩⟩ := vals2 r
  refine min_two_ints (I.ok.hd hc) fun h' tk k => ⟨_, H, I.kept k, ?_, q⟩
  by_cases hj : j < i
  · rw [if_pos hj, if_pos hj]; exact ⟨_, rfl⟩
  · rw [if_neg hj, if_neg hj]; exact ⟨_, rfl⟩
end
end L2
namespace L2
open PySem PySem.Spec PyProof.Rows
end L2
namespace L2
open PySem PySem.Spec PyProof.Rows
structure Room (k : Nat) (A : Around) : Prop where
  hd : A.handled = none
  dp : A.depth + 3 * k + 5 < recursionLimit
  un : A.units + 16 * k + 200 < cLine
theorem Room.mono {j k : Nat} {A : Around} (r : Room k A) (h : j ≤ k) : Room j A := ⟨r.hd, by have := r.dp; omega, by have := r.un; omega⟩
theorem Room.deeper {k : Nat} {A : Around} (r : Room (k + 1) A) (env : Env) : Room k (A.deeper env) :=
  ⟨r.hd, by have := r.dp; show A.depth + 1 + 3 * k + 5 < _; omega, by have := r.un; show A.units + 3 + 16 * k + 200 < _; omega⟩
theorem Room.in1 {k : Nat} {A : Around} (r : Room (k + 1) A) : Room k A.in1 :=
  ⟨r.hd, by have := r.dp; show A.depth + 3 * k + 5 < _; omega, by have := r.un; show A.units + 1 + 16 * k + 200 < _; omega⟩
theorem Room.depth {k : Nat} {A : Around} (r : Room k A) : A.depth < recursionLimit := by have := r.dp; omega
theorem Room.units {k : Nat} {A : Around} (r : Room k A) : A.units + 64 < cLine := by have := r.un; omega
theorem Room.units0 {k : Nat} {A : Around} (r : Room k A) : A.units < cLine := by have := r.un; omega
def tNil : TA := fun _ H Q => Q [] H
def tCons (ta : TE) (tr : TA) : TA := fun σ H Q => ta σ H fun x H1 => tr σ H1 fun xs H2 => Q (x :: xs) H2
section
variable {X : Cx} {e : Expr} {es : List Expr} {te : TE} {t : TA} {pos : Pos}
theorem pa_nil : PA X [] tNil := fun _ _ _ _ H Q I h => Calls.spliced_nil ⟨[], H, I, .nil, h⟩
theorem pa_cons (ha : PE X e te) (hr : PA X es t) (hs : starEach (e :: es) X.env = (false, eval e X.env) :: starEach es X.env := by rfl) : PA X (e :: es) (tCons te t) := by
  intro pos pins s σ H Q I h
  rw [hs]
  show wpAny _ _ (spliced ((false, eval e X.env) :: backTo pos (starEach es X.env))) _ _ s
  refine Calls.spliced_cons (thn (ha pins s σ H _ I h) fun u s1 ⟨x, H1, I1, r1, q1⟩ => ?_)
  exact thn (hr pos pins s1 σ H1 _ I1 q1) fun us s2 ⟨xs, H2, I2, r2, q2⟩ => ⟨x :: xs, H2, I2, .cons r1 r2, q2⟩
/-- a tuple, a list of written items -/
def tTup (t : TA) : TE := fun σ H Q => t σ H fun xs H1 => xs.length ≤ sizeLine ∧ ∀ p, H1 p = none → Q (.ref p) (upd H1 p (.tup xs))
def tLst (t : TA) : TE := fun σ H Q => t σ H fun xs H1 => xs.length ≤ sizeLine ∧ ∀ p, H1 p = none → Q (.ref p) (upd H1 p (.lst xs))
theorem pe_tup {x1} (h : PA X es t) : PE X (.Tuple es x1 pos) (tTup t) := by
  intro pins s σ H Q I hq
  refine wpAny_Tuple_spliced (thn (h pos pins s σ H _ I hq) fun us s1 ⟨xs, H1, I1, r, z, q⟩ => ⟨by rw [← r.length]; exact z, ?_⟩)
  have hf : H1 s1.heap.objs.size = none := I1.hok.fresh (Nat.le_refl _)
  refine ⟨.ref s1.heap.objs.size, upd H1 s1.heap.objs.size (.tup xs), I1.laid (t' := s1.toks) (fun b u e => Heap.get?_push_of_some _ e) (Nat.le_refl _) ?_, rfl, q _ hf⟩
  exact ⟨z, us, r, ⟨_, Heap.get?_push_size _ rfl, rfl, _, rfl⟩⟩
theorem pe_lst (h : PA X es t) : PE X (.List es pos) (tLst t) := by
  intro pins s σ H Q I hq
  refine wpAny_List_spliced (thn (h pos pins s σ H _ I hq) fun us s1 ⟨xs, H1, I1, r, z, q⟩ => ⟨by rw [← r.length]; exact z, ?_⟩)
  have hf : H1 s1.heap.objs.size = none := I1.hok.fresh (Nat.le_refl _)
  refine ⟨.ref s1.heap.objs.size, upd H1 s1.heap.objs.size (.lst xs), I1.laid (t' := s1.toks) (fun b u e => Heap.get?_push_of_some _ e) (Nat.le_refl _) ?_, rfl, q _ hf⟩
  exact ⟨z, us, 0, r, Heap.get?_push_size _ rfl⟩
end
/-- a def's promise: the bound arguments in the parameters' order, the heap, the wanted end, the wanted exception -/
abbrev Sp := List V → Hp → VK → XK → Prop
/-- how an exception lies behind a call (file 08 gives it): the callers' frames, abstract heap and state ahead of the call, the wish, the exception, the state -/
abbrev CXT := List Env → Hp → Shared → XK → Value → Shared → Prop
/-- the state at a call -/
structure Env0 (P : Program) (w : World) (K : PySem.W.Frag) (mg : Str → Option Value) (base : Heap) (A : Around) (outer : List Env) (s : Shared) (H : Hp) : Prop where
  frames : A.frames = some outer
  mod : Mod K mg base
  bs : ∀ b o, base.get? b = some o → s.heap.get? b = some o ∧ H b = none
  bsz : base.objs.size ≤ s.heap.objs.size
  funs : s.heap.FunFrames base outer
  frf : ∀ b ∈ frs outer, H b = none
  hok : HOk P w H s.heap
  bare : AllBare s.gens
/-- a call's end -/
def CE (outer : List Env) (P : Program) (w : World) (H : Hp) (s : Shared) (Q : VK) (u : Value) (s' : Shared) : Prop :=
  ∃ v H', s'.os = s.os ∧ AllBare s'.gens ∧ Un (frs outer) [] H H' s.heap s'.heap ∧ HOk P w H' s'.heap ∧ RelV v u ∧ Q v H'
def CR (CX : CXT) (outer : List Env) (P : Program) (w : World) (H : Hp) (s : Shared) (Q : VK) (E : XK) (r : Result) (s' : Shared) : Prop :=
  match r with
  | .ok (.ret u) => CE outer P w H s Q u s'
  | .ok _ => False
  | .error e => CX outer H s E e s'
structure FnOk (P : Program) (w : World) (K : PySem.W.Frag) (mg : Str → Option Value) (base : Heap) (CX : CXT) (k : Nat) (f : Addr) (fd : FuncData) (ps : List Str) (sp : Sp) : Prop where
  len : ∀ vs H Q E, sp vs H Q E → vs.length = ps.length
  run : ∀ (A : Around) (outer : List Env) (s : Shared) (H : Hp) (args : Args) (us : List Value) (vs : List V) (Q : VK) (E : XK), Room k A → Env0 P w K mg base A outer s H → BindsTo s fd args (ps.zip us) → Vals vs us → sp vs H Q E →
    codeAny (model P w) A (.call (.ref f) args) (CR CX outer P w H s Q E) s
theorem Env0.in1 {P : Program} {w : World} {K : PySem.W.Frag} {mg : Str → Option Value} {base : Heap} {A : Around} {outer : List Env} {s : Shared} {H : Hp} (e : Env0 P w K mg base A outer s H) :
    Env0 P w K mg base A.in1 outer s H := ⟨e.frames, e.mod, e.bs, e.bsz, e.funs, e.frf, e.hok, e.bare⟩
section
variable {X : Cx} {pins : List (Addr × Obj)} {σ : St} {H : Hp} {s s' : Shared}
/-- from a body: what a callee wants -/
theorem Inv.env0 (I : Inv X pins σ H s) : Env0 X.prog X.w X.K X.mg X.base X.A X.stack s H :=
  ⟨I.ok.frames, I.ok.mod, I.bs, Nat.le_trans I.ok.bsz I.sz, I.stack, I.stkFree, I.hok, I.bare⟩
/-- behind a call -/
theorem Inv.after {Q : VK} {u : Value} (I : Inv X pins σ H s) (h : CE X.stack X.prog X.w H s Q u s') : EP X pins σ Q u s' := by
  obtain ⟨v, H', os, bare, un, hok, r, q⟩ := h
  obtain ⟨hh, g, d, t, os'⟩ := s'
  obtain rfl : os' = s.os := os
  exact ⟨v, H', I.call (h' := hh) (g' := g) (d' := d) (t' := t) (ch := []) un hok bare (fun b z => absurd z (by simp)), r, q⟩
end
/-- f(..): the written arguments, then the defaults dvs; E: what is wanted of an exception -/
def tCall (sp : Sp) (dvs : List V) (E : XK) (t : TA) : TE := fun σ H Q => t σ H fun vs H1 => sp (vs ++ dvs) H1 Q E
/-- how the parameters are bound: us the positional arguments, kw the keywords' values by name, ds the defaults that fill up -/
def Binds (K : PySem.W.Frag) (fd : FuncData) (ps : List Str) (ds : List Value) : Prop :=
  ∀ (s : Shared) (us : List Value), K.In s.heap → (us ++ ds).length = ps.length → BindsTo s fd ⟨us, []⟩ (ps.zip (us ++ ds))
/-- every parameter is given -/
theorem Binds.all {K : PySem.W.Frag} {fd : FuncData} {ps : List Str} (h : ∀ us : List Value, us.length = ps.length → bindArgs fd ⟨us, []⟩ = pure (ps.zip us)) : Binds K fd ps [] := fun s us _ hl => by
  rw [List.append_nil] at hl ⊢
  exact .of_eq (h us hl)
/-- an exception of a callee reaches what this body wants of exceptions -/
def Passes (CX : CXT) (X : Cx) (E : XK) : Prop := ∀ (pins : List (Addr × Obj)) (σ : St) (H : Hp) (s : Shared) (e : Value) (s' : Shared), Inv X pins σ H s → CX X.stack H s E e s' → X.xe e s'
section
variable {X : Cx} {CX : CXT} {k : Nat} {f C : Addr} {fd : FuncData} {ps : List Str} {sp : Sp} {dvs : List V} {ds : List Value} {E : XK} {x m : Str} {p pos apos : Pos} {e o : Expr} {es : List Expr} {ta : TE} {t : TA}
/-- the callee runs -/
theorem run_fn {pins : List (Addr × Obj)} {σ : St} {H : Hp} {s : Shared} {Q : VK} {us : List Value} {vs : List V} (F : FnOk X.prog X.w X.K X.mg X.base CX k f fd ps sp) (hr : Room k X.A) (hb : Binds X.K fd ps ds) (hd : Vals dvs ds) (hx : Passes CX X E)
    (I : Inv X pins σ H s) (r : Vals vs us) (h : sp (vs ++ dvs) H Q E) : wpAny (model X.prog X.w) X.A (call (.ref f) us) (EP X pins σ Q) X.xe s := by
  have r2 : Vals (vs ++ dvs) (us ++ ds) := r.append hd
  have hl : (us ++ ds).length = ps.length := by rw [← r2.length]; exact F.len _ _ _ _ h
  refine wpAny_call (codeAny_mono (F.run X.A X.stack s H ⟨us, []⟩ (us ++ ds) (vs ++ dvs) Q E hr I.env0 (hb s us I.kIn hl) r2 h) fun r s' hq => ?_)
  cases r with
  | error e => exact hx pins σ H s e s' I hq
  | ok fl =>
    cases fl with
    | ret u => exact I.after hq
    | next => exact False.elim hq
    | brk => exact False.elim hq
    | cont => exact False.elim hq
theorem pe_call (F : FnOk X.prog X.w X.K X.mg X.base CX k f fd ps sp) (hr : Room k X.A) (hg : Gl X x) (hm : X.mg x = some (.ref f)) (hk : PySem.W.keepIn X.K (.ref f) = true) (hb : Binds X.K fd ps ds) (hd : Vals dvs ds) (hx : Passes CX X E)
    (ha : PA X (e :: es) t) (hdb : (x == ("__debug__" : Str)) = false := by decide) (he : starEach (e :: es) X.env = (false, eval e X.env) :: starEach es X.env := by rfl) (hpl : (backTo pos (starEach es X.env)).any (·.1) = false := by rfl) :
    PE X (.Call (.Name x p) (e :: es) [] pos) (tCall sp dvs E t) := by
  intro pins s σ H Q I h
  refine wpAny_Call_Name_kw (ld_glob I hg hm ?_ hdb)
  refine PySem.W.callWith_K (h₀ := X.base) I.ok.mod.kin hk (thn (ha pos pins s σ H _ I h) fun us s1 ⟨vs, H1, I1, r, q⟩ => ⟨I1.kIn, ?_⟩) he hpl
  exact run_fn F hr hb hd hx I1 r q
end
/-- the values of the keywords, from the left -/
def PK (X : Cx) (kws : List Keyword) (t : TA) : Prop :=
  ∀ (pos : Pos) (pins : List (Addr × Obj)) (s : Shared) (σ : St) (H : Hp) (Q : List V → Hp → Prop), Inv X pins σ H s → t σ H Q → wpAny (model X.prog X.w) X.A (evalAll ((backToKw pos (keywordEach kws X.env)).map (·.2))) (AP X pins σ Q) X.xe s
section
variable {X : Cx} {CX : CXT} {k : Nat} {f C : Addr} {fd : FuncData} {ps ks : List Str} {sp : Sp} {E : XK} {x m : Str} {p pos apos kpos : Pos} {e o : Expr} {es : List Expr} {kws : List Keyword} {te ta : TE} {t tk : TA} {nm : Option Str}
theorem pk_nil : PK X [] tNil := fun _ _ _ _ H Q I h => wpAny_evalAll_nil ⟨[], H, I, .nil, h⟩
theorem pk_cons (ha : PE X e te) (hr : PK X kws t) : PK X (⟨nm, e, kpos⟩ :: kws) (tCons te t) := by
  intro pos pins s σ H Q I h
  show wpAny _ _ (evalAll ((do let v ← eval e X.env; standAt pos; pure v) :: (backToKw pos (keywordEach kws X.env)).map (·.2))) _ _ s
  refine wpAny_evalAll_cons (wpAny_bind (thn (ha pins s σ H _ I h) fun u s1 ⟨x, H1, I1, r1, q1⟩ => wpAny_bind (wpAny_standAt (wpAny_pure ?_))))
  exact thn (hr pos pins s1 σ H1 _ I1 q1) fun us s2 ⟨xs, H2, I2, r2, q2⟩ => ⟨x :: xs, H2, I2, .cons r1 r2, q2⟩
variable {g : List Value → List Value → List Value} {gV : List V → List V → List V}
end
/-- names: the parameters first -/
structure FnScope (N P : List Str) (sc : Scope) : Prop where
  kind : sc.kind = .function
  co : sc.isCoroutine = false
  gen : sc.isGenerator = false
  nd : N.Nodup
  pre : N.take P.length = P
  par : ∀ x ∈ P, sc.names.lookup x = some .local ∨ sc.names.lookup x = some .cell
  nofree : ∀ y ∈ sc.names, y.2 ≠ .free
theorem bindL_out {kindOf : Str → Option NameKind} {x : Str} : ∀ {binds : List (Str × Value)} {m : Str → Option Value}, (∀ v, (x, v) ∉ binds) → bindL kindOf binds m x = m x
  | [], _, _ => rfl
  | (n, v) :: r, m, h => by
    unfold bindL
    rw [bindL_out fun w hw => h w (List.mem_cons_of_mem _ hw)]
    split
    · have : x ≠ n := by rintro rfl; exact h v List.mem_cons_self
      simp [this]
    · rfl
theorem bindC_out {kindOf : Str → Option NameKind} {x : Str} : ∀ {binds : List (Str × Value)} {m : Str → Option Value}, (∀ v, (x, v) ∉ binds) → bindC kindOf binds m x = m x
  | [], _, _ => rfl
  | (n, v) :: r, m, h => by
    unfold bindC
    rw [bindC_out fun w hw => h w (List.mem_cons_of_mem _ hw)]
    split
    · rfl
    · have : x ≠ n := by rintro rfl; exact h v List.mem_cons_self
      simp [this]
theorem bindL_get {kindOf : Str → Option NameKind} {x : Str} {v : Value} : ∀ {P : List Str} {vs : List Value} {i : Nat} {m : Str → Option Value}, P.Nodup → P[i]? = some x → vs[i]? = some v → kindOf x = some .local →
    bindL kindOf (P.zip vs) m x = some v
  | [], _, _, _, _, h, _, _ => by simp at h
  | _ :: _, [], _, _, _, _, h, _ => by simp at h
  | p :: P, w :: vs, 0, m, nd, h1, h2, hk => by
    simp at h1 h2; subst h1; subst h2
    show bindL kindOf ((p, w) :: P.zip vs) m p = _
    unfold bindL
    rw [bindL_out fun v hv => (List.nodup_cons.mp nd).1 (List.of_mem_zip hv).1, if_pos hk]
    simp
  | p :: P, w :: vs, i + 1, m, nd, h1, h2, hk => by
    show bindL kindOf ((p, w) :: P.zip vs) m x = _
    unfold bindL
    exact bindL_get (i := i) (List.nodup_cons.mp nd).2 (by simpa using h1) (by simpa using h2) hk
theorem bindC_get {kindOf : Str → Option NameKind} {x : Str} {v : Value} : ∀ {P : List Str} {vs : List Value} {i : Nat} {m : Str → Option Value}, P.Nodup → P[i]? = some x → vs[i]? = some v → kindOf x ≠ some .local →
    bindC kindOf (P.zip vs) m x = some v
  | [], _, _, _, _, h, _, _ => by simp at h
  | _ :: _, [], _, _, _, _, h, _ => by simp at h
  | p :: P, w :: vs, 0, m, nd, h1, h2, hk => by
    simp at h1 h2; subst h1; subst h2
    show bindC kindOf ((p, w) :: P.zip vs) m p = _
    unfold bindC
    rw [bindC_out fun v hv => (List.nodup_cons.mp nd).1 (List.of_mem_zip hv).1, if_neg hk]
    simp
  | p :: P, w :: vs, i + 1, m, nd, h1, h2, hk => by
    show bindC kindOf ((p, w) :: P.zip vs) m x = _
    unfold bindC
    exact bindC_get (i := i) (List.nodup_cons.mp nd).2 (by simpa using h1) (by simpa using h2) hk
/-- the names' values at the entry -/
def start (N : List Str) (vs : List V) : St := vs.map some ++ List.replicate (N.length - vs.length) none
/-- the context of a def's body, at its entry; an exception leaves the frame, then lies as CX says -/
def cxOf (CX : CXT) (P : Program) (w : World) (K : PySem.W.Frag) (mg : Str → Option Value) (base : Heap) (N : List Str) (qual : Str) (scope : Scope) (f : Addr) (cd : Value) (A : Around) (outer : List Env) (s : Shared) (H : Hp) (E : XK) : Cx where
  prog := P
  w := w
  K := K
  mg := mg
  base := base
  A := A.deeper (envOfC qual scope s.heap.objs.size f cd)
  N := N
  s_0 := s
  H_0 := H
  env := envOfC qual scope s.heap.objs.size f cd
  outer := outer
  stack := envOfC qual scope s.heap.objs.size f cd :: outer
  ex := []
  calm := true
  fn := fun _ => true
  pn := []
  xe := fun e s' => wpAny (model P w) (A.deeper (envOfC qual scope s.heap.objs.size f cd)) (leaving (envOfC qual scope s.heap.objs.size f cd) e) (fun _ s'' => CX outer H s E e s'') (fun e' s'' => CX outer H s E e' s'') s'
theorem cell_has {sc : Scope} {n : Nat} {x : Str} (h : sc.names.lookup x = some .cell) : ∃ c, (cellsFrom n sc.names []).lookup x = some c := by
  have q := PySem.W.cellsFrom_some sc.names n [] (.inl h)
  exact Option.isSome_iff_exists.mp q
theorem inv_start {CX : CXT} {P : Program} {w : World} {K : PySem.W.Frag} {mg : Str → Option Value} {base : Heap} {N ps : List Str} {qual : Str} {scope : Scope} {f : Addr} {cd : Value} {A : Around} {outer : List Env} {s s1 : Shared} {H : Hp} {E : XK} {us : List Value} {vs : List V}
    (S : FnScope N ps scope) (hd : A.handled = none) (e0 : Env0 P w K mg base A outer s H) (hl : vs.length = ps.length) (r : Vals vs us)
    (x : InCallC s s.heap.objs.size (bindL (envOfC qual scope s.heap.objs.size f cd).kindOf (ps.zip us) fun _ => none) (cellsFrom (s.heap.objs.size + 1) scope.names []) (bindC (envOfC qual scope s.heap.objs.size f cd).kindOf (ps.zip us) fun _ => none) s1) :
    Inv (cxOf CX P w K mg base N qual scope f cd A outer s H E) [] (start N vs) H s1 := by
  have hpl : ps.length ≤ N.length := by have := congrArg List.length S.pre; rw [List.length_take] at this; omega
  obtain ⟨h1, tk, rfl, hk⟩ := x.done
  have noA : ∀ b : Addr, b ∉ (cxOf CX P w K mg base N qual scope f cd A outer s H E).ex := fun b z => absurd (show b ∈ ([] : List Addr) from z) (by simp)
  refine ⟨⟨e0.mod, S.kind, rfl, rfl, Nat.le_refl _, fun y z c h1 h2 => ?_, fun y hy => ?_, fun y c _ h => ?_, fun _ => hd, Around.frames_deeper e0.frames, .inr ⟨rfl, rfl⟩, fun b z => absurd z (noA b), e0.bs, e0.bsz, fun b _ _ => noA b, fun b z => absurd z (noA b), e0.funs, e0.frf⟩,
    rfl, e0.bare, Un.kept hk, ⟨_, x.toInCall.ns, fun i y v h1 h2 h3 => ?_⟩, fun y c h => ⟨_, x.cell y c h⟩, e0.hok.fresh (Nat.le_refl _), fun y c h => ?_, fun p hp => absurd (show p ∈ ([] : List (Addr × Obj)) from hp) (by simp), e0.hok.kept hk, ?_⟩
  · exact name_of_addr x.apart (PySem.mem_of_lookup h1) (PySem.mem_of_lookup h2)
  · have hy : scope.names.lookup y = some .cell ∨ scope.names.lookup y = some .free := hy
    rcases hy with hy | hy
    · exact cell_has hy
    · exact absurd rfl (S.nofree _ (PySem.mem_of_lookup hy))
  · exact Nat.le_of_lt (x.above y c (PySem.mem_of_lookup h))
  · have hi : i < vs.length := by
      unfold start at h2
      by_cases hi : i < vs.length
      · exact hi
      · rw [List.getElem?_append_right (by simpa using hi)] at h2
        rw [List.getElem?_replicate] at h2
        split at h2 <;> cases h2
    have ha : vs[i]? = some v := by
      unfold start at h2
      rw [List.getElem?_append_left (by simpa using hi), List.getElem?_map] at h2
      cases e : vs[i]? with
      | none => rw [e] at h2; cases h2
      | some a => rw [e] at h2; cases h2; rfl
    obtain ⟨u, hu, rv⟩ := r.get ha
    have hp : ps[i]? = some y := by
      rw [← S.pre, List.getElem?_take_of_lt (by omega)]; exact h1
    have ndP : ps.Nodup := by rw [← S.pre]; exact S.nd.sublist (List.take_sublist _ _)
    refine ⟨u, rv, ?_⟩
    rcases S.par y (List.mem_of_getElem? hp) with k | k
    · exact .inl ⟨k, bindL_get ndP hp hu k⟩
    · obtain ⟨c, e⟩ := cell_has (n := s.heap.objs.size + 1) k
      refine .inr ⟨.inl k, c, e, ?_⟩
      have q := x.cell y c e
      rw [bindC_get ndP hp hu (by show scope.names.lookup y ≠ _; rw [k]; decide)] at q
      exact q
  · exact e0.hok.fresh (Nat.le_of_lt (x.above y c (PySem.mem_of_lookup h)))
  · unfold start
    show _ = N.length
    rw [List.length_append, List.length_map, List.length_replicate]
    omega
/-- THE RULE: a def (or a method) of the text, by its body. The body's reading t is chosen for each entry; it is run at the parameters' values -/
theorem fn_of {CX : CXT} {P : Program} {w : World} {K : PySem.W.Frag} {mg : Str → Option Value} {base : Heap} {k : Nat} {f : Addr} {name qual : Str} {params : Arguments} {body : List Stmt} {scope : Scope} {dV kV doc pm cdv ct oc : Value} {an od : Option Addr}
    {osl : Array (Option Value)} {N ps : List Str} {sp : Sp} (lk : K.lookup f = some ⟨oc, od, .func (PySem.W.fnOf name qual params body scope dV kV doc pm an cdv ct), osl⟩) (hcd : PySem.W.codeIn K cdv qual = true) (S : FnScope N ps scope)
    (len : ∀ vs H Q E, sp vs H Q E → vs.length = ps.length)
    (hbody : ∀ (A : Around) (outer : List Env) (s : Shared) (H : Hp) (vs : List V) (Q : VK) (E : XK), Room k (A.deeper (envOfC qual scope s.heap.objs.size f cdv)) → sp vs H Q E →
      ∃ t, PSs (cxOf CX P w K mg base N qual scope f cdv A outer s H E) body t ∧ t { nx := fun _ H' => Q .non H', rt := Q } (start N vs) H) :
    FnOk P w K mg base CX (k + 1) f (PySem.W.fnOf name qual params body scope dV kV doc pm an cdv ct) ps sp := by
  refine ⟨len, fun A outer s H args us vs Q E hr e0 hb r hsp => ?_⟩
  have hl := len _ _ _ _ hsp
  have KX : K.In s.heap := e0.mod.kin.keeps fun b o e => (e0.bs b o e).1
  have lim : s.heap.NoLimit := e0.mod.nolimit.keeps fun b o e => (e0.bs b o e).1
  have hkind : ∀ y ∈ ps.zip us, scope.names.lookup y.1 = some .local ∨ (scope.names.lookup y.1 = some .cell ∧ ((cellsFrom (s.heap.objs.size + 1) scope.names []).lookup y.1).isSome = true) := fun ⟨n, v⟩ hy => by
    rcases S.par n (List.of_mem_zip hy).1 with q | q
    · exact .inl q
    · exact .inr ⟨q, PySem.W.cellsFrom_some _ _ _ (.inl q)⟩
  refine codeAny_call_function hr.depth (KX _ _ lk) rfl S.co S.gen rfl (PySem.W.codeRec_of KX hcd) (hb _ _ _ _ ?_)
  refine wpAny_newFunctionEnv_cells S.kind hkind fun env he s1 x => ?_
  subst he
  refine ⟨lim.keeps x.toInCall.keep, codeAny_func ?_⟩
  obtain ⟨t, ht, hq⟩ := hbody A outer s H vs Q E (hr.deeper _) hsp
  have I : Inv (cxOf CX P w K mg base N qual scope f cdv A outer s H E) [] (start N vs) H s1 := inv_start S hr.hd e0 hl r x
  refine wpAny_mono (ht [] s1 (start N vs) H _ I hq) (fun fl s' hs => ?_) fun e s' hs => hs
  have fin : ∀ {σ' : St} {H' : Hp} {v : V} {u : Value}, Inv (cxOf CX P w K mg base N qual scope f cdv A outer s H E) [] σ' H' s' → RelV v u → Q v H' → CE outer P w H s Q u s' :=
    fun {σ' H' v u} J rv q => ⟨v, H', J.os, J.bare, J.base, J.hok, rv, q⟩
  cases fl with
  | ret u =>
    obtain ⟨v, σ', H', J, rv, q⟩ := hs
    exact fin J rv q
  | next =>
    obtain ⟨σ', H', J, q⟩ := hs
    exact fin (v := V.non) (u := Value.none) J rfl q
  | brk =>
    obtain ⟨_, _, _, q⟩ := hs
    exact False.elim q
  | cont =>
    obtain ⟨_, _, _, q⟩ := hs
    exact False.elim q
end L2
namespace L2
open PySem PySem.Spec PyProof.Rows
section
variable {X : Cx} {x : Str} {p pos : Pos} {e : Expr} {es : List Expr} {t : TA} {id T : String} {r : List V → Hp → VK → Prop}
def tCB (r : List V → Hp → VK → Prop) (t : TA) : TE := fun σ H Q => t σ H fun vs H1 => r vs H1 Q
/-- f(e, ..), f a built-in function -/
theorem pe_callB (hc : CallR X (.builtin id) r) (hg : Gl X x) (hm : X.mg x = none) (hv : bootBuiltins x = some (.builtin id)) (ha : PA X (e :: es) t) (hn : x ≠ "__name__" := by decide) (hdb : (x == ("__debug__" : Str)) = false := by decide)
    (he : starEach (e :: es) X.env = (false, eval e X.env) :: starEach es X.env := by rfl) (hpl : (backTo pos (starEach es X.env)).any (·.1) = false := by rfl) : PE X (.Call (.Name x p) (e :: es) [] pos) (tCB r t) := by
  intro pins s σ H Q I h
  refine wpAny_Call_Name_kw (ld_blt I hg hm hv ?_ hn hdb)
  exact PyProof.Rows.callWith_builtin1 (thn (ha pos pins s σ H _ I h) fun us s1 ⟨vs, H1, I1, r1, q1⟩ => hc pins s1 σ H1 vs us Q I1 r1 q1) he hpl
end
end L2
namespace HT
open PySem PyProof.Rows
/-- t < u of tuples of ints -/
def lexLt : List Int → List Int → Bool
  | [], [] => false
  | [], _ :: _ => true
  | _ :: _, [] => false
  | x :: xs, y :: ys => if x = y then lexLt xs ys else decide (x < y)
theorem lexLt_cons (x y : Int) (xs ys : List Int) : lexLt (x :: xs) (y :: ys) = if x = y then lexLt xs ys else decide (x < y) := rfl
theorem lexLt_nil_nil : lexLt [] [] = false := rfl
theorem lexLt_nil_cons (y : Int) (ys : List Int) : lexLt [] (y :: ys) = true := rfl
theorem lexLt_cons_nil (x : Int) (xs : List Int) : lexLt (x :: xs) [] = false := rfl
theorem eqAt_int (A : Around) (s : Shared) (a : Int) (t : Tok) (c : Int) (u : Tok) : ∃ e, SeqAt.EqAt A s (.int a t) (.int c u) e ∧ (e = true ↔ a = c) :=
  ⟨(a == c), SeqAt.EqAt.int_int a t c u, by simp⟩
theorem rcLt_int (A : Around) (s : Shared) (a : Int) (t : Tok) (c : Int) (u : Tok) (prog : Program) (w : World) (E : Value → Shared → Prop) (Q : Value → Shared → Prop) (h : Q (.bool (decide (a < c))) s) :
    wpAny (model prog w) A (richCompare .Lt (.int a t) (.int c u)) Q E s :=
  (PyProof.Rows.lt_int h : wpAny (model prog w) A (compareOp .Lt (.int a t) (.int c u)) Q E s)
section
open PySem.SeqAt
open PySem.AutoSeq1 (wpAny_loadPart')
open PySem.MeetsSeq PySem.MeetsSeq2 PySem.MeetsSeq3
theorem tuple_lt_ints (l b : Addr) (items items2 : Array Value) (n n2 : Nat) (dd dd2 : Option Addr) (sl sl2 : Array (Option Value)) (ns ms : List Int) (hi : IntsAre items.toList ns) (hj : IntsAre items2.toList ms) :
    Meets (Builtin.«tuple.__lt__» ⟨[.ref l, .ref b], []⟩)
      (fun _ R s => s.heap.get? l = some { cls := .type "tuple", dict := dd, data := .seq items n, slots := sl } ∧ s.heap.get? b = some { cls := .type "tuple", dict := dd2, data := .seq items2 n2, slots := sl2 } ∧
        R (.ok (.ret (.bool (lexLt ns ms)))) s) :=
  .of_wp fun prog w A R s h => by
    obtain ⟨hp, g, d, tk, os⟩ := s; obtain ⟨hl, hb, h⟩ := h
    have f2 := AutoSeq1.sub_tuple_tuple
    have z1 : items.size = ns.length := by rw [← hi.length]; simp
    have z2 : items2.size = ms.length := by rw [← hj.length]; simp
    wp_walk using wpAny_loadPart' hl, wpAny_loadPart' hb, wpAny_forIn_list _ (fun rest b s' => b.1 = none ∧ s' = ⟨hp, g, d, tk, os⟩ ∧ ∃ (vs ws : List Value) (ns' ms' : List Int), rest = vs.zip ws ∧
      IntsAre vs ns' ∧ IntsAre ws ms' ∧ ns'.length + items2.size = ms'.length + items.size ∧ R (.ok (.ret (.bool (lexLt ns' ms')))) ⟨hp, g, d, tk, os⟩) _
    case turn =>
      rintro ⟨y, x⟩ rest b s' ⟨hb', rfl, vs, ws, ns', ms', hz, hvi, hwi, hlen, hR⟩
      cases hvi with
      | nil => rw [List.zip_nil_left] at hz; cases hz
      | cons a t hvi' =>
        cases hwi with
        | nil => rw [List.zip_nil_right] at hz; cases hz
        | cons c u hwi' =>
          rw [List.zip_cons_cons] at hz
          injection hz with hyx hrest
          injection hyx with hy hx
          subst hy hx
          rw [lexLt_cons] at hR
          simp only [List.length_cons] at hlen
          obtain ⟨e, he, hiff⟩ := eqAt_int A.in1 ⟨hp, g, d, tk, os⟩ a t c u
          refine wpAny_bind (he prog w _ _ ?_)
          cases e with
          | true =>
            rw [if_pos (hiff.mp rfl)] at hR
            wp_walk
            exact ⟨rfl, rfl, _, _, _, _, hrest, hvi', hwi', by omega, hR⟩
          | false =>
            rw [if_neg (fun q => absurd (hiff.mpr q) Bool.false_ne_true)] at hR
            have hri := rcLt_int A.in1 ⟨hp, g, d, tk, os⟩ a t c u prog w
            wp_walk using hri
            exact ⟨_, rfl, by simpa using hR⟩
    case fin =>
      rintro ⟨b1, b2⟩ s' ⟨hb', rfl, vs, ws, ns', ms', hz, hvi, hwi, hlen, hR⟩
      simp only at hb'
      subst hb'
      have hv : lexLt ns' ms' = decide (items.size < items2.size) := by
        cases hvi with
        | nil =>
          cases hwi with
          | nil =>
            simp only [List.length_nil] at hlen
            rw [lexLt_nil_nil]
            exact (decide_eq_false (by omega)).symm
          | cons c u hw =>
            simp only [List.length_nil, List.length_cons] at hlen
            rw [lexLt_nil_cons]
            exact (decide_eq_true (by omega)).symm
        | cons a t hv =>
          cases hwi with
          | nil =>
            simp only [List.length_nil, List.length_cons] at hlen
            rw [lexLt_cons_nil]
            exact (decide_eq_false (by omega)).symm
          | cons c u hw =>
            rw [List.zip_cons_cons] at hz
            cases hz
      rw [hv] at hR
      wp_walk
      exact ⟨_, rfl, by simpa [Builtin.Tuple.tupleCompareSizes] using hR⟩
    case h =>
      exact ⟨rfl, rfl, items.toList, items2.toList, ns, ms, rfl, hi, hj, by omega, h⟩
end
section
variable {prog : Program} {w : World} {A : Around} {E : Value → Shared → Prop} {s : Shared}
theorem lt_tupInts {l b : Addr} {items items2 : Array Value} {ns ms : List Int} {Q : Value → Shared → Prop} (hl : IsTup s.heap l items) (hb : IsTup s.heap b items2) (hi : IntsAre items.toList ns) (hj : IntsAre items2.toList ms)
    (hu : A.units < cLine) (h : Q (.bool (lexLt ns ms)) s) : wpAny (model prog w) A (compareOp .Lt (.ref l) (.ref b)) Q E s := by
  obtain ⟨⟨cls, dd, data, sl⟩, ho, hc, n, hd⟩ := id hl
  obtain ⟨⟨cls2, dd2, data2, sl2⟩, ho2, hc2, n2, hd2⟩ := id hb
  simp only at hc hd hc2 hd2
  subst hc hd hc2 hd2
  exact richCompare_meets_room (op := .Lt) ⟨_, ho, rfl⟩ ⟨_, ho2, rfl⟩ PySem.F.slot_tuple_lt PySem.F.entry_tuple_lt (PySem.F.args_tuple_lt_2 _ _) (tuple_lt_ints l b items items2 n n2 dd dd2 sl sl2 ns ms hi hj)
    ⟨ho, ho2, show Value.bool (lexLt ns ms) ≠ Value.notImplemented ∧ Q (.bool (lexLt ns ms)) s from ⟨(fun x => nomatch x), h⟩⟩ hu
/-- a slice's bound as a place among n (d where it is left out) -/
def sIx (n d : Nat) : Option Int → Nat
  | none => d
  | some v => if v < 0 then (v + (n : Int)).toNat else min v.toNat n
theorem sIx_nat (n d k : Nat) : sIx n d (some (k : Int)) = min k n := by
  show (if (k : Int) < 0 then ((k : Int) + (n : Int)).toNat else min (k : Int).toNat n) = min k n
  rw [if_neg (by omega), Int.toNat_natCast]
theorem sIx_le (n d : Nat) (hd : d ≤ n) (o : Option Int) : sIx n d o ≤ n := by
  cases o with
  | none => exact hd
  | some v =>
    show (if v < 0 then (v + (n : Int)).toNat else min v.toNat n) ≤ n
    by_cases hv : v < 0
    · rw [if_pos hv]; omega
    · rw [if_neg hv]; exact Nat.min_le_right _ _
theorem clip_eq (v : Int) (n d : Nat) : (if v < 0 then max (v + (n : Int)) 0 else min v (n : Int)) = ((sIx n d (some v) : Nat) : Int) := by
  show (if v < 0 then max (v + (n : Int)) 0 else min v (n : Int)) = (((if v < 0 then (v + (n : Int)).toNat else min v.toNat n) : Nat) : Int)
  by_cases hv : v < 0
  · simp only [if_pos hv]; omega
  · simp only [if_neg hv]; omega
theorem adjust_gen (lo hi : Option Int) (n : Nat) : Builtin.Slice.sliceAdjust lo hi 1 (n : Int) = (((sIx n 0 lo : Nat) : Int), ((sIx n n hi : Nat) : Int)) := by
  have h1 : ¬ ((1 : Int) < 0) := by omega
  unfold Builtin.Slice.sliceAdjust
  simp only [h1, if_false]
  refine Prod.ext ?_ ?_
  · cases lo with
    | none => rfl
    | some v => exact clip_eq v n 0
  · cases hi with
    | none => rfl
    | some v => exact clip_eq v n n
theorem places_gen (i j : Nat) : Builtin.Slice.slicePlaces (i : Int) (j : Int) 1 = j - i := by
  unfold Builtin.Slice.slicePlaces
  have h1 : (1 : Int) > 0 := by omega
  simp only [h1, if_true, Int.ediv_one]
  split <;> omega
theorem slicePart_ {v : Value} {o : Option Int} {Q : Option Int → Shared → Prop} (p : IsPart v o) (h : Q o s) : wpAny (model prog w) A (Builtin.Slice.slicePartIndex v) Q E s := by
  cases p with
  | none => exact slicePart_none h
  | int i t => exact slicePart_int h
theorem sliceApplied_gen {sl : Addr} {vl vu : Value} {lo hi : Option Int} {n : Nat} {Q : Int × Int × Nat → Shared → Prop} (hs : s.heap.IsSliceOf sl vl vu .none) (pl : IsPart vl lo) (pu : IsPart vu hi)
    (h : Q (((sIx n 0 lo : Nat) : Int), 1, sIx n n hi - sIx n 0 lo) s) : wpAny (model prog w) A (Builtin.Slice.sliceApplied (.ref sl) (pure (n : Int))) Q E s := by
  obtain ⟨os, hos, hcs, hds⟩ := id hs
  unfold Builtin.Slice.sliceApplied Builtin.Slice.sliceFields
  refine wpAny_bind (wpAny_bind (wpAny_field hos hds (x := vl) rfl (wpAny_bind (wpAny_field hos hds (x := vu) rfl (wpAny_bind (wpAny_field hos hds (x := .none) rfl (wpAny_pure ?_)))))))
  refine wpAny_bind (slicePart_none ?_)
  show wpAny _ _ (if ((1 : Int) == 0) = true then _ else _) _ _ s
  rw [if_neg (by decide)]
  refine wpAny_bind (slicePart_ pl (wpAny_bind (slicePart_ pu (wpAny_bind (wpAny_pure ?_)))))
  show wpAny _ _ (match Builtin.Slice.sliceAdjust lo hi 1 (n : Int) with | (lo, hi) => pure (lo, (1 : Int), Builtin.Slice.slicePlaces lo hi 1)) _ _ s
  rw [adjust_gen lo hi n]
  show wpAny _ _ (pure (((sIx n 0 lo : Nat) : Int), (1 : Int), Builtin.Slice.slicePlaces ((sIx n 0 lo : Nat) : Int) ((sIx n n hi : Nat) : Int) 1)) _ _ s
  rw [places_gen]
  exact wpAny_pure h
theorem pick_gen (xs : Array Value) (i k : Nat) : ((List.range k).filterMap fun (m : Nat) => xs[((i : Int) + (m : Int) * 1).toNat]?).toArray = ((xs.toList.drop i).take k).toArray := by
  have e : (fun (m : Nat) => xs[((i : Int) + (m : Int) * 1).toNat]?) = fun m => xs[i + m]? := by
    funext m
    have : ((i : Int) + (m : Int) * 1).toNat = i + m := by omega
    rw [this]
  rw [e]
  have := pick_run xs i k
  rw [List.filterMap_map] at this
  have e2 : ((fun x => xs[x]?) ∘ fun x => i + x) = fun m => xs[i + m]? := rfl
  rw [e2] at this
  rw [this]
theorem getItem_tuple_cut {t sl : Addr} {items : Array Value} {vl vu : Value} {lo hi : Option Int} {Q : Value → Shared → Prop} (ht : IsTup s.heap t items) (hs : s.heap.IsSliceOf sl vl vu .none) (pl : IsPart vl lo) (pu : IsPart vu hi)
    (hw : ¬ (sIx items.size 0 lo = 0 ∧ sIx items.size items.size hi = items.size))
    (h : Q (.ref s.heap.objs.size) { s with heap := s.heap.push { cls := .type "tuple", data := .seq ((items.toList.drop (sIx items.size 0 lo)).take (sIx items.size items.size hi - sIx items.size 0 lo)).toArray } })
    (hsz : items.size ≤ sizeLine) : wpAny (model prog w) A (getItem (.ref t) (.ref sl)) Q E s := by
  have htake : sizeOk (.seq ((items.toList.drop (sIx items.size 0 lo)).take (sIx items.size items.size hi - sIx items.size 0 lo)).toArray) := by
    show ((items.toList.drop (sIx items.size 0 lo)).take (sIx items.size items.size hi - sIx items.size 0 lo)).toArray.size ≤ sizeLine
    rw [List.size_toArray, List.length_take, List.length_drop, Array.length_toList]
    omega
  have hj : sIx items.size items.size hi ≤ items.size := sIx_le _ _ (Nat.le_refl _) hi
  obtain ⟨os, hos, hcs, hds⟩ := id hs
  have hTs : s.TypeIs (.ref sl) "slice" := ⟨os, hos, hcs⟩
  unfold getItem
  try with_reducible refine wpAny_holding ?_
  first | refine wpAny_bind (wpAny_pure ?_) | skip
  refine wpAny_bind (wpAny_sequenceKey ht.typeIs (by decide) ?_)
  refine wpAny_bind (wpAny_callSpecial?_slot (name := Str.ofString "__getitem__") ht.typeIs PyProof.Rows.slot_tuple_getitem
    (wpAny_call_entry PyProof.Rows.slot_tuple_getitem ht.typeIs entry_tuple_getitem ?_ (args_tuple_getitem _ _)))
  show wpAny _ _ (Builtin.Tuple.tupleItemsOf (.ref t) >>= _) _ _ s
  refine wpAny_bind (tupleItemsOf_ ht ?_)
  refine wpAny_bind (wpAny_typeOf hTs ?_)
  rw [if_pos (by decide)]
  refine wpAny_bind (sliceApplied_gen hs pl pu ?_)
  have hno : ¬ ((((sIx items.size 0 lo : Nat) : Int) == 0 && (1 : Int) == 1 && (sIx items.size items.size hi - sIx items.size 0 lo) == items.size) = true) := by
    intro q
    rw [Bool.and_eq_true, Bool.and_eq_true] at q
    have q1 : ((sIx items.size 0 lo : Nat) : Int) = 0 := eq_of_beq q.1.1
    have q2 : sIx items.size items.size hi - sIx items.size 0 lo = items.size := eq_of_beq q.2
    exact hw ⟨by omega, by omega⟩
  show wpAny _ _ (if (((sIx items.size 0 lo : Nat) : Int) == 0 && (1 : Int) == 1 && (sIx items.size items.size hi - sIx items.size 0 lo) == items.size) = true then _ else _) _ _ s
  rw [if_neg hno, pick_gen]
  first
    | exact wpAny_bind (m := Builtin.Tuple.tupleExact _) (wpAny_newObj_type (wpAny_pure ⟨_, rfl, wpAny_pure h⟩) htake)
    | exact wpAny_bind (m := Builtin.Tuple.tupleExact _) (wpAny_newObj_type (wpAny_bind (wpAny_pure (wpAny_pure ⟨_, rfl, wpAny_pure h⟩))) htake)
    | exact wpAny_bind (wpAny_bind (m := Builtin.Tuple.tupleExact _) (wpAny_newObj_type (wpAny_pure (wpAny_pure ⟨_, rfl, wpAny_pure h⟩)) htake))
    | exact wpAny_bind (wpAny_bind (m := Builtin.Tuple.tupleExact _) (wpAny_newObj_type (wpAny_pure ⟨_, rfl, wpAny_pure h⟩) htake))
end
end HT
namespace L2
open PySem PySem.Spec PyProof.Rows
abbrev TO := St → Hp → (Option Int → Hp → Prop) → Prop
/-- a slice's part (left out, or an int) -/
def PO (X : Cx) (e : Option Expr) (t : TO) : Prop :=
  ∀ (pins : List (Addr × Obj)) (s : Shared) (σ : St) (H : Hp) (Q : Option Int → Hp → Prop), Inv X pins σ H s → t σ H Q →
    wpAny (model X.prog X.w) X.A (evalPart e X.env) (fun u s' => ∃ o H', Inv X pins σ H' s' ∧ IsPart u o ∧ Q o H') X.xe s
def tNoPart : TO := fun _ H Q => Q none H
def tPart (t : TE) : TO := fun σ H Q => t σ H fun x H1 => ∃ i, x = .int i ∧ Q (some i) H1
theorem intsAre_of {ns : List Int} : ∀ {us : List Value}, Vals (ns.map V.int) us → IntsAre us ns := by
  induction ns with
  | nil => intro us r; rw [List.map_nil] at r; cases r; exact .nil
  | cons n ns ih =>
    intro us r
    rw [List.map_cons] at r
    cases r with
    | cons r1 r2 =>
      obtain ⟨t, e⟩ := r1
      subst e
      exact .cons n t (ih r2)
section
variable {X : Cx} {e : Expr} {te : TE} {lo hi : Option Expr} {tl th : TO} {pos p2 : Pos}
theorem po_none : PO X none tNoPart := by
  intro pins s σ H Q I h
  rw [evalPart_none]
  exact wpAny_pure ⟨none, H, I, .none, h⟩
theorem po_some (h : PE X e te) : PO X (some e) (tPart te) := by
  intro pins s σ H Q I hw
  rw [evalPart_some]
  refine thn (h pins s σ H _ I hw) fun u s1 ⟨x, H1, I1, r1, q1⟩ => ?_
  obtain ⟨i, rfl, q⟩ := q1
  obtain ⟨t, rfl⟩ := r1
  exact ⟨some i, H1, I1, .int i t, q⟩
/-- what a slice of a value is, by values: the slice object stands at sl -/
def SlR (X : Cx) (r : V → Option Int → Option Int → Hp → VK → Prop) : Prop :=
  ∀ (pins : List (Addr × Obj)) (s : Shared) (σ : St) (H : Hp) (x : V) (v vl vu : Value) (lo hi : Option Int) (sl : Addr) (Q : VK), Inv X pins σ H s → RelV x v → s.heap.IsSliceOf sl vl vu .none → IsPart vl lo → IsPart vu hi → r x lo hi H Q →
    ∃ T id, typeLookup (.type T) "__getitem__" = pure (some (.builtin id)) ∧ s.TypeIs v T ∧ wpAny (model X.prog X.w) X.A (getItem v (.ref sl)) (EP X pins σ Q) X.xe s
def tSl (r : V → Option Int → Option Int → Hp → VK → Prop) (te : TE) (tl th : TO) : TE := fun σ H Q => te σ H fun x H1 => tl σ H1 fun l H2 => th σ H2 fun u H3 => r x l u H3 Q
/-- a[lo:hi], any a -/
theorem pe_slice {r : V → Option Int → Option Int → Hp → VK → Prop} (hr : SlR X r) (he : PE X e te) (hl : PO X lo tl) (hu : PO X hi th) : PE X (.Subscript e (.Slice lo hi none p2) pos) (tSl r te tl th) := by
  intro pins s σ H Q I h
  refine Subscript_ (thn (he pins s σ H _ I h) fun v s1 ⟨x, H1, I1, r1, q1⟩ => ?_)
  refine wpAny_Slice (thn (hl pins s1 σ H1 _ I1 q1) fun vl s2 ⟨l, H2, I2, pl, q2⟩ => thn (hu pins s2 σ H2 _ I2 q2) fun vu s3 ⟨u, H3, I3, pu, q3⟩ => ?_)
  rw [evalPart_none]
  refine wpAny_pure ?_
  have I4 : Inv X pins σ H3 { s3 with heap := s3.heap.push { cls := .type "slice", data := .fields #[vl, vu, .none] } } := I3.kept (t' := s3.toks) fun b ob q => Heap.get?_push_of_some _ q
  obtain ⟨T, id, hT, ht, hg⟩ := hr pins { s3 with heap := s3.heap.push { cls := .type "slice", data := .fields #[vl, vu, .none] } } σ H3 x v vl vu l u s3.heap.objs.size Q I4 r1 (Heap.IsSliceOf.new ..) pl pu q3
  show wpAny (model X.prog X.w) X.A (subscriptTail e (.Slice lo hi none p2) v (.ref s3.heap.objs.size)) (EP X pins σ Q) X.xe { s3 with heap := s3.heap.push { cls := .type "slice", data := .fields #[vl, vu, .none] } }
  exact tail_any (ops := [.ref s3.heap.objs.size, v]) ht hT hg (by with_unfolding_all rfl)
/-- the items of xs[lo:hi] -/
def cutV (xs : List V) (lo hi : Option Int) : List V := (xs.drop (HT.sIx xs.length 0 lo)).take (HT.sIx xs.length xs.length hi - HT.sIx xs.length 0 lo)
theorem cutV_length (xs : List V) (lo hi : Option Int) : (cutV xs lo hi).length ≤ xs.length := by
  unfold cutV
  rw [List.length_take, List.length_drop]
  omega
/-- t[lo:hi], not the whole of it (the whole would be t itself) -/
def rSlT (K : PySem.W.Frag) : V → Option Int → Option Int → Hp → VK → Prop := fun x lo hi H Q => ∃ a xs, x = .ref a ∧ SqT K H a xs ∧
  ¬ (HT.sIx xs.length 0 lo = 0 ∧ HT.sIx xs.length xs.length hi = xs.length) ∧ ∀ p, H p = none → Q (.ref p) (upd H p (.tup (cutV xs lo hi)))
theorem sl_tup : SlR X (rSlT X.K) := by
  intro pins s σ H x v vl vu lo hi sl Q I rx hs pl pu h
  obtain ⟨a, xs, rfl, hx, hw, q⟩ := h
  cases rx
  obtain ⟨its, r, ht, hz⟩ := I.tuple hx
  have hlen : its.toArray.size = xs.length := by rw [List.size_toArray]; exact r.length.symm
  refine ⟨"tuple", _, PyProof.Rows.slot_tuple_getitem.lookup, ht.typeIs, ?_⟩
  refine HT.getItem_tuple_cut ht hs pl pu (by rw [hlen]; exact hw) ?_ (by rw [hlen]; exact hz)
  rw [hlen]
  refine ⟨.ref s.heap.objs.size, _, I.laid (t' := s.toks) (o := .tup (cutV xs lo hi)) (fun b ob q => Heap.get?_push_of_some _ q) (Nat.le_refl _) ?_, rfl, q _ (I.hok.fresh (Nat.le_refl _))⟩
  exact ⟨Nat.le_trans (cutV_length xs lo hi) hz, _, (r.drop (HT.sIx xs.length 0 lo)).take (HT.sIx xs.length xs.length hi - HT.sIx xs.length 0 lo), IsTup.new _ _⟩
def rLtT (K : PySem.W.Frag) : R2 := fun x y H Q => ∃ a b ns ms, x = .ref a ∧ y = .ref b ∧ SqT K H a (ns.map V.int) ∧ SqT K H b (ms.map V.int) ∧ Q (.bl (HT.lexLt ns ms)) H
theorem op_ltT (hu : X.A.units < cLine) : OpR X (compareOp .Lt) (rLtT X.K) := by
  intro pins s σ H x y v u Q I rx ry h
  obtain ⟨a, b, ns, ms, rfl, rfl, ha, hb, q⟩ := h
  cases rx
  cases ry
  obtain ⟨its, r1, p1, _⟩ := I.tuple ha
  obtain ⟨its2, r2, p2, _⟩ := I.tuple hb
  have i1 : IntsAre its.toArray.toList ns := intsAre_of r1
  have i2 : IntsAre its2.toArray.toList ms := intsAre_of r2
  exact HT.lt_tupInts p1 p2 i1 i2 hu ⟨.bl (HT.lexLt ns ms), H, I, rfl, q⟩
end
end L2
namespace L2
open PySem PySem.Spec PyProof.Rows
/-- the place that an index of any sign means -/
def ixN (n : Nat) (i : Int) : Option Nat := if 0 ≤ i then (if i < n then some i.toNat else none) else if -(n : Int) ≤ i then some (i + n).toNat else none
def atI {α : Type} (xs : List α) (i : Int) : Option α := (ixN xs.length i).bind fun j => xs[j]?
theorem ixN_seq {n : Nat} {i : Int} {j : Nat} (h : ixN n i = some j) : seqIndex? i n = some j ∧ j < n ∧ -(n : Int) ≤ i ∧ i < n := by
  unfold ixN at h
  by_cases h0 : 0 ≤ i
  · rw [if_pos h0] at h
    by_cases h1 : i < n
    · rw [if_pos h1] at h
      have e : i.toNat = j := Option.some.inj h
      exact ⟨by rw [seqIndex_of h0 h1, e], by omega, by omega, h1⟩
    · rw [if_neg h1] at h; cases h
  · rw [if_neg h0] at h
    by_cases h1 : -(n : Int) ≤ i
    · rw [if_pos h1] at h
      have e : (i + n).toNat = j := Option.some.inj h
      exact ⟨by rw [seqIndex_neg (by omega) h1, e], by omega, h1, by omega⟩
    · rw [if_neg h1] at h; cases h
theorem atI_get {α : Type} {xs : List α} {i : Int} {v : α} (h : atI xs i = some v) : ∃ j, seqIndex? i xs.length = some j ∧ xs[j]? = some v ∧ j < xs.length ∧ -(xs.length : Int) ≤ i ∧ i < xs.length := by
  unfold atI at h
  cases e : ixN xs.length i with
  | none => rw [e] at h; cases h
  | some j =>
    rw [e] at h
    obtain ⟨h1, h2, h3, h4⟩ := ixN_seq e
    exact ⟨j, h1, h, h2, h3, h4⟩
theorem atI_nat {α : Type} {xs : List α} {j : Nat} {v : α} (h : xs[j]? = some v) : atI xs (j : Int) = some v := by
  have hj : j < xs.length := (List.getElem?_eq_some_iff.mp h).1
  have e : ixN xs.length (j : Int) = some j := by
    unfold ixN
    rw [if_pos (by omega), if_pos (by omega)]; simp
  unfold atI; rw [e]; exact h
theorem atI_last {α : Type} (xs : List α) (v : α) : atI (xs ++ [v]) (-1) = some v := by
  have hl : (xs ++ [v]).length = xs.length + 1 := by simp
  have e : ixN (xs ++ [v]).length (-1) = some xs.length := by
    unfold ixN
    rw [hl, if_neg (by decide), if_pos (by omega)]
    congr 1
    omega
  unfold atI
  rw [e]
  show (xs ++ [v])[xs.length]? = some v
  simp
/-- what stands as an index of a plain subscript -/
def PlainIx (b : Expr) : Prop := ∀ o i, subscripted b false o i = operate [o, i] (getItem o i)
/-- a subscript by values -/
def IxR (X : Cx) (r : R2) : Prop :=
  ∀ (value slice : Expr) (pins : List (Addr × Obj)) (s : Shared) (σ : St) (H : Hp) (x y : V) (v u : Value) (Q : VK), Inv X pins σ H s → RelV x v → RelV y u → r x y H Q →
    subscripted slice false v u = operate [v, u] (getItem v u) → wpAny (model X.prog X.w) X.A (subscriptTail value slice v u) (EP X pins σ Q) X.xe s
/-- a call of a builtin's method by values: the receiver, the arguments -/
def MtR (X : Cx) (id : String) (r : V → List V → Hp → VK → Prop) : Prop :=
  ∀ (pins : List (Addr × Obj)) (s : Shared) (σ : St) (H : Hp) (x : V) (xs : List V) (v : Value) (us : List Value) (Q : VK), Inv X pins σ H s → RelV x v → Vals xs us → r x xs H Q →
    wpAny (model X.prog X.w) X.A (call (.builtin id) (v :: us)) (EP X pins σ Q) X.xe s
section
variable {X : Cx} {a b : Expr} {ta tb : TE} {pos : Pos}
/-- a[b] -/
theorem pe_ix {r : R2} (hr : IxR X r) (ha : PE X a ta) (hb : PE X b tb) (hs : PlainIx b) : PE X (.Subscript a b pos) (tOp r ta tb) := by
  intro pins s σ H Q I h
  exact Subscript_ (binT ha hb I h fun v u s2 x y H2 I2 rx ry q => hr a b pins s2 σ H2 x y v u Q I2 rx ry q (hs _ _))
def rIxL (K : PySem.W.Frag) : R2 := fun x y H Q => ∃ p xs i v, x = .ref p ∧ y = .int i ∧ SqL K H p xs ∧ atI xs i = some v ∧ Q v H
def rIxT (K : PySem.W.Frag) : R2 := fun x y H Q => ∃ p xs i v, x = .ref p ∧ y = .int i ∧ SqT K H p xs ∧ atI xs i = some v ∧ Q v H
theorem ix_list : IxR X (rIxL X.K) := by
  intro value slice pins s σ H x y v u Q I rx ry h hs
  obtain ⟨p, xs, i, z, rfl, rfl, hq, he, q⟩ := h
  cases rx
  obtain ⟨t, rfl⟩ := ry
  obtain ⟨its, r, pl, hz⟩ := I.list hq
  obtain ⟨j, h1, h2, h3, h4, h5⟩ := atI_get he
  obtain ⟨w, ew, rw'⟩ := r.get h2
  have hl := r.length
  have hn := line63
  have fin : EP X pins σ Q w s := ⟨z, H, I, rw', q⟩
  by_cases h0 : 0 ≤ i
  · have hj : i.toNat = j := by
      rw [seqIndex_of h0 h5] at h1
      exact Option.some.inj h1
    exact item_listR pl.isList h0 (by omega) (by rw [hj]; simpa using ew) fin hs
  · have hj : (i + (its.toArray.size : Int)).toNat = j := by
      rw [seqIndex_neg (by omega) h4] at h1
      rw [List.size_toArray, ← hl]
      exact Option.some.inj h1
    exact subscriptTail_builtinR (x := w) pl.isList.typeIs slot_list_getitem.lookup
      (wpAny_getItem_list_neg (Q := fun r s' => r = w ∧ EP X pins σ Q r s') pl.isList (by omega) (by rw [List.size_toArray] <;> omega) (by omega) (by rw [hj]; simpa using ew) ⟨rfl, fin⟩) hs
theorem ix_tup : IxR X (rIxT X.K) := by
  intro value slice pins s σ H x y v u Q I rx ry h hs
  obtain ⟨p, xs, i, z, rfl, rfl, hq, he, q⟩ := h
  cases rx
  obtain ⟨t, rfl⟩ := ry
  obtain ⟨its, r, pl, hz⟩ := I.tuple hq
  obtain ⟨j, h1, h2, h3, h4, h5⟩ := atI_get he
  obtain ⟨w, ew, rw'⟩ := r.get h2
  have hl := r.length
  have hn := line63
  have fin : EP X pins σ Q w s := ⟨z, H, I, rw', q⟩
  exact subscriptTail_builtinR (x := w) pl.typeIs slot_tuple_getitem.lookup
    (getItem_tuple (j := j) (Q := fun r s' => r = w ∧ EP X pins σ Q r s') pl (by omega) (by omega) (by rw [List.size_toArray, ← hl]; exact h1) (by simpa using ew) ⟨rfl, fin⟩) hs
theorem slice_bounds (lo hi : Option Int) (n : Nat) : (sliceBounds lo hi none n).1 = ((HT.sIx n 0 lo : Nat) : Int) ∧ (sliceBounds lo hi none n).2.1 = ((HT.sIx n n hi : Nat) : Int) ∧ (sliceBounds lo hi none n).2.2 = 1 := by
  refine ⟨?_, ?_, rfl⟩
  · cases lo with
    | none => simp [sliceBounds, HT.sIx]
    | some i =>
      simp only [sliceBounds, HT.sIx, Option.getD_none, show (1 : Int) > 0 by decide, if_true]
      by_cases h : i < 0
      · simp only [h, if_true] <;> omega
      · simp only [h, if_false] <;> omega
  · cases hi with
    | none => simp [sliceBounds, HT.sIx]
    | some i =>
      simp only [sliceBounds, HT.sIx, Option.getD_none, show (1 : Int) > 0 by decide, if_true]
      by_cases h : i < 0
      · simp only [h, if_true] <;> omega
      · simp only [h, if_false] <;> omega
theorem slicePick_cut (its : List Value) (lo hi : Option Int) : slicePick its.toArray lo hi none = ((its.drop (HT.sIx its.length 0 lo)).take (HT.sIx its.length its.length hi - HT.sIx its.length 0 lo)).toArray := by
  obtain ⟨h1, h2, h3⟩ := slice_bounds lo hi its.toArray.size
  unfold slicePick
  rw [h1, h2, h3]
  simp only [sliceRange_one, pick_run, List.size_toArray] <;> rfl
/-- xs[lo:hi] of a list: a new list -/
def rSlL (K : PySem.W.Frag) : V → Option Int → Option Int → Hp → VK → Prop := fun x lo hi H Q => ∃ a xs, x = .ref a ∧ SqL K H a xs ∧ ∀ p, H p = none → Q (.ref p) (upd H p (.lst (cutV xs lo hi)))
theorem sl_list : SlR X (rSlL X.K) := by
  intro pins s σ H x v vl vu lo hi sl Q I rx hs pl pu h
  obtain ⟨a, xs, rfl, hx, q⟩ := h
  cases rx
  obtain ⟨its, r, ht, hz⟩ := I.list hx
  have hlen := r.length
  refine ⟨"list", _, slot_list_getitem.lookup, ht.isList.typeIs, ?_⟩
  refine wpAny_getItem_list_slice ht.isList hs pl pu .none (by simp) ?_ (by rw [List.size_toArray] <;> omega)
  rw [slicePick_cut, ← hlen]
  refine ⟨.ref s.heap.objs.size, _, I.laid (t' := s.toks) (o := .lst (cutV xs lo hi)) (fun b ob q => Heap.get?_push_of_some _ q) (Nat.le_refl _) ?_, rfl, q _ (I.hok.fresh (Nat.le_refl _))⟩
  exact ⟨Nat.le_trans (cutV_length xs lo hi) hz, _, 0, (r.drop (HT.sIx xs.length 0 lo)).take (HT.sIx xs.length xs.length hi - HT.sIx xs.length 0 lo), Heap.get?_push_size _ rfl⟩
def flatV : V → Bool
  | .non => true
  | .bl _ => true
  | .int _ => true
  | .str _ => true
  | _ => false
/-- == of flat values -/
def eqV : V → V → Bool
  | .non, .non => true
  | .bl a, .bl b => a == b
  | .bl a, .int b => (if a then 1 else 0) == b
  | .int a, .bl b => a == (if b then 1 else 0)
  | .int a, .int b => a == b
  | .str a, .str b => a == b
  | _, _ => false
theorem eqAt_V {A : Around} {s : Shared} {y x : V} {u v : Value} (ry : RelV y u) (rx : RelV x v) (fy : flatV y = true) (fx : flatV x = true) : SeqAt.EqAt A s u v (eqV y x) := by
  cases y with
  | non =>
    cases ry
    cases x with
    | non => cases rx; exact SeqAt.EqAt.same _
    | bl b => cases rx; exact SeqAt.EqAt.none_bool b
    | int b => obtain ⟨t, rfl⟩ := rx; exact SeqAt.EqAt.none_int b t
    | str b => obtain ⟨t, rfl⟩ := rx; exact SeqAt.EqAt.none_str b t
    | _ => exact absurd (show false = true from fx) Bool.false_ne_true
  | bl a =>
    cases ry
    cases x with
    | non => cases rx; exact SeqAt.EqAt.bool_none a
    | bl b => cases rx; exact SeqAt.EqAt.bool_bool a b
    | int b => obtain ⟨t, rfl⟩ := rx; exact SeqAt.EqAt.bool_int a b t
    | str b => obtain ⟨t, rfl⟩ := rx; exact SeqAt.EqAt.bool_str a b t
    | _ => exact absurd (show false = true from fx) Bool.false_ne_true
  | int a =>
    obtain ⟨t', rfl⟩ := ry
    cases x with
    | non => cases rx; exact SeqAt.EqAt.int_none a t'
    | bl b => cases rx; exact SeqAt.EqAt.int_bool a t' b
    | int b => obtain ⟨t, rfl⟩ := rx; exact SeqAt.EqAt.int_int a t' b t
    | str b => obtain ⟨t, rfl⟩ := rx; exact SeqAt.EqAt.int_str a t' b t
    | _ => exact absurd (show false = true from fx) Bool.false_ne_true
  | str a =>
    obtain ⟨t', rfl⟩ := ry
    cases x with
    | non => cases rx; exact SeqAt.EqAt.str_none a t'
    | bl b => cases rx; exact SeqAt.EqAt.str_bool a t' b
    | int b => obtain ⟨t, rfl⟩ := rx; exact SeqAt.EqAt.str_int a t' b t
    | str b => obtain ⟨t, rfl⟩ := rx; exact SeqAt.EqAt.str_str a t' b t
    | _ => exact absurd (show false = true from fx) Bool.false_ne_true
  | _ => exact absurd (show false = true from fy) Bool.false_ne_true
/-- the items' answers, read off the values (a value's own answer does not lean on its token) -/
def eqU (x : V) (u : Value) : Bool := match u with
  | .none => eqV .non x
  | .bool b => eqV (.bl b) x
  | .int i _ => eqV (.int i) x
  | .str z _ => eqV (.str z) x
  | _ => false
theorem eqU_of {x y : V} {u : Value} (r : RelV y u) (f : flatV y = true) : eqU x u = eqV y x := by
  cases y with
  | non => cases r; rfl
  | bl b => cases r; rfl
  | int i => obtain ⟨t, rfl⟩ := r; rfl
  | str z => obtain ⟨t, rfl⟩ := r; rfl
  | _ => exact absurd (show false = true from f) Bool.false_ne_true
theorem any_eqU {x : V} : ∀ {xs : List V} {us : List Value}, Vals xs us → xs.all flatV = true → us.any (eqU x) = xs.any fun y => eqV y x
  | _, _, .nil, _ => rfl
  | y :: xs, u :: us, .cons r t, f => by
    rw [List.all_cons, Bool.and_eq_true] at f
    rw [List.any_cons, List.any_cons, eqU_of r f.1, any_eqU t f.2]
theorem mem_eqAt {A : Around} {s : Shared} {x : V} {v : Value} (rx : RelV x v) (fx : flatV x = true) : ∀ {xs : List V} {us : List Value}, Vals xs us → xs.all flatV = true → ∀ u ∈ us, SeqAt.EqAt A s u v (eqU x u)
  | _, _, .nil, _ => fun u hu => by cases hu
  | y :: xs, u :: us, .cons r t, f => fun u' hu => by
    rw [List.all_cons, Bool.and_eq_true] at f
    rcases List.mem_cons.mp hu with rfl | hu
    · rw [eqU_of r f.1]; exact eqAt_V r rx f.1 fx
    · exact mem_eqAt rx fx t f.2 u' hu
def inV (x : V) (xs : List V) : Bool := xs.any fun y => eqV y x
/-- x in a list or tuple of flat items -/
def rIn (K : PySem.W.Frag) (neg : Bool) : R2 := fun x y H Q => ∃ p xs, y = .ref p ∧ (SqL K H p xs ∨ SqT K H p xs) ∧ flatV x = true ∧ xs.all flatV = true ∧ Q (.bl (if neg then !inV x xs else inV x xs)) H
theorem op_in_seq : OpR X (compareOp .In) (rIn X.K false) := by
  intro pins s σ H x y v u Q I rx ry h
  obtain ⟨p, xs, rfl, hq, fx, fs, q⟩ := h
  cases ry
  rcases hq with hq | hq
  · obtain ⟨its, r, pl, hz⟩ := I.list hq
    refine SeqAt.in_listAt (eqU x) pl.isList (fun w hw => mem_eqAt rx fx r fs w (by simpa using hw)) ⟨.bl _, H, I, rfl, ?_⟩
    rw [show its.toArray.any (eqU x) = its.any (eqU x) by simp, any_eqU r fs]
    exact q
  · obtain ⟨its, r, pl, hz⟩ := I.tuple hq
    refine SeqAt.in_tupleAt (eqU x) pl (fun w hw => mem_eqAt rx fx r fs w (by simpa using hw)) ⟨.bl _, H, I, rfl, ?_⟩
    rw [show its.toArray.any (eqU x) = its.any (eqU x) by simp, any_eqU r fs]
    exact q
theorem call_len_seq : CallR X (.builtin "len") (fun xs H Q => ∃ p ys, xs = [.ref p] ∧ (SqL X.K H p ys ∨ SqT X.K H p ys) ∧ Q (.int ys.length) H) := by
  intro pins s σ H xs us Q I r h
  obtain ⟨p, ys, rfl, hq, q⟩ := h
  obtain ⟨u, rfl, rx⟩ := vals1 r
  cases rx
  have hn := line63
  rcases hq with hq | hq
  · obtain ⟨its, r', pl, hz⟩ := I.list hq
    have hlen := r'.length
    exact Calls.call_len_list pl.isList (by simp only [List.size_toArray] <;> omega) ⟨.int ys.length, H, I.tok _, ⟨s.toks + 1, by rw [List.size_toArray, hlen]⟩, q⟩
  · obtain ⟨its, r', pl, hz⟩ := I.tuple hq
    have hlen := r'.length
    exact len_tuple pl (by simp only [List.size_toArray] <;> omega) ⟨.int ys.length, H, I.tok _, ⟨s.toks + 1, by rw [List.size_toArray, hlen]⟩, q⟩
/-- the value is of that builtin type -/
def tyV (K : PySem.W.Frag) (T : String) (x : V) (H : Hp) : Prop := match x with
  | .str _ => T = "str"
  | .int _ => T = "int"
  | .ref p => (T = "list" ∧ ∃ xs, SqL K H p xs) ∨ (T = "tuple" ∧ ∃ o, K.lookup p = some o ∧ o.cls = .type "tuple" ∧ o.dict = none) ∨
      (T = "dict" ∧ ((∃ kvs, H p = some (.dK kvs)) ∨ ∃ kvs, H p = some (.dT kvs))) ∨ (T = "set" ∧ ∃ S n, H p = some (.set S n))
  | _ => False
theorem tyV_is {pins : List (Addr × Obj)} {σ : St} {H : Hp} {s : Shared} {T : String} {x : V} {v : Value} (I : Inv X pins σ H s) (r : RelV x v) (ty : tyV X.K T x H) :
    s.TypeIs v T ∧ ∀ a, v = .ref a → ∃ ob, s.heap.get? a = some ob ∧ ob.dict = none := by
  cases x with
  | str z =>
    obtain ⟨t, rfl⟩ := r
    cases (show T = "str" from ty)
    exact ⟨typeIs_str s z t, fun _ e => nomatch e⟩
  | int i =>
    obtain ⟨t, rfl⟩ := r
    cases (show T = "int" from ty)
    exact ⟨typeIs_int s i t, fun _ e => nomatch e⟩
  | ref p =>
    cases r
    rcases ty with ⟨rfl, xs, hq⟩ | ⟨rfl, o, hk, hc, hd⟩ | ⟨rfl, hk⟩ | ⟨rfl, S, n, hk⟩
    · obtain ⟨its, _, pl, _⟩ := I.list hq
      refine ⟨pl.isList.typeIs, fun a e => ?_⟩
      cases e
      obtain ⟨o, n, e, c, hd, _⟩ := pl
      exact ⟨o, e, hd⟩
    · refine ⟨⟨o, I.kIn p o hk, hc⟩, fun a e => ?_⟩
      cases e
      exact ⟨o, I.kIn _ o hk, hd⟩
    · have z : ∃ o, s.heap.get? p = some o ∧ o.ExactDict := by
        rcases hk with ⟨kvs, hk⟩ | ⟨kvs, hk⟩
        · obtain ⟨_, _, _, _, o, _, _, e, ex, _⟩ := I.hok p _ hk
          exact ⟨o, e, ex⟩
        · obtain ⟨_, _, _, _, o, _, _, e, ex, _⟩ := I.hok p _ hk
          exact ⟨o, e, ex⟩
      obtain ⟨o, e, ex⟩ := z
      refine ⟨⟨o, e, ex.1⟩, fun a e2 => ?_⟩
      cases e2
      exact ⟨o, e, ex.2.1⟩
    · obtain ⟨o, _, _, _, e, ex, _⟩ := I.hok p _ hk
      refine ⟨⟨o, e, ex.1⟩, fun a e2 => ?_⟩
      cases e2
      exact ⟨o, e, ex.2.1⟩
  | _ => exact False.elim ty
def tBM0 (K : PySem.W.Frag) (T : String) (r : V → List V → Hp → VK → Prop) (to : TE) : TE := fun σ H Q => to σ H fun x H1 => tyV K T x H1 ∧ r x [] H1 Q
def tBM (K : PySem.W.Frag) (T : String) (r : V → List V → Hp → VK → Prop) (to : TE) (t : TA) : TE := fun σ H Q => to σ H fun x H1 => tyV K T x H1 ∧ t σ H1 fun xs H2 => r x xs H2 Q
variable {o e : Expr} {es : List Expr} {to : TE} {t : TA} {name : Str} {apos cpos : Pos} {T id : String} {r : V → List V → Hp → VK → Prop}
theorem pe_bm0 (pa : PlainAttrs T) (slot : Slot T name id) (hty : typeOf (.builtin id) = pure (.type "method_descriptor")) (hm : MtR X id r) (ho : PE X o to)
    (hbase : attributeBase o name X.env (eval o X.env) = eval o X.env := by rfl) (hline : (apos.endLine == cpos.line) = true := by rfl) : PE X (.Call (.Attribute o name apos) [] [] cpos) (tBM0 X.K T r to) := by
  intro pins s σ H Q I h
  refine wpAny_Call_method0_late hbase hline (thn (ho pins s σ H _ I h) fun v s1 ⟨x, H1, I1, r1, ty, q1⟩ => ?_)
  obtain ⟨h1, h2⟩ := tyV_is I1 r1 ty
  exact ⟨T, id, pa, slot, hty, h1, h2, Calls.callWith_builtin rfl (PySem.evalArgs_none (hm pins s1 σ H1 x [] v [] Q I1 r1 .nil q1))⟩
theorem pe_bm (pa : PlainAttrs T) (slot : Slot T name id) (hty : typeOf (.builtin id) = pure (.type "method_descriptor")) (hm : MtR X id r) (ho : PE X o to) (ha : PA X (e :: es) t)
    (hbase : attributeBase o name X.env (eval o X.env) = eval o X.env := by rfl)
    (hfew : ((backTo cpos (starEach (e :: es) X.env)).all (fun x => !x.1) && (backToKw cpos (keywordEach [] X.env)).all (fun x => x.1.isSome)
      && decide ((e :: es).length + ([] : List Keyword).length + (if ([] : List Keyword).isEmpty then 0 else 1) < 30)) = true := by rfl)
    (hline : (apos.endLine == cpos.line) = true := by rfl) (hs : starEach (e :: es) X.env = (false, eval e X.env) :: starEach es X.env := by rfl) (hplain : (backTo cpos (starEach es X.env)).any (·.1) = false := by rfl) :
    PE X (.Call (.Attribute o name apos) (e :: es) [] cpos) (tBM X.K T r to t) := by
  intro pins s σ H Q I h
  refine wpAny_Call_method_late hbase hfew hline rfl (thn (ho pins s σ H _ I h) fun v s1 ⟨x, H1, I1, r1, ty, q1⟩ => ?_)
  obtain ⟨h1, h2⟩ := tyV_is I1 r1 ty
  refine ⟨T, id, pa, slot, hty, h1, h2, ?_⟩
  have hA := ha cpos pins s1 σ H1 _ I1 q1
  rw [hs] at hA ⊢
  refine Calls.callWith_builtin (by show (false || (backTo cpos (starEach es X.env)).any (·.1)) = false; rw [hplain] <;> rfl) (Calls.evalArgs_plain ?_)
  exact thn hA fun us s2 ⟨vs, H2, I2, r2, q2⟩ => hm pins s2 σ H2 x vs v us Q I2 r1 r2 q2
end
end L2
namespace L2
open PySem PySem.Spec PyProof.Rows
def MtM (X : Cx) (id : String) (r : V → List V → Hp → VK → Prop) : Prop :=
  ∀ (pins : List (Addr × Obj)) (s : Shared) (σ : St) (H : Hp) (x : V) (xs : List V) (v : Value) (us : List Value) (Q : VK), Inv X pins σ H s → RelV x v → Vals xs us → r x xs H Q →
    wpAny (model X.prog X.w) X.A (call (.builtin id) (v :: us)) (EP X pins σ Q) X.xe s
theorem Vals.one : ∀ {x : V} {us : List Value}, Vals [x] us → ∃ u, us = [u] ∧ RelV x u
  | _, _, .cons r .nil => ⟨_, rfl, r⟩
theorem Vals.two : ∀ {x y : V} {us : List Value}, Vals [x, y] us → ∃ u v, us = [u, v] ∧ RelV x u ∧ RelV y v
  | _, _, _, .cons r (.cons q .nil) => ⟨_, _, rfl, r, q⟩
theorem Vals.zero : ∀ {us : List Value}, Vals [] us → us = []
  | _, .nil => rfl
theorem Vals.dropLast {xs : List V} {us : List Value} (h : Vals xs us) : Vals xs.dropLast us.dropLast := by
  induction h with
  | nil => exact .nil
  | cons r t ih =>
    cases t with
    | nil => exact .nil
    | cons q t' => exact .cons r ih
theorem Vals.eraseIdx : ∀ {xs : List V} {us : List Value} (i : Nat), Vals xs us → Vals (xs.eraseIdx i) (us.eraseIdx i)
  | _, _, _, .nil => .nil
  | _, _, 0, .cons _ t => t
  | _, _, i + 1, .cons r t => .cons r (Vals.eraseIdx i t)
theorem Vals.reverse {xs : List V} {us : List Value} (h : Vals xs us) : Vals xs.reverse us.reverse := by
  induction h with
  | nil => exact .nil
  | cons r t ih => rw [List.reverse_cons, List.reverse_cons]; exact Vals.append ih (.cons r .nil)
theorem erase_last {α : Type} (l : List α) : l.eraseIdx (l.length - 1) = l.dropLast := by
  induction l with
  | nil => rfl
  | cons a r ih =>
    cases r with
    | nil => rfl
    | cons b r =>
      have e : (a :: b :: r).length - 1 = ((b :: r).length - 1) + 1 := by
        have h1 : (a :: b :: r).length = r.length + 2 := rfl
        have h2 : (b :: r).length = r.length + 1 := rfl
        omega
      rw [e, List.eraseIdx_cons_succ, ih]
      all_goals rfl
theorem len_erase {α : Type} : ∀ (l : List α) (i : Nat), (l.eraseIdx i).length ≤ l.length
  | [], _ => Nat.le_refl _
  | _ :: _, 0 => Nat.le_succ _
  | _ :: r, i + 1 => Nat.succ_le_succ (len_erase r i)
section
variable {X : Cx} {pins : List (Addr × Obj)} {σ : St} {H : Hp} {s : Shared} {l b : Addr} {xs ys zs : List V}
theorem Inv.lset {its its' : List Value} {n : Nat} {f : Array Value → Array Value} {t' : Nat} (I : Inv X pins σ H s) (hH : H l = some (.lst xs))
    (e : s.heap.get? l = some { cls := .type "list", data := .seq its.toArray n }) (hf : f its.toArray = its'.toArray) (hv : Vals ys its') (hz : ys.length ≤ sizeLine) :
    Inv X pins σ (upd H l (.lst ys)) { s with heap := s.heap.update l (Obj.mapSeq f), toks := t' } := by
  have q := PySem.IsL.update e f
  rw [hf] at q
  refine I.write (x := l) (e := l) (by rw [hH]; exact trivial) (.inl rfl) (fun b' u hb hu => (Heap.get?_update_other s.heap (Obj.mapSeq f) (Ne.symm hb)).trans hu) ⟨_, q⟩ ?_
  exact ⟨hz, its', _, hv, q⟩
theorem Inv.lnew {its : List Value} {t' : Nat} (I : Inv X pins σ H s) (hv : Vals ys its) (hz : ys.length ≤ sizeLine) :
    Inv X pins σ (upd H s.heap.objs.size (.lst ys)) { s with heap := s.heap.push { cls := .type "list", data := .seq its.toArray }, toks := t' } :=
  I.laid (fun _ _ q => Heap.get?_push_of_some _ q) (Nat.le_refl _) ⟨hz, its, 0, hv, Heap.get?_push_size _ rfl⟩
theorem Inv.fresh (I : Inv X pins σ H s) : H s.heap.objs.size = none := I.hok.fresh (Nat.le_refl _)
theorem Inv.lstM (I : Inv X pins σ H s) (hH : H l = some (.lst xs)) : xs.length ≤ sizeLine ∧ ∃ (its : List Value) (n : Nat), Vals xs its ∧ xs.length = its.length ∧ s.heap.get? l = some { cls := .type "list", data := .seq its.toArray n } := by
  obtain ⟨z, its, n, r, e⟩ := I.hok l _ hH
  exact ⟨z, its, n, r, r.length, e⟩
theorem notLongL {n : Nat} (h : n ≤ sizeLine) : Builtin.List.listTooLong n = false := by
  unfold Builtin.List.listTooLong
  exact decide_eq_false (by omega)
end
section
variable {X : Cx}
def rAppend : V → List V → Hp → VK → Prop := fun x vs H Q => ∃ l xs y, x = .ref l ∧ vs = [y] ∧ H l = some (.lst xs) ∧ xs.length < sizeLine ∧ Q .non (upd H l (.lst (xs ++ [y])))
theorem mt_append : MtM X "list.append" rAppend := by
  intro pins s σ H x vs v us Q I rx rv h
  obtain ⟨l, xs, y, rfl, rfl, hH, hz, q⟩ := h
  cases rx
  obtain ⟨u, rfl, ru⟩ := rv.one
  obtain ⟨z, its, n, r, hl, e⟩ := I.lstM hH
  refine call_meets F.slot_list_append ⟨_, e, rfl⟩ F.entry_list_append (F.args_list_append_2 _ _) (PySem.list_append l its.toArray n u (by rw [List.size_toArray]; omega)) ⟨e, ?_⟩
  refine ⟨.non, _, I.lset (its' := its ++ [u]) hH e (by simp) (r.append (.cons ru .nil)) ?_, rfl, q⟩
  rw [List.length_append, List.length_singleton]
  omega
def rPop : V → List V → Hp → VK → Prop := fun x vs H Q => ∃ l xs y, x = .ref l ∧ vs = [] ∧ H l = some (.lst xs) ∧ xs[xs.length - 1]? = some y ∧ Q y (upd H l (.lst xs.dropLast))
theorem mt_pop : MtM X "list.pop" rPop := by
  intro pins s σ H x vs v us Q I rx rv h
  obtain ⟨l, xs, y, rfl, rfl, hH, hy, q⟩ := h
  cases rx
  have hus := rv.zero
  subst hus
  obtain ⟨z, its, n, r, hl, e⟩ := I.lstM hH
  obtain ⟨u, hu, ru⟩ := r.get hy
  have hy' : its.toArray[its.toArray.size - 1]? = some u := by
    show its.toArray[its.length - 1]? = some u
    rw [← Array.getElem?_toList, ← hl]
    exact hu
  refine call_meets F.slot_list_pop ⟨_, e, rfl⟩ F.entry_list_pop (F.args_list_pop_1 _) (MeetsSeq.list_pop_last l its.toArray n u hy' (by rw [List.size_toArray]; omega)) ⟨e, ?_⟩
  refine ⟨y, _, I.lset (its' := its.dropLast) hH e ?_ r.dropLast ?_, ru, q⟩
  · show its.toArray.eraseIdxIfInBounds (its.toArray.size - 1) = its.dropLast.toArray
    rw [List.size_toArray, List.eraseIdxIfInBounds_toArray, erase_last]
  · rw [List.length_dropLast]
    omega
def rPopAt : V → List V → Hp → VK → Prop := fun x vs H Q => ∃ l xs i k y, x = .ref l ∧ vs = [.int i] ∧ H l = some (.lst xs) ∧ -(2 ^ 63) ≤ i ∧ i < 2 ^ 63 ∧ seqIndex? i xs.length = some k ∧ xs[k]? = some y ∧ Q y (upd H l (.lst (xs.eraseIdx k)))
theorem mt_popAt : MtM X "list.pop" rPopAt := by
  intro pins s σ H x vs v us Q I rx rv h
  obtain ⟨l, xs, i, k, y, rfl, rfl, hH, h1, h2, hk, hy, q⟩ := h
  cases rx
  obtain ⟨u, rfl, ru⟩ := rv.one
  obtain ⟨t, rfl⟩ := ru
  obtain ⟨z, its, n, r, hl, e⟩ := I.lstM hH
  obtain ⟨w, hw, rw'⟩ := r.get hy
  refine call_meets F.slot_list_pop ⟨_, e, rfl⟩ F.entry_list_pop (F.args_list_pop_2 _ _)
    (MeetsSeq.list_pop_at l its.toArray n i t k w (fitsIndex_both h1 h2) (by rw [List.size_toArray, ← hl]; exact hk) (by rw [← Array.getElem?_toList]; exact hw) (by rw [List.size_toArray]; omega)) ⟨e, ?_⟩
  refine ⟨y, _, I.lset (its' := its.eraseIdx k) hH e ?_ (r.eraseIdx k) ?_, rw', q⟩
  · show its.toArray.eraseIdxIfInBounds k = (its.eraseIdx k).toArray
    rw [List.eraseIdxIfInBounds_toArray]
  · have := len_erase xs k
    omega
def rReverse : V → List V → Hp → VK → Prop := fun x vs H Q => ∃ l xs, x = .ref l ∧ vs = [] ∧ H l = some (.lst xs) ∧ Q .non (upd H l (.lst xs.reverse))
theorem mt_reverse : MtM X "list.reverse" rReverse := by
  intro pins s σ H x vs v us Q I rx rv h
  obtain ⟨l, xs, rfl, rfl, hH, q⟩ := h
  cases rx
  have hus := rv.zero
  subst hus
  obtain ⟨z, its, n, r, hl, e⟩ := I.lstM hH
  refine call_meets F.slot_list_reverse ⟨_, e, rfl⟩ F.entry_list_reverse (F.args_list_reverse_1 _) (AutoSeq1.list_reverse_list_0 l its.toArray n (by rw [List.size_toArray]; omega)) ⟨e, ?_⟩
  refine ⟨.non, _, I.lset (its' := its.reverse) hH e (by simp) r.reverse ?_, rfl, q⟩
  rw [List.length_reverse]
  omega
def rCat : R2 := fun x y H Q => ∃ l b xs zs, x = .ref l ∧ y = .ref b ∧ H l = some (.lst xs) ∧ H b = some (.lst zs) ∧ xs.length + zs.length ≤ sizeLine ∧ ∀ p, H p = none → Q (.ref p) (upd H p (.lst (xs ++ zs)))
theorem op_cat : OpR X (binaryOp .Add) rCat := by
  intro pins s σ H x y v u Q I rx ry h
  obtain ⟨l, b, xs, zs, rfl, rfl, hH, hB, hz, q⟩ := h
  cases rx
  cases ry
  obtain ⟨z, its, n, r, hl, e⟩ := I.lstM hH
  obtain ⟨z2, its2, n2, r2, hl2, e2⟩ := I.lstM hB
  refine PySem.P.add_list e e2 ?_ (by rw [List.size_toArray, List.size_toArray]; omega)
  have ea : its.toArray ++ its2.toArray = (its ++ its2).toArray := by simp
  rw [ea]
  exact ⟨.ref _, _, I.lnew (t' := s.toks) (r.append r2) (by rw [List.length_append]; omega), rfl, q _ I.fresh⟩
end
section
variable {prog : Program} {w : World} {A : Around} {E : Value → Shared → Prop} {s : Shared}
set_option maxRecDepth 100000 in
end
end L2
namespace L2
open PySem PySem.Spec PyProof.Rows
theorem Vals.ref1 {a : Addr} {us : List Value} (r : Vals [V.ref a] us) : us = [Value.ref a] := by
  cases r with
  | cons r t =>
    cases t
    cases r
    rfl
mutual
inductive Dp (K : PySem.W.Frag) (H : Hp) : V → PyData → Prop
  | non : Dp K H .non .none
  | bl (b : Bool) : Dp K H (.bl b) (.bool b)
  | int (i : Int) : Dp K H (.int i) (.int i)
  | str (x : Str) : Dp K H (.str x) (.str x)
  | lst {a : Addr} {xs : List V} {ds : List PyData} : SqL K H a xs → DpAll K H xs ds → Dp K H (.ref a) (.list ds)
  | tup {a : Addr} {xs : List V} {ds : List PyData} : SqT K H a xs → DpAll K H xs ds → Dp K H (.ref a) (.tuple ds)
inductive DpAll (K : PySem.W.Frag) (H : Hp) : List V → List PyData → Prop
  | nil : DpAll K H [] []
  | cons {v : V} {vs : List V} {d : PyData} {ds : List PyData} : Dp K H v d → DpAll K H vs ds → DpAll K H (v :: vs) (d :: ds)
end
section
variable {X : Cx} {pins : List (Addr × Obj)} {σ : St} {H : Hp} {s : Shared}
mutual
theorem Dp.reads (I : Inv X pins σ H s) : ∀ (d : PyData) (v : V) (u : Value), Dp X.K H v d → RelV v u → ∃ as, Reads s.heap u d as
  | .none, _, _, h, r => by
    cases h
    cases r
    exact ⟨_, Reads.none⟩
  | .bool b, _, _, h, r => by
    cases h
    cases r
    exact ⟨_, Reads.bool b⟩
  | .int i, _, _, h, r => by
    cases h
    obtain ⟨t, rfl⟩ := r
    exact ⟨_, Reads.int i t⟩
  | .str x, _, _, h, r => by
    cases h
    obtain ⟨t, rfl⟩ := r
    exact ⟨_, Reads.str x t⟩
  | .list ds, _, _, h, r => by
    cases h with
    | lst hs ha =>
      cases r
      obtain ⟨its, rv, ⟨o, n, ho, hc, _, hd⟩, _⟩ := I.list hs
      obtain ⟨as, hr⟩ := Dp.readsAll I ds _ its ha rv
      exact ⟨_, Reads.list ho hc hd hr⟩
  | .tuple ds, _, _, h, r => by
    cases h with
    | tup hs ha =>
      cases r
      obtain ⟨its, rv, ⟨o, ho, hc, n, hd⟩, _⟩ := I.tuple hs
      obtain ⟨as, hr⟩ := Dp.readsAll I ds _ its ha rv
      exact ⟨_, Reads.tuple ho hc hd hr⟩
  | .dict _, _, _, h, _ => by cases h
theorem Dp.readsAll (I : Inv X pins σ H s) : ∀ (ds : List PyData) (vs : List V) (us : List Value), DpAll X.K H vs ds → Vals vs us → ∃ as, ReadsAll s.heap us ds as
  | [], _, _, h, r => by
    cases h
    cases r
    exact ⟨_, ReadsAll.nil⟩
  | d :: ds, _, _, h, r => by
    cases h with
    | cons h1 h2 =>
      cases r with
      | cons r1 r2 =>
        obtain ⟨as, q1⟩ := Dp.reads I d _ _ h1 r1
        obtain ⟨bs, q2⟩ := Dp.readsAll I ds _ _ h2 r2
        exact ⟨_, ReadsAll.cons q1 q2⟩
end
end
section
variable {X : Cx}
def rEqD (K : PySem.W.Frag) : R2 := fun x y H Q => ∃ d e, Dp K H x d ∧ Dp K H y e ∧ SeqAt.shaped d = true ∧ SeqAt.shaped e = true ∧ Q (.bl (PyData.eqv d e)) H
theorem op_eqD (hu : X.A.units + 64 < cLine) : OpR X (compareOp .Eq) (rEqD X.K) := by
  intro pins s σ H x y v u Q I rx ry h
  obtain ⟨d, e, hd, he, sd, se, q⟩ := h
  obtain ⟨as, r1⟩ := Dp.reads I d x v hd rx
  obtain ⟨bs, r2⟩ := Dp.reads I e y u he ry
  exact SeqAt.compareEq_shaped r1 r2 sd se hu ⟨.bl _, H, I, rfl, q⟩
end
end L2
namespace L2
open PySem PySem.Spec PyProof.Rows
abbrev CellAt (h : Heap) (c : Addr) (v : Option Value) : Prop := h.IsCell c v
def relS (scope sc : Scope) : Scope :=
  { scope with names := scope.names.map fun (n, k) => if (k == .free && sc.kind == .function && sc.names.lookup n == some .cell) then (n, .cell) else (n, k) }
def cloFrom (cells : List (Str × Addr)) : List (Str × NameKind) → List (Str × Addr) → List (Str × Addr)
  | [], acc => acc
  | (n, k) :: r, acc => if k == .free then cloFrom cells r ((n, (cells.lookup n).getD 0) :: acc) else cloFrom cells r acc
theorem closure_loop (env : Env) (f : Str × NameKind → List (Str × Addr) → Sem (ForInStep (List (Str × Addr))))
    (hf : ∀ n k c, f (n, k) c = if k == .free then (do let a ← cellOf env n; pure (.yield ((n, a) :: c))) else pure (.yield c)) :
    ∀ (names : List (Str × NameKind)) (acc : List (Str × Addr)), (∀ y ∈ names, y.2 = .free → ∃ c, env.cells.lookup y.1 = some c) → forIn names acc f = pure (cloFrom env.cells names acc)
  | [], acc, _ => by rw [List.forIn_nil]; rfl
  | (n, k) :: r, acc, h => by
    rw [List.forIn_cons, hf]
    have ih := fun acc => closure_loop env f hf r acc fun y hy => h y (List.mem_cons_of_mem _ hy)
    unfold cloFrom
    by_cases hk : (k == NameKind.free) = true
    · rw [if_pos hk, if_pos hk]
      obtain ⟨c, hc⟩ := h (n, k) List.mem_cons_self (by simpa using hk)
      have e : cellOf env n = pure c := by unfold cellOf; rw [hc]
      rw [e]
      have e2 : (env.cells.lookup n).getD 0 = c := by rw [hc]; rfl
      rw [e2]
      exact ih _
    · rw [if_neg hk, if_neg hk]
      exact ih _
theorem closure_ok {scope : Scope} {env : Env} (h : ∀ y ∈ scope.names, y.2 = .free → ∃ c, env.cells.lookup y.1 = some c) : closureFor scope env = pure (cloFrom env.cells scope.names []) := by
  simp only [closureFor]
  rw [closure_loop env _ (fun n k c => rfl) scope.names [] h]
  rfl
theorem mem_lookup {α : Type} : ∀ {l : List (Str × α)} {n : Str} {c : α}, (n, c) ∈ l → ∃ c', l.lookup n = some c'
  | (k, v) :: r, n, c, h => by
    rw [List.lookup_cons]
    cases hb : n == k with
    | true => exact ⟨_, rfl⟩
    | false =>
      rcases List.mem_cons.mp h with e | h
      · cases e; simp at hb
      · exact mem_lookup h
theorem cloFrom_mem {cells : List (Str × Addr)} : ∀ {names : List (Str × NameKind)} {acc : List (Str × Addr)} {n : Str} {c : Addr}, (n, c) ∈ cloFrom cells names acc → (n, c) ∈ acc ∨ ((n, .free) ∈ names ∧ c = (cells.lookup n).getD 0)
  | [], _, _, _, h => .inl h
  | (m, k) :: r, acc, n, c, h => by
    unfold cloFrom at h
    split at h
    · rename_i hk
      have hk : k = .free := by simpa using hk
      rcases cloFrom_mem h with h | ⟨h1, h2⟩
      · rcases List.mem_cons.mp h with e | h
        · cases e; exact .inr ⟨hk ▸ List.mem_cons_self, rfl⟩
        · exact .inl h
      · exact .inr ⟨List.mem_cons_of_mem _ h1, h2⟩
    · rcases cloFrom_mem h with h | ⟨h1, h2⟩
      · exact .inl h
      · exact .inr ⟨List.mem_cons_of_mem _ h1, h2⟩
theorem cloFrom_acc {cells : List (Str × Addr)} : ∀ {names : List (Str × NameKind)} {acc : List (Str × Addr)} {p : Str × Addr}, p ∈ acc → p ∈ cloFrom cells names acc
  | [], _, _, h => h
  | (m, k) :: r, acc, p, h => by
    unfold cloFrom
    split
    · exact cloFrom_acc (List.mem_cons_of_mem _ h)
    · exact cloFrom_acc h
theorem cloFrom_has {cells : List (Str × Addr)} : ∀ {names : List (Str × NameKind)} {acc : List (Str × Addr)} {n : Str}, (n, .free) ∈ names → (n, (cells.lookup n).getD 0) ∈ cloFrom cells names acc
  | (m, k) :: r, acc, n, h => by
    unfold cloFrom
    rcases List.mem_cons.mp h with e | h
    · cases e
      exact cloFrom_acc List.mem_cons_self
    · split
      · exact cloFrom_has h
      · exact cloFrom_has h
theorem cells_mem : ∀ {names : List (Str × NameKind)} {h : Heap} {acc : List (Str × Addr)} {x : Str} {c : Addr}, (x, c) ∈ cellsFrom h.objs.size names acc →
    (x, c) ∈ acc ∨ ((x, .cell) ∈ names ∧ h.objs.size ≤ c ∧ CellAt (pushCells h names) c none)
  | [], _, _, _, _, h => .inl h
  | (n, k) :: r, h, acc, x, c, hm => by
    unfold cellsFrom at hm
    unfold pushCells
    split at hm
    · rename_i hk
      rw [if_pos hk]
      have hk : k = .cell := by simpa using hk
      rw [← Heap.size_push h { cls := .type "cell", data := .cell none }] at hm
      rcases cells_mem hm with hm | ⟨h1, h2, h3⟩
      · rcases List.mem_cons.mp hm with e | hm
        · cases e
          exact .inr ⟨hk ▸ List.mem_cons_self, Nat.le_refl _, _, pushCells_keeps r _ _ _ (Heap.get?_push_size _ rfl), rfl⟩
        · exact .inl hm
      · rw [Heap.size_push] at h2
        exact .inr ⟨List.mem_cons_of_mem _ h1, Nat.le_of_succ_le h2, h3⟩
    · rename_i hk
      rw [if_neg hk]
      rcases cells_mem hm with hm | ⟨h1, h2, h3⟩
      · exact .inl hm
      · exact .inr ⟨List.mem_cons_of_mem _ h1, h2, h3⟩
theorem cells_acc : ∀ {names : List (Str × NameKind)} {n : Nat} {acc : List (Str × Addr)} {p : Str × Addr}, p ∈ acc → p ∈ cellsFrom n names acc
  | [], _, _, _, h => h
  | (m, k) :: r, n, acc, p, h => by
    unfold cellsFrom
    split
    · exact cells_acc (List.mem_cons_of_mem _ h)
    · exact cells_acc h
theorem cells_has : ∀ {names : List (Str × NameKind)} {n : Nat} {acc : List (Str × Addr)} {x : Str}, (x, .cell) ∈ names → ∃ c, (x, c) ∈ cellsFrom n names acc
  | (m, k) :: r, n, acc, x, h => by
    unfold cellsFrom
    rcases List.mem_cons.mp h with e | h
    · cases e
      exact ⟨n, cells_acc List.mem_cons_self⟩
    · split
      · exact cells_has h
      · exact cells_has h
theorem cells_inj : ∀ {names : List (Str × NameKind)} {h : Heap} {acc : List (Str × Addr)} {x y : Str} {c : Addr}, (∀ p ∈ acc, p.2 < h.objs.size) → (∀ x y c, (x, c) ∈ acc → (y, c) ∈ acc → x = y) →
    (x, c) ∈ cellsFrom h.objs.size names acc → (y, c) ∈ cellsFrom h.objs.size names acc → x = y
  | [], _, _, _, _, _, _, hi, h1, h2 => hi _ _ _ h1 h2
  | (n, k) :: r, h, acc, x, y, c, hl, hi, h1, h2 => by
    unfold cellsFrom at h1 h2
    split at h1
    · rename_i hk
      rw [if_pos hk] at h2
      rw [← Heap.size_push h { cls := .type "cell", data := .cell none }] at h1 h2
      refine cells_inj (h := h.push _) (fun p hp => ?_) (fun x y c a b => ?_) h1 h2
      · rw [Heap.size_push]
        rcases List.mem_cons.mp hp with rfl | hp
        · exact Nat.lt_succ_self _
        · exact Nat.lt_succ_of_lt (hl p hp)
      · rcases List.mem_cons.mp a with e | a <;> rcases List.mem_cons.mp b with e' | b
        · cases e; cases e'; rfl
        · cases e; exact absurd (hl _ b) (Nat.lt_irrefl _)
        · cases e'; exact absurd (hl _ a) (Nat.lt_irrefl _)
        · exact hi _ _ _ a b
    · rename_i hk
      rw [if_neg hk] at h2
      exact cells_inj hl hi h1 h2
theorem newEnv_comp {M : Model} {A : Around} {E : Value → Shared → Prop} {s : Shared} {scope : Scope} {globals : Addr} {closure : List (Str × Addr)} {qual : Str} {func : Option Addr} {code : Value} {around : Env} {builtins : Addr} {Q : Env → Shared → Prop}
    (h : Q (newEnv scope s.heap.objs.size globals (cellsFrom (s.heap.objs.size + 1) scope.names closure) qual func code (some around) builtins)
      { s with heap := pushCells (s.heap.push { cls := .type "dict", data := .dict #[] }) scope.names }) :
    wpAny M A (newFunctionEnv scope globals closure [] qual func code (some around) builtins) Q E s := by
  simp only [newFunctionEnv, Option.isSome_some, if_true]
  refine wpAny_bind (wpAny_alloc ?_)
  refine wpAny_bind (wpAny_layCells _ (fun n k c => rfl) scope.names closure _ _ ?_)
  rw [show ({ s with heap := s.heap.push { cls := .type "dict", data := .dict #[] } } : Shared).heap.objs.size = s.heap.objs.size + 1 from Heap.size_push ..]
  rw [List.forIn_nil]
  exact wpAny_bind (wpAny_pure (wpAny_pure h))
/-- every name of the written scope, in the scope that runs -/
theorem lookup_relS {sc : Scope} : ∀ {names : List (Str × NameKind)} {x : Str} {k : NameKind},
    (names.map fun (n, k) => if (k == NameKind.free && sc.kind == .function && sc.names.lookup n == some .cell) then (n, NameKind.cell) else (n, k)).lookup x = some k →
    ∃ k', names.lookup x = some k' ∧ (k = k' ∨ (k' = .free ∧ k = .cell))
  | [], _, _, h => by simp at h
  | (n, k₀) :: r, x, k, h => by
    have ih := @lookup_relS sc r x k
    have h' : List.lookup x ((if (k₀ == NameKind.free && sc.kind == .function && sc.names.lookup n == some .cell) = true then (n, NameKind.cell) else (n, k₀)) :: (r.map _)) = some k := h
    cases hx : x == n with
    | true =>
      simp only [List.lookup_cons, hx]
      by_cases hc : (k₀ == NameKind.free && sc.kind == .function && sc.names.lookup n == some .cell) = true
      · rw [if_pos hc] at h'
        simp only [List.lookup_cons, hx] at h'
        cases h'
        simp only [Bool.and_eq_true, beq_iff_eq] at hc
        exact ⟨k₀, rfl, .inr ⟨hc.1.1, rfl⟩⟩
      · rw [if_neg hc] at h'
        simp only [List.lookup_cons, hx] at h'
        cases h'
        exact ⟨_, rfl, .inl rfl⟩
    | false =>
      simp only [List.lookup_cons, hx]
      by_cases hc : (k₀ == NameKind.free && sc.kind == .function && sc.names.lookup n == some .cell) = true
      · rw [if_pos hc] at h'
        simp only [List.lookup_cons, hx] at h'
        exact ih h'
      · rw [if_neg hc] at h'
        simp only [List.lookup_cons, hx] at h'
        exact ih h'
/-- the names of a comprehension's block: its own (with their places in N), or captured -/
structure BlkOk (N : List Str) (sc scope : Scope) (own : List (Str × Nat)) : Prop where
  kind : scope.kind = .function
  uniq : ∀ y ∈ scope.names, scope.names.lookup y.1 = some y.2
  ix : ∀ p ∈ own, N[p.2]? = some p.1
  free : ∀ y ∈ scope.names, y.2 = .free → sc.names.lookup y.1 = some .cell ∨ sc.names.lookup y.1 = some .free
  own : ∀ y ∈ scope.names, y.2 = .local ∨ y.2 = .cell → y.1 ∈ own.map (·.1) ∨ y.1 ∉ N
/-- the slots of the block's own names forgotten -/
def wipe (σ : St) : List Nat → St
  | [] => σ
  | v :: vs => (wipe σ vs).set v none
theorem wipe_length (σ : St) : ∀ vs : List Nat, (wipe σ vs).length = σ.length
  | [] => rfl
  | v :: vs => by unfold wipe; rw [List.length_set, wipe_length σ vs]
theorem wipe_some {σ : St} {i : Nat} {x : V} : ∀ {vs : List Nat}, (wipe σ vs)[i]? = some (some x) → σ[i]? = some (some x) ∧ i ∉ vs
  | [], h => ⟨h, by simp⟩
  | v :: vs, h => by
    unfold wipe at h
    by_cases hi : v = i
    · subst hi
      by_cases hv : v < (wipe σ vs).length
      · rw [List.getElem?_set_self hv] at h; cases h
      · rw [List.getElem?_eq_none (by simpa using hv)] at h; cases h
    · rw [List.getElem?_set_ne hi] at h
      obtain ⟨h1, h2⟩ := wipe_some h
      exact ⟨h1, by simp only [List.mem_cons, not_or]; exact ⟨fun e => hi e.symm, h2⟩⟩
/-- the context of a block that starts at s, its iterator's objects at fp -/
abbrev Cx.blk (X : Cx) (s : Shared) (H : Hp) (scope : Scope) (cenv : Env) (fp : List Addr) : Cx := { X with s_0 := s, H_0 := H, env := cenv, outer := X.stack, ex := fp, fn := fun x => scope.names.lookup x == some .cell, pn := [], xe := fun _ _ => False }
section
variable {X : Cx} {pins : List (Addr × Obj)} {σ : St} {H : Hp} {s : Shared}
theorem block_start {scope : Scope} {own : List (Str × Nat)} {fp : List Addr} (I : Inv X pins σ H s) (ok : BlkOk X.N X.env.scope scope own) (hN : X.N.Nodup) (hfp : ∀ b ∈ fp, FpOk X pins H b ∧ b < s.heap.objs.size) :
    Inv (X.blk s H scope (compEnvC scope (cellsFrom (s.heap.objs.size + 1) scope.names (cloFrom X.env.cells scope.names [])) s.heap.objs.size X.env) fp) [] (wipe σ (own.map (·.2))) H { s with heap := pushCells (s.heap.push { cls := .type "dict", data := .dict #[] }) scope.names } := by
  have hfree : ∀ y ∈ scope.names, y.2 = .free → ∃ c, X.env.cells.lookup y.1 = some c := fun y hy e => by
    rcases ok.free y hy e with k | k
    · exact I.ok.has _ (.inl k)
    · exact I.ok.has _ (.inr k)
  generalize hcenv : compEnvC scope (cellsFrom (s.heap.objs.size + 1) scope.names (cloFrom X.env.cells scope.names [])) s.heap.objs.size X.env = cenv
  have kp : ∀ b o, s.heap.get? b = some o → (pushCells (s.heap.push { cls := .type "dict", data := .dict #[] }) scope.names).get? b = some o := fun b o e => pushCells_keeps _ _ _ _ (Heap.get?_push_of_some _ e)
  have hL : cenv.locals = s.heap.objs.size := by rw [← hcenv]; rfl
  have hcl : cenv.cells = cellsFrom (s.heap.objs.size + 1) scope.names (cloFrom X.env.cells scope.names []) := by rw [← hcenv]; rfl
  have hsc : cenv.scope = relS scope X.env.scope := by rw [← hcenv]; rfl
  rw [← Heap.size_push s.heap { cls := .type "dict", data := .dict #[] }] at hcl
  have cm : ∀ {y c}, (y, c) ∈ cloFrom X.env.cells scope.names [] → X.env.cells.lookup y = some c ∧ c < s.heap.objs.size := fun {y c} hm => by
    rcases cloFrom_mem hm with hm | ⟨h1, rfl⟩
    · cases hm
    · obtain ⟨c, hc⟩ := hfree _ h1 rfl
      rw [hc]
      obtain ⟨w, z⟩ := I.cell _ _ hc
      exact ⟨rfl, z.lt⟩
  have mem : ∀ {y c}, cenv.cells.lookup y = some c → (X.env.cells.lookup y = some c ∧ c < s.heap.objs.size) ∨ (s.heap.objs.size + 1 ≤ c ∧ CellAt (pushCells (s.heap.push { cls := .type "dict", data := .dict #[] }) scope.names) c none) := fun {y c} e => by
    rw [hcl] at e
    rcases cells_mem (PySem.mem_of_lookup e) with hm | ⟨_, h2, h3⟩
    · exact .inl (cm hm)
    · rw [Heap.size_push] at h2; exact .inr ⟨h2, h3⟩
  have look : ∀ {y}, scope.names.lookup y = some .free → ∃ c, cenv.cells.lookup y = some c ∧ X.env.cells.lookup y = some c := fun {y} hl => by
    have hy : (y, NameKind.free) ∈ scope.names := PySem.mem_of_lookup hl
    obtain ⟨c', e'⟩ := mem_lookup (cells_acc (names := scope.names) (n := (s.heap.push { cls := .type "dict", data := .dict #[] }).objs.size) (cloFrom_has (cells := X.env.cells) (acc := []) hy))
    rw [← hcl] at e'
    refine ⟨c', e', ?_⟩
    rw [hcl] at e'
    rcases cells_mem (PySem.mem_of_lookup e') with hm | ⟨h1, _, _⟩
    · exact (cm hm).1
    · have := ok.uniq _ h1
      rw [hl] at this; cases this
  have okB : (X.blk s H scope cenv fp).Ok := by
    refine ⟨I.ok.mod, by show cenv.scope.kind = _; rw [hsc]; exact ok.kind, by show cenv.globals = _; rw [← hcenv]; exact I.ok.glob, by show cenv.builtins = _; rw [← hcenv]; exact I.ok.blt, by show s.heap.objs.size ≤ cenv.locals; rw [hL]; exact Nat.le_refl _,
      fun y z c e1 e2 => ?_, fun y hy => ?_, fun y c z e => ?_, I.ok.hd, I.ok.frames, .inl rfl, fun b hb => ⟨?_, fun y c e z => ?_⟩, I.bs, Nat.le_trans I.ok.bsz I.sz, fun b o e hb => ?_, fun b hb z => ?_, I.stack, I.stkFree⟩
    · have e1 : cenv.cells.lookup y = some c := e1
      have e2 : cenv.cells.lookup z = some c := e2
      rw [hcl] at e1 e2
      refine cells_inj (fun p hp => ?_) (fun y z c a b => I.ok.inj y z c (cm a).1 (cm b).1) (PySem.mem_of_lookup e1) (PySem.mem_of_lookup e2)
      rw [Heap.size_push]
      exact Nat.lt_succ_of_lt (cm (y := p.1) (c := p.2) hp).2
    · show ∃ c, cenv.cells.lookup y = some c
      have key : ∀ k, cenv.kindOf y = some k → (k = .cell ∨ k = .free) → ∃ c, cenv.cells.lookup y = some c := fun k hk hk' => by
        unfold Env.kindOf at hk
        rw [hsc] at hk
        obtain ⟨k', e, r⟩ := lookup_relS hk
        have : k' = .cell ∨ k' = .free := by
          rcases r with rfl | ⟨rfl, _⟩
          · exact hk'
          · exact .inr rfl
        rcases this with rfl | rfl
        · obtain ⟨c, hm⟩ := cells_has (n := (s.heap.push { cls := .type "dict", data := .dict #[] }).objs.size) (acc := cloFrom X.env.cells scope.names []) (PySem.mem_of_lookup e)
          obtain ⟨c', e'⟩ := mem_lookup hm
          exact ⟨c', by rw [hcl]; exact e'⟩
        · obtain ⟨c, h1, _⟩ := look e
          exact ⟨c, h1⟩
      rcases hy with hy | hy
      · exact key _ hy (.inl rfl)
      · exact key _ hy (.inr rfl)
    · have z : (scope.names.lookup y == some NameKind.cell) = true := z
      have z : scope.names.lookup y = some .cell := by simpa using z
      have e : cenv.cells.lookup y = some c := e
      rw [hcl] at e
      rcases cells_mem (PySem.mem_of_lookup e) with hm | ⟨_, h2, _⟩
      · rcases cloFrom_mem hm with hm | ⟨h1, _⟩
        · cases hm
        · have q := ok.uniq _ h1
          rw [z] at q; cases q
      · rw [Heap.size_push] at h2
        exact Nat.le_of_succ_le h2
    · show b ≠ cenv.locals
      rw [hL]; exact Nat.ne_of_lt (hfp b hb).2
    · have e : cenv.cells.lookup y = some c := e
      rcases mem e with ⟨h1, _⟩ | ⟨h1, _⟩
      · exact (hfp b hb).1.2.2.2.2.1 y c h1 z
      · have h2 : s.heap.objs.size + 1 ≤ b := by rw [← z]; exact h1
        exact absurd (Nat.lt_of_lt_of_le (hfp b hb).2 (Nat.le_of_succ_le h2)) (Nat.lt_irrefl _)
    · rcases (hfp b hb).1.2.2.2.1 with z | z
      · exact I.ok.noex b o e z
      · exact absurd (Nat.lt_of_lt_of_le (Heap.lt_size e) (Nat.le_trans I.ok.bsz z)) (Nat.lt_irrefl _)
    · rcases List.mem_cons.mp (I.stkSub b z) with z | z
      · exact (hfp b hb).1.2.1 z
      · exact (hfp b hb).1.2.2.1 z
  refine ⟨okB, rfl, I.bare, Un.kept kp, ⟨fun _ => none, ?_, fun i y av e1 e2 e3 => ?_⟩, fun y c e => ?_, ?_, fun y c e => ?_, fun p hp => ?_, I.hok.kept kp, by rw [wipe_length]; exact I.len⟩
  · show Heap.Ns _ cenv.locals _
    rw [hL]
    exact Heap.Ns.keeps (Heap.Ns.new ..) fun b o e => pushCells_keeps _ _ _ _ e
  · obtain ⟨e2, hne⟩ := wipe_some e2
    have hfr : scope.names.lookup y = some .free ∧ (cenv.kindOf y = some .cell ∨ cenv.kindOf y = some .free) := by
      have key : ∀ k, cenv.scope.names.lookup y = some k → k = .local ∨ k = .cell ∨ k = .free → scope.names.lookup y = some .free ∧ (cenv.kindOf y = some .cell ∨ cenv.kindOf y = some .free) := fun k hk hk' => by
        have hk0 := hk
        rw [hsc] at hk
        obtain ⟨k', e, r⟩ := lookup_relS hk
        have no : ¬ (k' = .local ∨ k' = .cell) := fun hh => by
          rcases ok.own _ (PySem.mem_of_lookup e) hh with e' | e'
          · obtain ⟨p, hp, hpy⟩ := List.mem_map.mp e'
            have e3 := ok.ix p hp
            have : p.1 = y := hpy
            rw [this] at e3
            exact hne (List.mem_map.mpr ⟨p, hp, nodup_ix hN e3 e1⟩)
          · exact e' (List.mem_of_getElem? e1)
        rcases r with rfl | ⟨rfl, rfl⟩
        · rcases hk' with rfl | rfl | rfl
          · exact absurd (.inl rfl) no
          · exact absurd (.inr rfl) no
          · exact ⟨e, .inr hk0⟩
        · exact ⟨e, .inl hk0⟩
      have e3 : Vis cenv.scope y := e3
      rcases e3 with e3 | e3 | e3
      · exact key _ e3 (.inl rfl)
      · exact key _ e3 (.inr (.inl rfl))
      · exact key _ e3 (.inr (.inr rfl))
    obtain ⟨m, hn, hl⟩ := I.loc
    have hvis : Vis X.env.scope y := (ok.free _ (PySem.mem_of_lookup hfr.1) rfl).elim (fun k => .inr (.inl k)) (fun k => .inr (.inr k))
    obtain ⟨w, r, q⟩ := hl i y av e1 e2 hvis
    refine ⟨w, r, .inr ⟨hfr.2, ?_⟩⟩
    obtain ⟨c, h1, h2⟩ := look hfr.1
    rcases q with ⟨k, _⟩ | ⟨_, c', e', z⟩
    · have k : X.env.scope.names.lookup y = some .local := k
      rcases ok.free _ (PySem.mem_of_lookup hfr.1) rfl with k' | k' <;> rw [show X.env.scope.names.lookup y = _ from k'] at k <;> cases k
    · rw [h2] at e'; cases e'
      exact ⟨c, h1, z.keeps kp⟩
  · have e : cenv.cells.lookup y = some c := e
    rcases mem e with ⟨h1, _⟩ | ⟨_, z⟩
    · obtain ⟨w, z⟩ := I.cell y c h1
      exact ⟨w, z.keeps kp⟩
    · exact ⟨_, z⟩
  · show H cenv.locals = none
    rw [hL]; exact I.hok.fresh (Nat.le_refl _)
  · have e : cenv.cells.lookup y = some c := e
    rcases mem e with ⟨h1, _⟩ | ⟨h1, _⟩
    · exact I.freeC y c h1
    · exact I.hok.fresh (Nat.le_of_succ_le h1)
  · exact absurd (show p ∈ ([] : List (Addr × Obj)) ++ [] from hp) (by simp)
/-- an item appended to a tracked list -/
theorem app_ok {E : Value → Shared → Prop} {D : Addr} {xs : List V} {y : V} {v : Value} {Q : Value → Shared → Prop} (I : Inv X pins σ H s) (hD : H D = some (.lst xs)) (hz : xs.length < sizeLine) (r : RelV y v)
    (h : ∀ s', Inv X pins σ (upd H D (.lst (xs ++ [y]))) s' → Q .none s') : wpAny (model X.prog X.w) X.A (call (.builtin "list.append") [.ref D, v]) Q E s := by
  obtain ⟨hz', its, n, ri, e⟩ := I.hok D _ hD
  have hl := ri.length
  refine append_at (hsz := by rw [List.size_toArray]; omega) e fun h' sb ho' => ?_
  refine h { s with heap := h' } (I.write (t' := s.toks) (by rw [hD]; trivial) (.inl rfl) (fun b u hb q => (sb.2 b hb).trans q) ⟨_, ho'⟩ ⟨by rw [List.length_append]; exact hz, its ++ [v], n + 1, ri.append (.cons r .nil), ?_⟩)
  rw [ho']
  simp
/-- a clause's tests -/
def PTs (X : Cx) (ifs : List Expr) (t : TT) : Prop :=
  ∀ (pins : List (Addr × Obj)) (s : Shared) (σ : St) (H : Hp) (Q : Bool → Hp → Prop), Inv X pins σ H s → t σ H Q →
    wpAny (model X.prog X.w) X.A (forIn ifs true fun c r => if r = true then do let ok ← isTrue c X.env (eval c X.env); pure (ForInStep.yield ok) else pure (ForInStep.yield r)) (TP X pins σ Q) X.xe s
def tYes : TT := fun _ H Q => Q true H
theorem pts_nil : PTs X [] tYes := fun _ _ _ H _ I h => wpAny_tests_nil ⟨H, I, h⟩
theorem pts_one {c : Expr} {t : TT} (h : PT X c t) : PTs X [c] t := fun pins s σ H Q I hw => wpAny_tests_one (h pins s σ H Q I hw)
end
theorem thnF {α : Type} {t : Sem α} {Q Q' : α → Shared → Prop} {M : Model} {A : Around} {E : Value → Shared → Prop} {s : Shared} (h : wpAny M A t Q (fun _ _ => False) s) (hQ : ∀ a s, Q a s → Q' a s) : wpAny M A t Q' E s := wpAny_mono h hQ fun _ _ z => False.elim z
/-- the loop of a list comprehension's block, the target of any form (codeAny_compLoop_tests asks a target that no tuple goes to; statement and proof follow it, PyProof/CompMap.lean:41-61, with the step letOwnedTupleGo kept) -/
theorem compLoop_any {prog : Program} {w : World} {A : Around} {R : Result → Shared → Prop} {s : Shared} {elt target iter : Expr} {ifs : List Expr} {scope : Scope} {pos : Pos} {it acc : Value} {env : Env} (I : Nat → Shared → Prop)
    (turn : ∀ n s, I n s → wpAny (model prog w) A (pyNext it) (fun r s₁ => match r with
      | none => R (.ok .next) s₁
      | some v => wpAny (model prog w) A (letOwnedTupleGo target it v) (fun _ s₁' => wpAny (model prog w) A (assign target env v) (fun _ s₂ =>
          wpAny (model prog w) A (forIn ifs true fun c r => if r = true then do let ok ← isTrue c env (eval c env); pure (ForInStep.yield ok) else pure (ForInStep.yield r)) (fun ok s₃ =>
            if ok = true then wpAny (model prog w) A (eval elt env) (fun x s₄ =>
              wpAny (model prog w) A (call (.builtin "list.append") [acc, x]) (fun _ s₅ => ∃ m, m < n ∧ I m s₅) (notedBy (model prog w) A env fun e s' => R (.error e) s') s₄) (notedBy (model prog w) A env fun e s' => R (.error e) s') s₃
            else ∃ m, m < n ∧ I m s₃) (notedBy (model prog w) A env fun e s' => R (.error e) s') s₂) (notedBy (model prog w) A env fun e s' => R (.error e) s') s₁') (notedBy (model prog w) A env fun e s' => R (.error e) s') s₁) (notedBy (model prog w) A env fun e s' => R (.error e) s') s)
    (n : Nat) (h : I n s) :
    codeAny (model prog w) A (.compLoop (.ListComp elt [⟨target, iter, ifs, 0⟩] scope pos) 0 it acc env) R s := by
  refine codeAny_loop rfl I (fun n s hI => ?_) n h
  show wpAny _ A ((compTurn (.ListComp elt [⟨target, iter, ifs, 0⟩] scope pos) 0 it acc env).onRaise (fun x => do noteFrame x env; theTreesLotGoes x)) _ _ s
  refine wpAny_noted ?_
  rw [compTurn_list]
  refine wpAny_bind (wpAny_standAt (wpAny_bind (wpAny_mono (turn n s hI) (fun r s₁ h₁ => ?_) fun _ _ h' => h')))
  cases r with
  | none => exact wpAny_pure h₁
  | some v =>
    refine wpAny_bind (wpAny_mono h₁ (fun _ s₁' h₁' => ?_) fun _ _ h' => h')
    refine wpAny_bind (wpAny_mono h₁' (fun _ s₂ h₂ => wpAny_bind (wpAny_mono h₂ (fun ok s₃ h₃ => ?_) fun _ _ h' => h')) fun _ _ h' => h')
    cases ok with
    | false => exact wpAny_pure ⟨rfl, h₃⟩
    | true =>
      exact wpAny_bind (wpAny_bind (wpAny_mono h₃ (fun x s₄ h₄ => wpAny_bind (wpAny_mono h₄ (fun _ s₅ h₅ => wpAny_pure (wpAny_pure ⟨rfl, h₅⟩)) fun _ _ h' => h')) fun _ _ h' => h'))
section
variable {X : Cx}
/-- [elt for target in iter if ..]: D the new list; W by the turn and a measure, Nx what a turn is to reach -/
def tLc (wi : TI) (g : TG) (tt : TT) (te : TE) (vs : List Nat) : TE := fun σ H Q => wi σ H fun J H1 => ∀ D, H1 D = none → ∃ W : Nat → Nat → Hp → Prop, (∃ m, W 0 m (upd H1 D (.lst []))) ∧ ∀ i m H, W i m H →
  (J.stop i H ∧ Q (.ref D) H) ∨ (J.go i H ∧ ∃ Nx : Hp → Prop, (∀ H', Nx H' → ∃ m', m' < m ∧ W (i + 1) m' H') ∧ ∀ x H', J.yld i H x H' → g x (wipe σ vs) H' fun σ2 H2 => wipe σ2 vs = wipe σ vs ∧ tt σ2 H2 fun b H3 =>
    if b = true then te σ2 H3 fun y H4 => ∃ acc, H4 D = some (.lst acc) ∧ acc.length < sizeLine ∧ Nx (upd H4 D (.lst (acc ++ [y]))) else Nx H3)
theorem lc_core {pins : List (Addr × Obj)} {s : Shared} {σ : St} {H : Hp} {Q : VK} {elt tg iter : Expr} {ifs : List Expr} {scope : Scope} {own : List (Str × Nat)} {pos pos' : Pos} {wi : TI} {g : TG} {tt : TT} {te : TE} {use : Option (Value → Sem Unit)} {Qf : Value → Shared → Prop}
    (hc : X.calm = true) (hN : X.N.Nodup) (I : Inv X pins σ H s) (hi : PI X tg iter wi) (ok : BlkOk X.N X.env.scope scope own)
    (hg : ∀ (s : Shared) (H : Hp) (C : Addr) (cl : List (Str × Addr)) (fp : List Addr), PG (X.blk s H scope (compEnvC scope cl C X.env) fp) tg g) (ht : ∀ (s : Shared) (H : Hp) (C : Addr) (cl : List (Str × Addr)) (fp : List Addr), PTs (X.blk s H scope (compEnvC scope cl C X.env) fp) ifs tt)
    (he : ∀ (s : Shared) (H : Hp) (C : Addr) (cl : List (Str × Addr)) (fp : List Addr), PE (X.blk s H scope (compEnvC scope cl C X.env) fp) elt te) (hs : ∀ x, foldedSetIterable iter X.env x = pure x)
    (h : tLc wi g tt te (own.map (·.2)) σ H Q)
    (hRR : ∀ D C s' m H', Inv X pins σ H' s' → Q (.ref D) H' → s'.heap.Ns C m → FpOk X pins H' C → compPost (model X.prog X.w) X.A X.xe use Qf (.ref D) C (.ok .next) s') :
    wpAny (model X.prog X.w) X.A (comprehension (.ListComp elt [⟨tg, iter, ifs, 0⟩] scope pos) scope X.env pos' (newList []) false (eval iter X.env) use) Qf X.xe s := by
  have hfree : ∀ y ∈ scope.names, y.2 = .free → ∃ c, X.env.cells.lookup y.1 = some c := fun y hy e => by
    rcases ok.free y hy e with k | k
    · exact I.ok.has _ (.inl k)
    · exact I.ok.has _ (.inr k)
  refine wpAny_comprehension_free (use := use) rfl hs (closure_ok hfree) ok.kind (fun y hy e => by rw [ok.uniq y hy, e])
    (thn (hi pins s σ H _ I h) fun xv s1 hx => thn hx fun itv s2 h2 => ?_)
  obtain ⟨it, fp, tn, J, H2, e, I2, T, st2, f2, q⟩ := h2
  subst e
  refine wpAny_newObj_type (newEnv_comp ?_) (by show 0 ≤ sizeLine; decide)
  generalize hD : s2.heap.objs.size = D
  have hDn : H2 D = none := I2.hok.fresh (Nat.le_of_eq hD)
  obtain ⟨W, ⟨m0, w0⟩, turn⟩ := q D hDn
  -- the new list
  generalize hs3 : ({ s2 with heap := s2.heap.push { cls := .type "list", data := .seq ([] : List Value).toArray } } : Shared) = s3
  have I3 : Inv X pins σ (upd H2 D (.lst [])) s3 := by
    rw [← hs3]
    refine I2.laid (t' := s2.toks) (fun b o e => Heap.get?_push_of_some _ e) (Nat.le_of_eq hD) ⟨Nat.zero_le _, [], 0, .nil, ?_⟩
    rw [← hD]
    exact Heap.get?_push_size _ rfl
  have h3 : s3.heap = s2.heap.push { cls := .type "list", data := .seq ([] : List Value).toArray } := by rw [← hs3]
  have sz : ∀ b ∈ fp, b < s2.heap.objs.size := fun b hb => by
    obtain ⟨o, e, _⟩ := T.obj _ _ st2 b hb
    exact Heap.lt_size e
  have f3 : ∀ b ∈ fp, FpOk X pins (upd H2 D (.lst [])) b ∧ b < s3.heap.objs.size := fun b hb => by
    have hlt := sz b hb
    refine ⟨⟨?_, (f2 b hb).2⟩, by rw [h3, Heap.size_push]; exact Nat.lt_succ_of_lt hlt⟩
    rw [upd_ne (by rw [← hD]; exact Nat.ne_of_lt hlt)]
    exact (f2 b hb).1
  have st3 : tn 0 s3.heap := T.keep _ _ _ st2 fun b _ o e => by rw [h3]; exact Heap.get?_push_of_some _ e
  have I4 := block_start I3 ok hN f3
  have pg := hg s3 (upd H2 D (.lst [])) s3.heap.objs.size (cellsFrom (s3.heap.objs.size + 1) scope.names (cloFrom X.env.cells scope.names [])) fp
  have pt := ht s3 (upd H2 D (.lst [])) s3.heap.objs.size (cellsFrom (s3.heap.objs.size + 1) scope.names (cloFrom X.env.cells scope.names [])) fp
  have pe := he s3 (upd H2 D (.lst [])) s3.heap.objs.size (cellsFrom (s3.heap.objs.size + 1) scope.names (cloFrom X.env.cells scope.names [])) fp
  show codeAny _ _ (.compStart (.ListComp elt [⟨tg, iter, ifs, 0⟩] scope pos) 0 (.ref it) (.ref D) (compEnvC scope (cellsFrom (s3.heap.objs.size + 1) scope.names (cloFrom X.env.cells scope.names [])) s3.heap.objs.size X.env)) (compPost (model X.prog X.w) X.A X.xe use Qf (.ref D) s3.heap.objs.size) { s3 with heap := pushCells (s3.heap.push { cls := .type "dict", data := .dict #[] }) scope.names }
  have nfp : ∀ b ∈ fp, (upd H2 D (.lst [])) b = none := fun b hb => (f3 b hb).1.1
  generalize hce : compEnvC scope (cellsFrom (s3.heap.objs.size + 1) scope.names (cloFrom X.env.cells scope.names [])) s3.heap.objs.size X.env = ce at I4 pg pt pe ⊢
  have cL : ce.locals = s3.heap.objs.size := by subst hce; rfl
  generalize hH3 : upd H2 D (.lst []) = H3 at I3 I4 pg pt pe w0 nfp f3
  generalize hs4 : ({ s3 with heap := pushCells (s3.heap.push { cls := .type "dict", data := .dict #[] }) scope.names } : Shared) = s4 at I4 ⊢
  have st4 : tn 0 s4.heap := T.keep _ _ _ st3 fun b _ o e => by rw [← hs4]; exact pushCells_keeps _ _ _ _ (Heap.get?_push_of_some _ e)
  have stat : ∀ {σ' : St} {H' : Hp} {s' : Shared}, Inv (X.blk s3 H3 scope ce fp) [] σ' H' s' → (∀ b ∈ fp, H' b = none) → ∀ b ∈ fp, FpOk (X.blk s3 H3 scope ce fp) [] H' b := fun {σ' H' s'} I' hn b hb =>
    ⟨hn b hb, (I'.ok.exf b hb).1, I'.ok.exfs b hb, .inl hb, fun x c e => (I'.ok.exf b hb).2 x c e, fun p hp => absurd (show p ∈ ([] : List (Addr × Obj)) ++ [] from hp) (by simp)⟩
  have loop : codeAny (model X.prog X.w) X.A (.compLoop (.ListComp elt [⟨tg, iter, ifs, 0⟩] scope pos) 0 (.ref it) (.ref D) ce) (compPost (model X.prog X.w) X.A X.xe use Qf (.ref D) s3.heap.objs.size) s4 := by
    refine compLoop_any (fun n s' => ∃ i H', Inv (X.blk s3 H3 scope ce fp) [] (wipe σ (own.map (·.2))) H' s' ∧ tn i s'.heap ∧ (∀ b ∈ fp, H' b = none) ∧ W i n H') ?_ m0 ⟨0, H3, I4, st4, nfp, w0⟩
    rintro n s5 ⟨i, H5, I5, st5, n5, w5⟩
    rcases turn i n H5 w5 with ⟨stop, qq⟩ | ⟨go, Nx, hNx, step⟩
    · have td := T.done (X.blk s3 H3 scope ce fp) rfl rfl rfl hc i [] s5 _ H5 (fun _ _ => False) I5 (stat I5 n5) st5 stop
      refine thnF td fun r s6 ⟨hr, I6⟩ => ?_
      subst hr
      -- back in the def's context
      have I7 : Inv X pins σ H5 s6 := I3.call' (ch := fp) I6.os I6.base I6.hok I6.bare fun b hb => ⟨(f3 b hb).1.2.2.2.1, (f3 b hb).1.2.1, (f3 b hb).1.2.2.2.2.1, (f3 b hb).1.2.2.2.2.2⟩
      have nC : H5 s3.heap.objs.size = none := by
        have z : H5 ce.locals = none := I6.free
        rw [cL] at z
        exact z
      obtain ⟨m, hn, _⟩ := I6.loc
      have hn : s6.heap.Ns ce.locals m := hn
      rw [cL] at hn
      exact hRR D s3.heap.objs.size s6 m H5 I7 qq hn (I3.fpOk (Nat.le_refl _) nC)
    · have ti := T.item (X.blk s3 H3 scope ce fp) rfl rfl rfl hc i [] s5 _ H5 (fun _ _ => False) I5 (stat I5 n5) st5 go
      refine thnF ti fun r s6 ⟨u, hr, h6⟩ => ?_
      subst hr
      refine thnF h6 fun _ s7 ⟨x, H7, I7, r7, y7, st7, n7⟩ => ?_
      have I7' := I7.pinned (stat I7 n7) (T.obj _ _ st7)
      refine thnF (pg _ s7 _ H7 x u _ I7' r7 (step x H7 y7)) fun _ s8 ⟨σ8, H8, I8, hw8, q8⟩ => ?_
      refine thnF (pt _ s8 σ8 H8 _ I8 q8) fun b s9 ⟨H9, I9, q9⟩ => ?_
      -- the turn's end
      have fin : ∀ {s' : Shared} {H' : Hp}, Inv (X.blk s3 H3 scope ce fp) ([] ++ pinsAt fp s7.heap) σ8 H' s' → Nx H' → ∃ m, m < n ∧ ∃ i H', Inv (X.blk s3 H3 scope ce fp) [] (wipe σ (own.map (·.2))) H' s' ∧ tn i s'.heap ∧ (∀ b ∈ fp, H' b = none) ∧ W i m H' := fun {s' H'} I' nx => by
        obtain ⟨m', hm, w'⟩ := hNx H' nx
        have pin' : ∀ b ∈ fp, ∀ o, s7.heap.get? b = some o → s'.heap.get? b = some o ∧ H' b = none := fun b hb o e =>
          let z := I'.pin (b, o) (List.mem_append_right _ (List.mem_append_right _ (mem_pinsAt hb e)))
          ⟨z.1, z.2.1⟩
        have hl : (wipe σ (own.map (·.2))).length = σ8.length := by rw [← hw8, wipe_length]
        refine ⟨m', hm, i + 1, H', (I'.unpinned (pins := [])).weak hl (fun j v e => ?_), T.keep _ _ _ st7 fun b hb o e => (pin' b hb o e).1, fun b hb => ?_, w'⟩
        · rw [← hw8] at e
          exact (wipe_some e).1
        · obtain ⟨o, e, _⟩ := T.obj _ _ st7 b hb
          exact (pin' b hb o e).2
      cases b with
      | false =>
        simp only [Bool.false_eq_true, if_false] at q9 ⊢
        exact fin I9 q9
      | true =>
        simp only [if_true] at q9 ⊢
        refine thnF (pe _ s9 σ8 H9 _ I9 q9) fun z s10 ⟨yv, H10, I10, r10, acc, hD10, hz10, nx⟩ => ?_
        exact app_ok (X := X.blk s3 H3 scope ce fp) I10 hD10 hz10 r10 fun s11 I11 => fin I11 nx
  exact codeAny_compStart_list loop (T.self X.A 0 _ _ _ st4 loop)
/-- as a value -/
theorem pe_lc {elt tg iter : Expr} {ifs : List Expr} {scope : Scope} {own : List (Str × Nat)} {pos : Pos} {wi : TI} {g : TG} {tt : TT} {te : TE} (hc : X.calm = true) (hN : X.N.Nodup) (hi : PI X tg iter wi) (ok : BlkOk X.N X.env.scope scope own)
    (hg : ∀ (s : Shared) (H : Hp) (C : Addr) (cl : List (Str × Addr)) (fp : List Addr), PG (X.blk s H scope (compEnvC scope cl C X.env) fp) tg g) (ht : ∀ (s : Shared) (H : Hp) (C : Addr) (cl : List (Str × Addr)) (fp : List Addr), PTs (X.blk s H scope (compEnvC scope cl C X.env) fp) ifs tt)
    (he : ∀ (s : Shared) (H : Hp) (C : Addr) (cl : List (Str × Addr)) (fp : List Addr), PE (X.blk s H scope (compEnvC scope cl C X.env) fp) elt te) (hs : ∀ x, foldedSetIterable iter X.env x = pure x := by intro _; rfl) :
    PE X (.ListComp elt [⟨tg, iter, ifs, 0⟩] scope pos) (tLc wi g tt te (own.map (·.2))) := by
  intro pins s σ H Q I h
  rw [eval_ListComp]
  refine lc_core hc hN I hi ok hg ht he hs h fun D C s' m H' I' q hn f => ⟨m, hn, fun h'' sb => ?_⟩
  obtain ⟨f0, f1, f2, f3, f4, f5⟩ := f
  exact ⟨.ref D, H', I'.turned (t' := s'.toks) (fun b o hb e => (sb.2 b hb).trans e) f0 f1 f3 f4 f5, rfl, q⟩
/-- name = [..] on one line, the name a local -/
theorem ps_setLc {i : Nat} {y : Str} {py : Pos} {elt tg iter : Expr} {ifs : List Expr} {scope : Scope} {own : List (Str × Nat)} {pos spos : Pos} {wi : TI} {g : TG} {tt : TT} {te : TE} (hc : X.calm = true) (hN : X.N.Nodup) (hy : X.N[i]? = some y) (hyl : X.env.scope.names.lookup y = some .local)
    (hsw : swapsWith (.ListComp elt [⟨tg, iter, ifs, 0⟩] scope pos) (some (.Name y py)) spos.line X.env = pure true) (hi : PI X tg iter wi) (ok : BlkOk X.N X.env.scope scope own)
    (hg : ∀ (s : Shared) (H : Hp) (C : Addr) (cl : List (Str × Addr)) (fp : List Addr), PG (X.blk s H scope (compEnvC scope cl C X.env) fp) tg g) (ht : ∀ (s : Shared) (H : Hp) (C : Addr) (cl : List (Str × Addr)) (fp : List Addr), PTs (X.blk s H scope (compEnvC scope cl C X.env) fp) ifs tt)
    (he : ∀ (s : Shared) (H : Hp) (C : Addr) (cl : List (Str × Addr)) (fp : List Addr), PE (X.blk s H scope (compEnvC scope cl C X.env) fp) elt te) (hs : ∀ x, foldedSetIterable iter X.env x = pure x := by intro _; rfl) :
    PS X (.Assign [.Name y py] (.ListComp elt [⟨tg, iter, ifs, 0⟩] scope pos) spos) (tAsg (tLc wi g tt te (own.map (·.2))) (gName i)) := by
  intro pins s σ H D I h
  rw [exec_Assign_Name_used _ _ _ _ hsw]
  refine wpAny_bind (wpAny_standAt (wpAny_bind ?_))
  show wpAny _ X.A (do let _ ← comprehension (.ListComp elt [⟨tg, iter, ifs, 0⟩] scope pos) scope X.env (firstIterPos [⟨tg, iter, ifs, 0⟩] pos) (newList []) false (eval iter X.env) (some (assign (.Name y py) X.env))) _ _ s
  have h : tLc wi g tt te (own.map (·.2)) σ H (fun x H1 => gName i x σ H1 D.nx) := h
  refine wpAny_bind (thn (lc_core (Qf := fun _ s' => SP X pins D .next s') hc hN I hi ok hg ht he hs h fun L C s' m H' I' q hn f => ?_) fun _ s' hq => wpAny_pure (wpAny_pure hq))
  show wpAny _ _ (assign (.Name y py) X.env (.ref L)) _ _ _
  refine wpAny_assign_Name (store_ok2 (v := V.ref L) I' hN hy (.inl hyl) rfl (fun s2 I2 ⟨a, sb, ha⟩ => ?_) (.inr hyl))
  obtain ⟨f0, f1, f2, f3, f4, f5⟩ := f
  have haC : C ≠ a := by
    rcases ha with z | z
    · rw [z]; exact f1
    · exact fun e => f4 y a z e.symm
  refine ⟨m, hn.sameBut sb haC, fun h3 sb3 => ?_⟩
  exact ⟨_, H', I2.turned (t' := s2.toks) (fun b o hb e => (sb3.2 b hb).trans e) f0 f1 f3 f4 f5, q⟩
theorem sw_true {elt : Expr} {gs : List Comprehension} {scope : Scope} {pos py : Pos} {y : Str} {l : Nat} {env : Env} (hk : env.scope.kind = .function) (hy : env.scope.names.lookup y = some .local) (hl : (py.line == pos.line) = true)
    (ha : (scope.names.any fun (n, k) => n == y && (k == .local || k == .cell)) = false) : swapsWith (.ListComp elt gs scope pos) (some (.Name y py)) l env = pure true := by
  have ky : env.kindOf y = some .local := hy
  have hb : env.blockKind = .function := by unfold Env.blockKind; rw [hk]; rfl
  unfold swapsWith
  simp only [hb, ky, ha, Expr.pos, hl]
  rfl
end
/-- over a range: Pv by the turn and the heap (the new list at D within) -/
theorem lc_range {lo : Int} {n : Nat} {g : TG} {tt : TT} {te : TE} {vs : List Nat} {σ : St} {H1 : Hp} {D : Addr} {Qd : Hp → Prop} (Pv : Nat → Hp → Prop) (h0 : Pv 0 (upd H1 D (.lst [])))
    (hs : ∀ i H, i < n → Pv i H → g (.int (lo + i)) (wipe σ vs) H fun σ2 H2 => wipe σ2 vs = wipe σ vs ∧ tt σ2 H2 fun b H3 =>
      if b = true then te σ2 H3 fun y H4 => ∃ acc, H4 D = some (.lst acc) ∧ acc.length < sizeLine ∧ Pv (i + 1) (upd H4 D (.lst (acc ++ [y]))) else Pv (i + 1) H3) (hd : ∀ H, Pv n H → Qd H) :
    ∃ W : Nat → Nat → Hp → Prop, (∃ m, W 0 m (upd H1 D (.lst []))) ∧ ∀ i m H, W i m H →
      ((Itr lo n).stop i H ∧ Qd H) ∨ ((Itr lo n).go i H ∧ ∃ Nx : Hp → Prop, (∀ H', Nx H' → ∃ m', m' < m ∧ W (i + 1) m' H') ∧ ∀ x H', (Itr lo n).yld i H x H' → g x (wipe σ vs) H' fun σ2 H2 => wipe σ2 vs = wipe σ vs ∧ tt σ2 H2 fun b H3 =>
        if b = true then te σ2 H3 fun y H4 => ∃ acc, H4 D = some (.lst acc) ∧ acc.length < sizeLine ∧ Nx (upd H4 D (.lst (acc ++ [y]))) else Nx H3) := by
  refine ⟨fun i m H => m = n - i ∧ i ≤ n ∧ Pv i H, ⟨n, by simp, Nat.zero_le _, h0⟩, ?_⟩
  rintro i m H ⟨rfl, hi, p⟩
  by_cases hlt : i < n
  · refine .inr ⟨hlt, Pv (i + 1), fun H' p' => ⟨n - (i + 1), by omega, rfl, hlt, p'⟩, fun x H' y => ?_⟩
    obtain ⟨e, y⟩ := y
    subst e y
    exact hs i _ hlt p
  · have e : i = n := by omega
    subst e
    exact .inl ⟨Nat.le_refl _, hd H p⟩
/-- over a list that the block leaves as it is -/
theorem lc_list {K : PySem.W.Frag} {a : Addr} {xs : List V} {g : TG} {tt : TT} {te : TE} {vs : List Nat} {σ : St} {H1 : Hp} {D : Addr} {Qd : Hp → Prop} (Pv : Nat → Hp → Prop) (h0 : Pv 0 (upd H1 D (.lst []))) (hl : ∀ i H, i ≤ xs.length → Pv i H → SqL K H a xs)
    (hs : ∀ i x H, xs[i]? = some x → Pv i H → g x (wipe σ vs) H fun σ2 H2 => wipe σ2 vs = wipe σ vs ∧ tt σ2 H2 fun b H3 =>
      if b = true then te σ2 H3 fun y H4 => ∃ acc, H4 D = some (.lst acc) ∧ acc.length < sizeLine ∧ Pv (i + 1) (upd H4 D (.lst (acc ++ [y]))) else Pv (i + 1) H3) (hd : ∀ H, Pv xs.length H → Qd H) :
    ∃ W : Nat → Nat → Hp → Prop, (∃ m, W 0 m (upd H1 D (.lst []))) ∧ ∀ i m H, W i m H →
      ((Itl K a).stop i H ∧ Qd H) ∨ ((Itl K a).go i H ∧ ∃ Nx : Hp → Prop, (∀ H', Nx H' → ∃ m', m' < m ∧ W (i + 1) m' H') ∧ ∀ x H', (Itl K a).yld i H x H' → g x (wipe σ vs) H' fun σ2 H2 => wipe σ2 vs = wipe σ vs ∧ tt σ2 H2 fun b H3 =>
        if b = true then te σ2 H3 fun y H4 => ∃ acc, H4 D = some (.lst acc) ∧ acc.length < sizeLine ∧ Nx (upd H4 D (.lst (acc ++ [y]))) else Nx H3) := by
  refine ⟨fun i m H => m = xs.length - i ∧ i ≤ xs.length ∧ Pv i H, ⟨xs.length, by simp, Nat.zero_le _, h0⟩, ?_⟩
  rintro i m H ⟨rfl, hi, p⟩
  have q := hl i H hi p
  by_cases hlt : i < xs.length
  · refine .inr ⟨⟨xs, xs[i], q, by simp [hlt]⟩, Pv (i + 1), fun H' p' => ⟨xs.length - (i + 1), by omega, rfl, hlt, p'⟩, fun x H' y => ?_⟩
    obtain ⟨e, y⟩ := y
    subst e
    exact hs i x _ (y xs q) p
  · have e : i = xs.length := by omega
    subst e
    exact .inl ⟨⟨xs, q, Nat.le_refl _⟩, hd H p⟩
/-- over a tuple -/
theorem lc_tup {K : PySem.W.Frag} {a : Addr} {xs : List V} {g : TG} {tt : TT} {te : TE} {vs : List Nat} {σ : St} {H1 : Hp} {D : Addr} {Qd : Hp → Prop} (Pv : Nat → Hp → Prop) (h0 : Pv 0 (upd H1 D (.lst []))) (hl : ∀ i H, i ≤ xs.length → Pv i H → SqT K H a xs)
    (hs : ∀ i x H, xs[i]? = some x → Pv i H → g x (wipe σ vs) H fun σ2 H2 => wipe σ2 vs = wipe σ vs ∧ tt σ2 H2 fun b H3 =>
      if b = true then te σ2 H3 fun y H4 => ∃ acc, H4 D = some (.lst acc) ∧ acc.length < sizeLine ∧ Pv (i + 1) (upd H4 D (.lst (acc ++ [y]))) else Pv (i + 1) H3) (hd : ∀ H, Pv xs.length H → Qd H) :
    ∃ W : Nat → Nat → Hp → Prop, (∃ m, W 0 m (upd H1 D (.lst []))) ∧ ∀ i m H, W i m H →
      ((Itt K a).stop i H ∧ Qd H) ∨ ((Itt K a).go i H ∧ ∃ Nx : Hp → Prop, (∀ H', Nx H' → ∃ m', m' < m ∧ W (i + 1) m' H') ∧ ∀ x H', (Itt K a).yld i H x H' → g x (wipe σ vs) H' fun σ2 H2 => wipe σ2 vs = wipe σ vs ∧ tt σ2 H2 fun b H3 =>
        if b = true then te σ2 H3 fun y H4 => ∃ acc, H4 D = some (.lst acc) ∧ acc.length < sizeLine ∧ Nx (upd H4 D (.lst (acc ++ [y]))) else Nx H3) := by
  refine ⟨fun i m H => m = xs.length - i ∧ i ≤ xs.length ∧ Pv i H, ⟨xs.length, by simp, Nat.zero_le _, h0⟩, ?_⟩
  rintro i m H ⟨rfl, hi, p⟩
  have q := hl i H hi p
  by_cases hlt : i < xs.length
  · refine .inr ⟨⟨xs, xs[i], q, by simp [hlt]⟩, Pv (i + 1), fun H' p' => ⟨xs.length - (i + 1), by omega, rfl, hlt, p'⟩, fun x H' y => ?_⟩
    obtain ⟨e, y⟩ := y
    subst e
    exact hs i x _ (y xs q) p
  · have e : i = xs.length := by omega
    subst e
    exact .inl ⟨⟨xs, q, Nat.le_refl _⟩, hd H p⟩
def blkC (N : List Str) (sc scope : Scope) (own : List (Str × Nat)) : Bool :=
  (match scope.kind with | .function => true | _ => false) && (scope.names.all fun y => decide (scope.names.lookup y.1 = some y.2)) && (own.all fun p => decide (N[p.2]? = some p.1)) &&
    (scope.names.all fun y => match y.2 with
      | .free => (match sc.names.lookup y.1 with | some .cell => true | some .free => true | _ => false)
      | .local => decide (y.1 ∈ own.map (·.1)) || decide (y.1 ∉ N)
      | .cell => decide (y.1 ∈ own.map (·.1)) || decide (y.1 ∉ N)
      | _ => true)
theorem blkOk_by {N : List Str} {sc scope : Scope} {own : List (Str × Nat)} (h : blkC N sc scope own = true) : BlkOk N sc scope own := by
  unfold blkC at h
  simp only [Bool.and_eq_true, List.all_eq_true, decide_eq_true_eq] at h
  obtain ⟨⟨⟨h1, h2⟩, h3⟩, h4⟩ := h
  refine ⟨?_, h2, h3, fun y hy e => ?_, fun y hy e => ?_⟩
  · split at h1
    · assumption
    · cases h1
  · have q := h4 y hy
    simp only [e] at q
    split at q <;> first | exact .inl (by assumption) | exact .inr (by assumption) | cases q
  · have q := h4 y hy
    rcases e with e | e <;> (simp only [e, Bool.or_eq_true, decide_eq_true_eq] at q; exact q)
end L2
namespace L2
open PySem PySem.Spec PyProof.Rows
end L2
namespace L2
open PySem PySem.Spec PyProof.Rows
section
variable {κ : Type} [DecidableEq κ]
def valV (kvs : List (κ × V)) (k : κ) : Option V := (kvs.find? fun kv => decide (kv.1 = k)).map (·.2)
/-- in its place, or at the end -/
def putK (kvs : List (κ × V)) (k : κ) (v : V) : List (κ × V) :=
  if (kvs.any fun kv => decide (kv.1 = k)) = true then kvs.map (fun kv => if kv.1 = k then (kv.1, v) else kv) else kvs ++ [(k, v)]
theorem valV_nil {k : κ} : valV ([] : List (κ × V)) k = none := rfl
theorem valV_pos {p : κ × V} {r : List (κ × V)} {k : κ} (e : p.1 = k) : valV (p :: r) k = some p.2 := by simp [valV, List.find?_cons, e]
theorem valV_neg {p : κ × V} {r : List (κ × V)} {k : κ} (e : ¬ p.1 = k) : valV (p :: r) k = valV r k := by simp [valV, List.find?_cons, e]
theorem valV_any (k : κ) : ∀ kvs : List (κ × V), (kvs.any fun kv => decide (kv.1 = k)) = (valV kvs k).isSome
  | [] => rfl
  | p :: r => by
    rw [List.any_cons]
    by_cases e : p.1 = k
    · simp only [valV_pos e, decide_eq_true e, Bool.true_or, Option.isSome_some]
    · rw [valV_neg e, decide_eq_false e, Bool.false_or]; exact valV_any k r
theorem valV_map (k j : κ) (y : V) : ∀ kvs : List (κ × V), valV (kvs.map fun kv => if kv.1 = k then (kv.1, y) else kv) j = (valV kvs j).map fun x => if j = k then y else x
  | [] => rfl
  | p :: r => by
    have ih := valV_map k j y r
    rw [List.map_cons]
    by_cases h : p.1 = k
    · rw [if_pos h]
      by_cases e : p.1 = j
      · rw [valV_pos (p := (p.1, y)) e, valV_pos e, Option.map_some, if_pos (e.symm.trans h)]
      · rw [valV_neg (p := (p.1, y)) e, valV_neg e, ih]
    · rw [if_neg h]
      by_cases e : p.1 = j
      · rw [valV_pos (p := p) e, valV_pos e, Option.map_some, if_neg (fun z => h (e.trans z))]
      · rw [valV_neg (p := p) e, valV_neg e, ih]
theorem valV_snoc (k j : κ) (y : V) : ∀ kvs : List (κ × V), valV kvs k = none → valV (kvs ++ [(k, y)]) j = if j = k then some y else valV kvs j
  | [], _ => by
    by_cases e : k = j
    · rw [if_pos e.symm]; exact valV_pos (p := (k, y)) e
    · rw [if_neg (fun z => e z.symm)]; exact valV_neg (p := (k, y)) e
  | p :: r, hn => by
    rw [List.cons_append]
    have hk : ¬ p.1 = k := fun z => by rw [valV_pos z] at hn; cases hn
    rw [valV_neg hk] at hn
    have ih := valV_snoc k j y r hn
    by_cases e : p.1 = j
    · rw [valV_pos e, valV_pos e, if_neg (fun z => hk (e.trans z))]
    · rw [valV_neg e, valV_neg e, ih]
theorem valV_put (kvs : List (κ × V)) (k j : κ) (y : V) : valV (putK kvs k y) j = if j = k then some y else valV kvs j := by
  unfold putK
  by_cases a : (kvs.any fun kv => decide (kv.1 = k)) = true
  · rw [if_pos a, valV_map]
    rw [valV_any] at a
    by_cases e : j = k
    · obtain ⟨x, hx⟩ := Option.isSome_iff_exists.mp a
      rw [if_pos e, e, hx, Option.map_some, if_pos rfl]
    · rw [if_neg e]
      cases valV kvs j with
      | none => rfl
      | some x => rw [Option.map_some, if_neg e]
  · rw [if_neg a]
    refine valV_snoc k j y kvs ?_
    rw [valV_any] at a
    cases q : valV kvs k with
    | none => rfl
    | some x => rw [q] at a; exact (a rfl).elim
theorem length_putK (kvs : List (κ × V)) (k : κ) (v : V) : (putK kvs k v).length ≤ kvs.length + 1 := by
  unfold putK
  split
  · rw [List.length_map]; omega
  · rw [List.length_append, List.length_cons, List.length_nil]; omega
theorem RelO.isSome_eq {o : Option V} {u : Option Value} (r : RelO o u) : o.isSome = u.isSome := by
  cases o with
  | none => cases u with
    | none => rfl
    | some _ => exact (show False from r).elim
  | some _ => cases u with
    | none => exact (show False from r).elim
    | some _ => rfl
end
theorem kV_is {P : Program} {w : World} {k : Key} {u : Value} (r : RelV (kV k) u) : (mixKind P w).is k u = true := by
  cases k with
  | inl i => obtain ⟨t, e⟩ := (show ∃ t, u = Value.int i t from r); subst e; exact mixKind_int P w i t
  | inr x => obtain ⟨t, e⟩ := (show ∃ t, u = Value.str x t from r); subst e; exact mixKind_str P w x t
theorem items_are {P : Program} {w : World} : ∀ {ks : List Key} {us : List Value}, Vals (ks.map kV) us → ItemsAre (mixKind P w) ks us
  | [], _, r => by rw [List.map_nil] at r; cases r; exact .nil
  | k :: ks, _, r => by
    rw [List.map_cons] at r
    cases r with
    | cons h t => exact .cons (kV_is h) (items_are t)
/-- raw entries of a dict with tuple keys -/
abbrev KT (H : Hp) : List (List Key × V) → List (List Key × Addr × Value) → Prop := Paired fun p q => p.1 = q.1 ∧ H q.2.1 = some (.tup (p.1.map kV)) ∧ RelV p.2 q.2.2
theorem KT.val {H : Hp} {kvs : List (List Key × V)} {xs : List (List Key × Addr × Value)} (r : KT H kvs xs) (k : List Key) : RelO (valV kvs k) ((atKey xs k).map (·.2)) := by
  induction r with
  | nil => exact True.intro
  | @cons p q ps qs h t ih =>
    obtain ⟨h1, _, h2⟩ := h
    by_cases e : p.1 = k
    · have e' : q.1 = k := h1.symm.trans e
      have b : atKey (q :: qs) k = some q.2 := by simp [atKey, List.find?_cons, e']
      rw [valV_pos e, b]; exact h2
    · have e' : ¬ q.1 = k := fun z => e (h1.trans z)
      have b : atKey (q :: qs) k = atKey qs k := by simp [atKey, List.find?_cons, e']
      rw [valV_neg e, b]; exact ih
theorem KT.repl {H : Hp} {kvs : List (List Key × V)} {xs : List (List Key × Addr × Value)} (r : KT H kvs xs) (k : List Key) {y : V} {u : Value} (ry : RelV y u) :
    KT H (kvs.map fun kv => if kv.1 = k then (kv.1, y) else kv) (xs.map (putAt k u)) := by
  induction r with
  | nil => exact .nil
  | @cons p q ps qs h t ih =>
    rw [List.map_cons, List.map_cons]
    refine .cons ?_ ih
    obtain ⟨h1, h2, h3⟩ := h
    unfold putAt
    by_cases e : p.1 = k
    · rw [if_pos e, if_pos (h1.symm.trans e)]; exact ⟨h1, h2, ry⟩
    · rw [if_neg e, if_neg (fun z => e (h1.trans z))]; exact ⟨h1, h2, h3⟩
theorem KT.put {H : Hp} {kvs : List (List Key × V)} {xs : List (List Key × Addr × Value)} (r : KT H kvs xs) (k : List Key) {b : Addr} {y : V} {u : Value} (hb : H b = some (.tup (k.map kV))) (ry : RelV y u) :
    KT H (putK kvs k y) (storedH xs k b u) := by
  have e : (kvs.any fun kv => decide (kv.1 = k)) = (atKey xs k).isSome := by
    rw [valV_any, (r.val k).isSome_eq, Option.isSome_map]
  unfold putK storedH
  rw [e]
  by_cases q : (atKey xs k).isSome = true
  · rw [if_pos q, if_pos q]; exact r.repl k ry
  · rw [if_neg q, if_neg q]; exact Paired.snoc r ⟨rfl, hb, ry⟩
theorem KT.keeps {H H' : Hp} {kvs : List (List Key × V)} {xs : List (List Key × Addr × Value)} (r : KT H kvs xs) (ht : ∀ b ys, H b = some (.tup ys) → H' b = some (.tup ys)) : KT H' kvs xs :=
  Paired.mapP r fun _ _ z => ⟨z.1, ht _ _ z.2.1, z.2.2⟩
section
variable {P : Program} {w : World} {H : Hp} {h : Heap} {a : Addr}
theorem rd_of {u : HO} (ok : HOk P w H h) (e : Rd H a u) : ObjOk P w H h a u := e.ok ok
/-- a tracked tuple of ints and texts is a key -/
theorem key_of {ks : List Key} (ok : HOk P w H h) (e : H a = some (.tup (ks.map kV))) : (tupleKind (mixKind P w)).is h ks a := by
  obtain ⟨_, its, r, o, h1, h2, n, h3⟩ := (show ObjOk P w H h a (.tup (ks.map kV)) from ok a _ e)
  exact ⟨o, its.toArray, n, h1, h2, h3, by simpa using items_are r⟩
theorem dt_rd {kvs : List (List Key × V)} (ok : HOk P w H h) (e : Rd H a (.dT kvs)) : kvs.length ≤ sizeLine ∧ (a == sysModules) = false ∧
    ∃ xs, KT H kvs xs ∧ h.DictOfH (tupleKind (mixKind P w)) a xs := by
  obtain ⟨z, y, xs, r, o, es, ep, h1, h2, h3, h4, h5⟩ := (show ObjOk P w H h a (.dT kvs) from rd_of ok e)
  refine ⟨z, y, xs, r, o, es, ep, h1, h2, h3, h4, fun x hx => ?_, h5⟩
  have all : ∀ {l : List (List Key × V)} {m : List (List Key × Addr × Value)}, KT H l m → ∀ x ∈ m, (tupleKind (mixKind P w)).is h x.1 x.2.1 := by
    intro l m q
    induction q with
    | nil => intro x hx; exact nomatch hx
    | @cons p q ps qs hq t ih =>
      intro x hx
      rcases List.mem_cons.mp hx with e | hx
      · subst e
        exact key_of ok (by rw [← hq.1]; exact hq.2.1)
      · exact ih x hx
  exact all r x hx
theorem dt_of {kvs : List (List Key × V)} (ok : HOk P w H h) (e : H a = some (.dT kvs)) : kvs.length ≤ sizeLine ∧ (a == sysModules) = false ∧
    ∃ xs, KT H kvs xs ∧ h.DictOfH (tupleKind (mixKind P w)) a xs := dt_rd ok (.inl e)
end
section
variable {X : Cx} {pins : List (Addr × Obj)} {σ : St} {H : Hp} {s : Shared} {a : Addr} {y v : V} {u r : Value} {o : Option V} {A : Around} {E : Value → Shared → Prop}
theorem Inv.big (I : Inv X pins σ H s) : sysModules < s.heap.objs.size := by
  have h : mainGlobals < s.heap.objs.size := (I.mod.glob.keeps I.bk).lt
  exact Nat.lt_trans (by decide) h
/-- a dict's object is replaced -/
theorem d_write {h' : Heap} {t' : Nat} {ob : HO} (I : Inv X pins σ H s) (mu : Mut (H a)) (hs : Heap.SameBut a s.heap h') (he : ∃ q, h'.get? a = some q) (new : ObjOk X.prog X.w (upd H a ob) h' a ob) :
    Inv X pins σ (upd H a ob) { s with heap := h', toks := t' } :=
  I.write (x := a) (e := a) mu (.inl rfl) (fun b q hb z => (hs.2 b hb).trans z) he new
end
theorem dt_empty {P : Program} {w : World} {H : Hp} (h : Heap) (hb : sysModules < h.objs.size) : ObjOk P w H (h.push { cls := .type "dict", data := .dict #[] }) h.objs.size (.dT []) :=
  ⟨Nat.zero_le _, beq_eq_false_iff_ne.mpr (Ne.symm (Nat.ne_of_lt hb)), [], .nil, _, #[], 0, Heap.get?_push_size _ rfl, ⟨rfl, rfl, rfl⟩, rfl, rfl, List.nodup_nil⟩
def tDNewT : TE := fun _ H Q => ∀ p, H p = none → Q (.ref p) (upd H p (.dT []))
section
variable {X : Cx} {pos : Pos}
theorem pe_dnewT : PE X (.Dict [] [] pos) tDNewT := fun pins s σ H Q I h =>
  wpAny_Dict_empty ⟨.ref s.heap.objs.size, _, I.laid (a := s.heap.objs.size) (o := .dT []) (t' := s.toks) (fun _ _ q => Heap.get?_push_of_some _ q) (Nat.le_refl _) (dt_empty s.heap I.big), rfl, h _ (I.hok.fresh (Nat.le_refl _))⟩
end
end L2
namespace L2
open PySem PySem.Spec PyProof.Rows
end L2
namespace L2
open PySem PySem.Spec PyProof.Rows
end L2
section 
namespace Bits
open PySem PyProof.Rows
end Bits
end 
section 
namespace TL
open PySem PySem.Builtin PySem.Builtin.Str PySem.StrLaws
end TL
end 
namespace L2
open PySem PySem.Spec PyProof.Rows
end L2
namespace L2
open PySem PySem.Spec PyProof.Rows
end L2
namespace Att
open PySem PySem.W PySem.Calls PyProof.Rows
end Att
namespace L2
open PySem PySem.Spec PyProof.Rows
end L2
namespace L2
open PySem PySem.Spec PyProof.Rows
end L2
namespace L2
open PySem PySem.Spec PyProof.Rows
def defArgs (s : Stmt) : Arguments := match s with
  | .FunctionDef _ a _ _ _ _ _ _ _ _ => a
  | _ => { posonlyargs := [], args := [], vararg := none, kwonlyargs := [], kw_defaults := [], kwarg := none, defaults := [] }
def defBody (s : Stmt) : List Stmt := match s with
  | .FunctionDef _ _ b _ _ _ _ _ _ _ => b
  | _ => []
def defScope (s : Stmt) : Scope := match s with
  | .FunctionDef _ _ _ _ _ _ sc _ _ _ => sc
  | _ => { kind := .function, names := [], isGenerator := false, isCoroutine := false }
abbrev CX0 : CXT := fun _ _ _ _ _ _ => False
abbrev E0 : XK := fun _ _ _ => False
theorem pass0 {X : Cx} : Passes CX0 X E0 := fun _ _ _ _ _ _ _ h => h.elim
structure Fun (K : PySem.W.Frag) (x qual : Str) (st : Stmt) (f : Addr) (fd : FuncData) : Prop where
  ex : ∃ (oc : Value) (od : Option Addr) (kV doc pm : Value) (an : Option Addr) (cdv ct : Value) (osl : Array (Option Value)),
    fd = PySem.W.fnOf x qual (defArgs st) (defBody st) (defScope st) .none kV doc pm an cdv ct ∧ K.lookup f = some ⟨oc, od, .func fd, osl⟩ ∧ PySem.W.codeIn K cdv qual = true
  kp : PySem.W.keepIn K (.ref f) = true
section
variable {P : Program} {w : World} {K : PySem.W.Frag} {mg : Str → Option Value} {base : Heap}
/-- THE RULE for a def: its body as a term of rules, and the reading of that term -/
theorem Fun.ok {x qual : Str} {st : Stmt} {f : Addr} {fd : FuncData} {N ps : List Str} {k : Nat} {sp : Sp} (F : Fun K x qual st f fd) (S : FnScope N ps (defScope st)) (len : ∀ vs H Q E, sp vs H Q E → vs.length = ps.length)
    (hbody : ∀ (cdv : Value) (A : Around) (outer : List Env) (s : Shared) (H : Hp) (vs : List V) (Q : VK) (E : XK), Room k (A.deeper (envOfC qual (defScope st) s.heap.objs.size f cdv)) → sp vs H Q E →
      ∃ t, PSs (cxOf CX0 P w K mg base N qual (defScope st) f cdv A outer s H E).nox (defBody st) t ∧ t { nx := fun _ H' => Q .non H', rt := Q } (start N vs) H) : FnOk P w K mg base CX0 (k + 1) f fd ps sp := by
  obtain ⟨oc, od, kV, doc, pm, an, cdv, ct, osl, rfl, lk, hcd⟩ := F.ex
  refine fn_of lk hcd S len fun A outer s H vs Q E hr hsp => ?_
  obtain ⟨t, h, q⟩ := hbody cdv A outer s H vs Q E hr hsp
  exact ⟨t, h.nox, q⟩
/-- how its arguments bind (no defaults): h is «fun _ _ _ _ _ _ us hl => match us, hl with | [_, _], _ => rfl», one _ a parameter -/
theorem Fun.binds {x qual : Str} {st : Stmt} {f : Addr} {fd : FuncData} {ps : List Str} (F : Fun K x qual st f fd)
    (h : ∀ (kV doc pm : Value) (an : Option Addr) (cdv ct : Value) (us : List Value), us.length = ps.length → bindArgs (PySem.W.fnOf x qual (defArgs st) (defBody st) (defScope st) .none kV doc pm an cdv ct) ⟨us, []⟩ = pure (ps.zip us)) : Binds K fd ps [] := by
  obtain ⟨oc, od, kV, doc, pm, an, cdv, ct, osl, rfl, lk, hcd⟩ := F.ex
  exact .all (h kV doc pm an cdv ct)
theorem fun_mk {x qual : Str} {st : Stmt} {f : Addr} {oc : Value} {od an : Option Addr} {osl : Array (Option Value)} {kV doc pm cdv ct : Value} (l : K.lookup f = some ⟨oc, od, .func (PySem.W.fnOf x qual (defArgs st) (defBody st) (defScope st) .none kV doc pm an cdv ct), osl⟩)
    (c : PySem.W.codeIn K cdv qual = true) (k : PySem.W.keepIn K (.ref f) = true) : Fun K x qual st f (PySem.W.fnOf x qual (defArgs st) (defBody st) (defScope st) .none kV doc pm an cdv ct) := ⟨⟨oc, od, kV, doc, pm, an, cdv, ct, osl, rfl, l, c⟩, k⟩
end
theorem hu_of {A : Around} {k : Nat} (hr : Room k A) : A.units + 1 < cLine := Nat.lt_of_le_of_lt (Nat.add_le_add_left (by decide : 1 ≤ 64) _) hr.units
section
variable {X : Cx}
theorem pv (i : Nat) {x : Str} {pos : Pos} (hN : X.N[i]? = some x := by rfl) (hv : Vis X.env.scope x := by first | exact Or.inl rfl | exact Or.inr (Or.inl rfl) | exact Or.inr (Or.inr rfl)) (hd : (x == ("__debug__" : Str)) = false := by decide)
    (hcd : (x == ("__classdict__" : Str)) = false := by decide) : PE X (.Name x pos) (tVar i) := pe_var hN hv hd hcd
end
theorem iteF {A B : Prop} (h : B) : if false = true then A else B := by
  rw [if_neg Bool.false_ne_true]
  exact h
theorem iteT {A B : Prop} (h : A) : if true = true then A else B := by
  rw [if_pos rfl]
  exact h
theorem ite2 {c A B : Prop} [Decidable c] (h1 : c → A) (h2 : ¬ c → B) : if c then A else B := by
  by_cases h : c
  · rw [if_pos h]
    exact h1 h
  · rw [if_neg h]
    exact h2 h
/-- all that was tracked is as it was -/
def Same (H H' : Hp) : Prop := ∀ b o, H b = some o → H' b = some o
theorem Same.refl (H : Hp) : Same H H := fun _ _ h => h
theorem Same.trans {H H1 H2 : Hp} (a : Same H H1) (b : Same H1 H2) : Same H H2 := fun c o h => b c o (a c o h)
theorem Same.free {H H' : Hp} (e : Same H H') {l : Addr} (h : H' l = Option.none) : H l = Option.none := by
  cases q : H l with
  | none => rfl
  | some o =>
    rw [e l o q] at h
    cases h
theorem Same.seq {K : PySem.W.Frag} {H H' : Hp} {a : Addr} {xs : List V} (e : Same H H') (h : SqL K H a xs) : SqL K H' a xs := by
  rcases h with (h | ⟨o, h⟩) | h
  · exact .inl (.inl (e _ _ h))
  · exact .inl (.inr ⟨o, e _ _ h⟩)
  · exact .inr h
theorem at_of {xs : List V} {z : Int} {j : Nat} {v : V} (e : z = (j : Int)) (h : xs[j]? = some v) : atI xs z = some v := by
  rw [e]
  exact atI_nat h
end L2
section
set_option Elab.async false
set_option linter.all false
set_option maxRecDepth 100000
set_option maxHeartbeats 2000000
namespace L2
open PySem PySem.Spec PyProof.Rows
open PySem.W (WData Codec OpenSpec Well WellAll ReadsW ReadsAllW)
mutual
/-- x stands for the datum d, lists and tuples all the way -/
inductive Dw (K : PySem.W.Frag) (H : Hp) : V → WData → Prop
  | non : Dw K H .non .none
  | bl (b : Bool) : Dw K H (.bl b) (.bool b)
  | int (i : Int) : Dw K H (.int i) (.int i)
  | str (x : Str) : Dw K H (.str x) (.str x)
  | byt (b : Array UInt8) : Dw K H (.byt b) (.bytes b.toList)
  | lst {a : Addr} {xs : List V} {ds : List WData} : SqL K H a xs → DwAll K H xs ds → Dw K H (.ref a) (.list ds)
  | tup {a : Addr} {xs : List V} {ds : List WData} : SqT K H a xs → DwAll K H xs ds → Dw K H (.ref a) (.tuple ds)
inductive DwAll (K : PySem.W.Frag) (H : Hp) : List V → List WData → Prop
  | nil : DwAll K H [] []
  | cons {v : V} {vs : List V} {d : WData} {ds : List WData} : Dw K H v d → DwAll K H vs ds → DwAll K H (v :: vs) (d :: ds)
end
theorem dw_ints {K : PySem.W.Frag} {H : Hp} : ∀ ns : List Int, DwAll K H (ns.map V.int) (ns.map WData.int)
  | [] => .nil
  | n :: r => .cons (.int n) (dw_ints r)
theorem ints_dw {K : PySem.W.Frag} {H : Hp} : ∀ (ns : List Int) (xs : List V), DwAll K H xs (ns.map WData.int) → xs = ns.map V.int
  | [], xs, h => by
    cases h
    rfl
  | n :: r, xs, h => by
    cases h with
    | cons h1 h2 =>
      cases h1
      rw [ints_dw r _ h2] <;> rfl
section
variable {P : Program} {w : World} {K : PySem.W.Frag} {H : Hp} {h : Heap} {R : PySem.W.WRecords} {cl : Str → Option Addr}
theorem sqL_at {a : Addr} {xs : List V} (hok : HOk P w H h) (KX : K.In h) (q : SqL K H a xs) : ∃ (its : List Value) (o : Obj) (n : Nat), Vals xs its ∧ h.get? a = some o ∧ o.cls = .type "list" ∧ o.data = .seq its.toArray n := by
  rcases q with q | ⟨o, its, n, e, hc, _, hd, _, hv⟩
  · obtain ⟨_, its, n, hv, e⟩ := (show ObjOk P w H h a (.lst xs) from q.ok hok)
    exact ⟨its, _, n, hv, e, rfl, rfl⟩
  · exact ⟨its.toList, o, n, hv, KX _ _ e, hc, by simp [hd]⟩
theorem sqT_at {a : Addr} {xs : List V} (hok : HOk P w H h) (KX : K.In h) (q : SqT K H a xs) : ∃ (its : List Value) (o : Obj) (n : Nat), Vals xs its ∧ h.get? a = some o ∧ o.cls = .type "tuple" ∧ o.data = .seq its.toArray n := by
  rcases q with q | ⟨o, its, n, e, hc, hd, _, hv⟩
  · obtain ⟨_, its, hv, o, e, hc, n, hd⟩ := (show ObjOk P w H h a (.tup xs) from q.ok hok)
    exact ⟨its, o, n, hv, e, hc, hd⟩
  · exact ⟨its.toList, o, n, hv, KX _ _ e, hc, by simp [hd]⟩
mutual
theorem Dw.reads (hok : HOk P w H h) (KX : K.In h) : ∀ (d : WData) (v : V) (u : Value), Dw K H v d → RelV v u → ∃ as, ReadsW R cl h u d as
  | .none, _, _, x, r => by
    cases x
    cases r
    exact ⟨_, ReadsW.none⟩
  | .bool b, _, _, x, r => by
    cases x
    cases r
    exact ⟨_, ReadsW.bool b⟩
  | .int i, _, _, x, r => by
    cases x
    obtain ⟨t, rfl⟩ := r
    exact ⟨_, ReadsW.int i t⟩
  | .str s, _, _, x, r => by
    cases x
    obtain ⟨t, rfl⟩ := r
    exact ⟨_, ReadsW.str s t⟩
  | .bytes b, _, _, x, r => by
    cases x
    obtain ⟨t, rfl⟩ := r
    exact ⟨_, ReadsW.bytes _ t⟩
  | .list ds, _, _, x, r => by
    cases x with
    | lst hs ha =>
      cases r
      obtain ⟨its, o, n, rv, ho, hc, hd⟩ := sqL_at hok KX hs
      obtain ⟨as, hr⟩ := Dw.readsAll hok KX ds _ its ha rv
      exact ⟨_, ReadsW.list ho hc hd hr⟩
  | .tuple ds, _, _, x, r => by
    cases x with
    | tup hs ha =>
      cases r
      obtain ⟨its, o, n, rv, ho, hc, hd⟩ := sqT_at hok KX hs
      obtain ⟨as, hr⟩ := Dw.readsAll hok KX ds _ its ha rv
      exact ⟨_, ReadsW.tuple ho hc hd hr⟩
  | .float _, _, _, x, _ => by cases x
  | .dict _, _, _, x, _ => by cases x
  | .bytearray _, _, _, x, _ => by cases x
  | .set _, _, _, x, _ => by cases x
  | .frozenset _, _, _, x, _ => by cases x
  | .obj _ _, _, _, x, _ => by cases x
theorem Dw.readsAll (hok : HOk P w H h) (KX : K.In h) : ∀ (ds : List WData) (vs : List V) (us : List Value), DwAll K H vs ds → Vals vs us → ∃ as, ReadsAllW R cl h us ds as
  | [], _, _, x, r => by
    cases x
    cases r
    exact ⟨_, ReadsAllW.nil⟩
  | d :: ds, _, _, x, r => by
    cases x with
    | cons h1 h2 =>
      cases r with
      | cons r1 r2 =>
        obtain ⟨as, q1⟩ := Dw.reads hok KX d _ _ h1 r1
        obtain ⟨bs, q2⟩ := Dw.readsAll hok KX ds _ _ h2 r2
        exact ⟨_, ReadsAllW.cons q1 q2⟩
end
end
mutual
/-- data that a codec tells -/
def plW : WData → Bool
  | .none => true
  | .bool _ => true
  | .int _ => true
  | .str _ => true
  | .bytes _ => true
  | .list xs => plWs xs
  | .tuple xs => plWs xs
  | _ => false
def plWs : List WData → Bool
  | [] => true
  | x :: r => plW x && plWs r
end
theorem plWs_map {α : Type} {f : α → WData} (h : ∀ a, plW (f a) = true) : ∀ l : List α, plWs (l.map f) = true
  | [] => rfl
  | x :: r => by
    show (plW (f x) && plWs (r.map f)) = true
    rw [h x, plWs_map h r] <;> rfl
theorem pl_enc : ∀ (c : Codec) (a : c.denote), plW (c.enc a) = true
  | .unit, _ => rfl
  | .bool, _ => rfl
  | .int _ _, _ => rfl
  | .nat _ _, _ => rfl
  | .u8, _ => rfl
  | .bytes _ _, _ => rfl
  | .text _ _ _ _, _ => rfl
  | .list _ _ c, a => plWs_map (fun x => pl_enc c x) a
  | .pair c d, a => by
    show (plW (c.enc a.1) && (plW (d.enc a.2) && true)) = true
    rw [pl_enc c a.1, pl_enc d a.2] <;> rfl
  | .triple c d e, a => by
    show (plW (c.enc a.1) && (plW (d.enc a.2.1) && (plW (e.enc a.2.2) && true))) = true
    rw [pl_enc c a.1, pl_enc d a.2.1, pl_enc e a.2.2] <;> rfl
  | .option c, none => rfl
  | .option c, some x => pl_enc c x
theorem pl_encAll : ∀ (cs : List Codec) (a : Codec.denoteAll cs), plWs (Codec.encAll cs a) = true
  | [], _ => rfl
  | c :: cs, a => by
    show (plW (c.enc a.1) && plWs (Codec.encAll cs a.2)) = true
    rw [pl_enc c a.1, pl_encAll cs a.2] <;> rfl
theorem weight_mem : ∀ {xs : List WData} {d : WData}, d ∈ xs → d.weight ≤ WData.weightAll xs
  | [], d, h => absurd h (by simp)
  | x :: r, d, h => by
    show d.weight ≤ x.weight + 1 + WData.weightAll r
    rcases List.mem_cons.mp h with e | m
    · rw [e]
      omega
    · have z := weight_mem m
      omega
def toV : Value → V
  | .none => .non
  | .bool b => .bl b
  | .int i _ => .int i
  | .str x _ => .str x
  | .bytes b _ => .byt b
  | .ref a => .ref a
  | _ => .non
/-- a value of the arguments, its objects among A -/
def OkU (A : List Addr) : Value → Prop
  | .none => True
  | .bool _ => True
  | .int _ _ => True
  | .str _ _ => True
  | .bytes _ _ => True
  | .ref a => a ∈ A
  | _ => False
theorem OkU.mono {A B : List Addr} (h : ∀ a ∈ A, a ∈ B) : ∀ {u : Value}, OkU A u → OkU B u := fun {u} x => by
  cases u with
  | ref a => exact h a x
  | none => trivial
  | bool b => trivial
  | int i t => trivial
  | str s t => trivial
  | bytes b t => trivial
  | _ => exact False.elim x
theorem relV_toV {A : List Addr} {u : Value} (x : OkU A u) : RelV (toV u) u := by
  cases u with
  | ref a => rfl
  | none => rfl
  | bool b => rfl
  | int i t => exact ⟨t, rfl⟩
  | str s t => exact ⟨t, rfl⟩
  | bytes b t => exact ⟨t, rfl⟩
  | _ => exact False.elim x
theorem vals_toV {A : List Addr} : ∀ {vs : List Value}, (∀ u ∈ vs, OkU A u) → Vals (vs.map toV) vs
  | [], _ => .nil
  | u :: r, h => .cons (relV_toV (h u (List.mem_cons_self ..))) (vals_toV fun x hx => h x (List.mem_cons_of_mem _ hx))
/-- an object of the arguments -/
def ArgOb (h : Heap) (A : List Addr) (a : Addr) : Prop := ∃ vs : List Value, vs.length ≤ sizeLine ∧ (∀ u ∈ vs, OkU A u) ∧
  (h.get? a = some { cls := .type "list", data := .seq vs.toArray } ∨ h.get? a = some { cls := .type "tuple", data := .seq vs.toArray })
theorem ArgOb.mono {h : Heap} {A B : List Addr} {a : Addr} (k : ∀ a ∈ A, a ∈ B) (x : ArgOb h A a) : ArgOb h B a := by
  obtain ⟨vs, h1, h2, h3⟩ := x
  exact ⟨vs, h1, fun u hu => (h2 u hu).mono k, h3⟩
theorem wellAll_len {P : Params} {h : Heap} : ∀ {vs : List Value} {ds : List WData}, WellAll P h vs ds → vs.length = ds.length
  | _, _, .nil => rfl
  | _, _, .cons _ b => by
    show _ + 1 = _ + 1
    rw [wellAll_len b]
theorem well_list {P : Params} {h : Heap} {v : Value} {ds : List WData} (x : Well P h v (.list ds)) : ∃ (a : Addr) (vs : List Value), v = .ref a ∧ h.get? a = some { cls := .type "list", data := .seq vs.toArray } ∧ WellAll P h vs ds := by
  cases x with
  | list ho hall => exact ⟨_, _, rfl, ho, hall⟩
theorem well_tuple {P : Params} {h : Heap} {v : Value} {ds : List WData} (x : Well P h v (.tuple ds)) : ∃ (a : Addr) (vs : List Value), v = .ref a ∧ h.get? a = some { cls := .type "tuple", data := .seq vs.toArray } ∧ WellAll P h vs ds := by
  cases x with
  | tuple ho hall => exact ⟨_, _, rfl, ho, hall⟩
theorem well_cons {P : Params} {h : Heap} {us : List Value} {d : WData} {ds : List WData} (x : WellAll P h us (d :: ds)) : ∃ (v : Value) (vs : List Value), us = v :: vs ∧ Well P h v d ∧ WellAll P h vs ds := by
  cases x with
  | cons a b => exact ⟨_, _, rfl, a, b⟩
theorem line_of {n : Nat} (h : n ≤ 1048576) : n ≤ sizeLine := Nat.le_trans h (by decide)
section
variable {P : Params} {h : Heap}
mutual
theorem area_one : ∀ (d : WData) (v : Value), Well P h v d → plW d = true → d.weight ≤ 1048576 → ∃ A : List Addr, OkU A v ∧ ∀ a ∈ A, ArgOb h A a
  | .none, _, x, _, _ => by
    cases x
    exact ⟨[], trivial, fun a m => absurd m (by simp)⟩
  | .bool b, _, x, _, _ => by
    cases x
    exact ⟨[], trivial, fun a m => absurd m (by simp)⟩
  | .int i, _, x, _, _ => by
    cases x
    exact ⟨[], trivial, fun a m => absurd m (by simp)⟩
  | .str s, _, x, _, _ => by
    cases x
    exact ⟨[], trivial, fun a m => absurd m (by simp)⟩
  | .bytes b, _, x, _, _ => by
    cases x
    exact ⟨[], trivial, fun a m => absurd m (by simp)⟩
  | .list ds, _, x, p, z => by
    obtain ⟨a, vs, rfl, ho, hall⟩ := well_list x
    have z2 : WData.weightAll ds ≤ 1048576 := z
    obtain ⟨A, h1, h2⟩ := area_all ds _ hall p fun d hd => Nat.le_trans (weight_mem hd) z2
    have k : ∀ b ∈ A, b ∈ a :: A := fun b hb => List.mem_cons_of_mem _ hb
    refine ⟨a :: A, List.mem_cons_self .., fun b hb => ?_⟩
    rcases List.mem_cons.mp hb with e | m
    · rw [e]
      exact ⟨vs, line_of (by rw [wellAll_len hall]; exact Nat.le_trans (PySem.W.length_le_weightAllW ds) z2), fun u hu => (h1 u hu).mono k, .inl ho⟩
    · exact (h2 b m).mono k
  | .tuple ds, _, x, p, z => by
    obtain ⟨a, vs, rfl, ho, hall⟩ := well_tuple x
    have z2 : WData.weightAll ds ≤ 1048576 := z
    obtain ⟨A, h1, h2⟩ := area_all ds _ hall p fun d hd => Nat.le_trans (weight_mem hd) z2
    have k : ∀ b ∈ A, b ∈ a :: A := fun b hb => List.mem_cons_of_mem _ hb
    refine ⟨a :: A, List.mem_cons_self .., fun b hb => ?_⟩
    rcases List.mem_cons.mp hb with e | m
    · rw [e]
      exact ⟨vs, line_of (by rw [wellAll_len hall]; exact Nat.le_trans (PySem.W.length_le_weightAllW ds) z2), fun u hu => (h1 u hu).mono k, .inr ho⟩
    · exact (h2 b m).mono k
  | .float _, _, _, p, _ => Bool.noConfusion (show false = true from p)
  | .dict _, _, _, p, _ => Bool.noConfusion (show false = true from p)
  | .bytearray _, _, _, p, _ => Bool.noConfusion (show false = true from p)
  | .set _, _, _, p, _ => Bool.noConfusion (show false = true from p)
  | .frozenset _, _, _, p, _ => Bool.noConfusion (show false = true from p)
  | .obj _ _, _, _, p, _ => Bool.noConfusion (show false = true from p)
theorem area_all : ∀ (ds : List WData) (vs : List Value), WellAll P h vs ds → plWs ds = true → (∀ d ∈ ds, d.weight ≤ 1048576) → ∃ A : List Addr, (∀ u ∈ vs, OkU A u) ∧ ∀ a ∈ A, ArgOb h A a
  | [], _, x, _, _ => by
    cases x
    exact ⟨[], fun u m => absurd m (by simp), fun a m => absurd m (by simp)⟩
  | d :: ds, _, x, p, z => by
    obtain ⟨v, vs, rfl, x1, x2⟩ := well_cons x
    have q : plW d = true ∧ plWs ds = true := Bool.and_eq_true_iff.mp p
    obtain ⟨A, a1, a2⟩ := area_one d v x1 q.1 (z d (List.mem_cons_self ..))
    obtain ⟨B, b1, b2⟩ := area_all ds vs x2 q.2 fun e he => z e (List.mem_cons_of_mem _ he)
    have kA : ∀ b ∈ A, b ∈ A ++ B := fun b hb => List.mem_append.mpr (.inl hb)
    have kB : ∀ b ∈ B, b ∈ A ++ B := fun b hb => List.mem_append.mpr (.inr hb)
    refine ⟨A ++ B, fun u hu => ?_, fun b hb => ?_⟩
    · rcases List.mem_cons.mp hu with e | m
      · rw [e]
        exact a1.mono kA
      · exact (b1 u m).mono kB
    · rcases List.mem_append.mp hb with m | m
      · exact (a2 b m).mono kA
      · exact (b2 b m).mono kB
end
end
/-- what is tracked of an argument's object -/
def hoOf (o : Obj) : Option HO := match o.data with
  | .seq vs _ => if (o.cls == Value.type "list") = true then some (.frz o (.lst (vs.toList.map toV))) else some (.frz o (.tup (vs.toList.map toV)))
  | _ => none
def argH (K : PySem.W.Frag) (h : Heap) (A : List Addr) : Hp := fun b => if b ∈ A then (if (K.lookup b).isNone = true then (h.get? b).bind hoOf else none) else none
/-- nothing is tracked but what is known to the object -/
def OnlyF (H : Hp) : Prop := ∀ b, H b = none ∨ ∃ o u, H b = some (.frz o u)
theorem hoOf_lst (vs : List Value) : hoOf { cls := .type "list", data := .seq vs.toArray } = some (.frz { cls := .type "list", data := .seq vs.toArray } (.lst (vs.map toV))) := by
  show (if (Value.type "list" == Value.type "list") = true then some (HO.frz { cls := .type "list", data := .seq vs.toArray } (.lst (vs.toArray.toList.map toV))) else some (HO.frz { cls := .type "list", data := .seq vs.toArray } (.tup (vs.toArray.toList.map toV)))) = _
  rw [if_pos (beq_self_eq_true _)]
theorem hoOf_tup (vs : List Value) : hoOf { cls := .type "tuple", data := .seq vs.toArray } = some (.frz { cls := .type "tuple", data := .seq vs.toArray } (.tup (vs.map toV))) := by
  show (if (Value.type "tuple" == Value.type "list") = true then some (HO.frz { cls := .type "tuple", data := .seq vs.toArray } (.lst (vs.toArray.toList.map toV))) else some (HO.frz { cls := .type "tuple", data := .seq vs.toArray } (.tup (vs.toArray.toList.map toV)))) = _
  rw [if_neg (by decide)]
section
variable {P : Program} {w : World} {K : PySem.W.Frag} {h : Heap} {A : List Addr}
theorem argH_at {b : Addr} {o : Obj} (hb : b ∈ A) (hk : K.lookup b = none) (e : h.get? b = some o) : argH K h A b = hoOf o := by
  unfold argH
  rw [if_pos hb, hk, if_pos (show (none : Option Obj).isNone = true from rfl), e] <;> rfl
theorem of_argH {b : Addr} {u : HO} (q : argH K h A b = some u) : b ∈ A ∧ K.lookup b = none := by
  unfold argH at q
  by_cases hb : b ∈ A
  · rw [if_pos hb] at q
    cases hk : K.lookup b with
    | none => exact ⟨hb, rfl⟩
    | some o =>
      rw [hk, if_neg (by simp)] at q
      cases q
  · rw [if_neg hb] at q
    cases q
/-- what stands tracked -/
theorem argH_is (ar : ∀ a ∈ A, ArgOb h A a) {b : Addr} {u : HO} (q : argH K h A b = some u) : K.lookup b = none ∧ ∃ vs : List Value, vs.length ≤ sizeLine ∧ (∀ u ∈ vs, OkU A u) ∧
    ((h.get? b = some { cls := .type "list", data := .seq vs.toArray } ∧ u = .frz { cls := .type "list", data := .seq vs.toArray } (.lst (vs.map toV))) ∨
     (h.get? b = some { cls := .type "tuple", data := .seq vs.toArray } ∧ u = .frz { cls := .type "tuple", data := .seq vs.toArray } (.tup (vs.map toV)))) := by
  obtain ⟨hb, hk⟩ := of_argH q
  obtain ⟨vs, h1, h2, h3⟩ := ar b hb
  refine ⟨hk, vs, h1, h2, ?_⟩
  rcases h3 with e | e
  · rw [argH_at hb hk e, hoOf_lst] at q
    exact .inl ⟨e, (Option.some.inj q).symm⟩
  · rw [argH_at hb hk e, hoOf_tup] at q
    exact .inr ⟨e, (Option.some.inj q).symm⟩
theorem argH_only (ar : ∀ a ∈ A, ArgOb h A a) : OnlyF (argH K h A) := fun b => by
  cases q : argH K h A b with
  | none => exact .inl rfl
  | some u =>
    obtain ⟨_, vs, _, _, ⟨_, e⟩ | ⟨_, e⟩⟩ := argH_is ar q
    · exact .inr ⟨_, _, by rw [e]⟩
    · exact .inr ⟨_, _, by rw [e]⟩
theorem argH_ok (ar : ∀ a ∈ A, ArgOb h A a) : HOk P w (argH K h A) h := fun b u q => by
  obtain ⟨_, vs, h1, h2, ⟨e, rfl⟩ | ⟨e, rfl⟩⟩ := argH_is ar q
  · exact ⟨e, by rw [List.length_map]; exact h1, vs, _, vals_toV h2, e⟩
  · exact ⟨e, by rw [List.length_map]; exact h1, vs, vals_toV h2, _, e, rfl, _, rfl⟩
theorem seq_inj {c c' : Value} {vs us : List Value} (e : (some { cls := c, data := .seq vs.toArray } : Option Obj) = some { cls := c', data := .seq us.toArray }) : c = c' ∧ vs = us := by
  have e1 := Option.some.inj e
  have e2 : c = c' := congrArg Obj.cls e1
  have e3 : Data.seq vs.toArray = Data.seq us.toArray := congrArg Obj.data e1
  injection e3 with e4
  refine ⟨e2, ?_⟩
  have e5 := congrArg Array.toList e4
  simpa using e5
/-- a list argument -/
theorem argL (KX : K.In h) (ar : ∀ a ∈ A, ArgOb h A a) {a : Addr} {vs : List Value} (ha : a ∈ A) (e : h.get? a = some { cls := .type "list", data := .seq vs.toArray }) : (∀ u ∈ vs, OkU A u) ∧ SqL K (argH K h A) a (vs.map toV) := by
  obtain ⟨us, h1, h2, h3⟩ := ar a ha
  have hu : us = vs := by
    rcases h3 with q | q
    · rw [e] at q
      exact (seq_inj q).2.symm
    · rw [e] at q
      exact absurd (Value.type.inj (seq_inj q).1) (by decide)
  subst hu
  refine ⟨h2, ?_⟩
  cases hk : K.lookup a with
  | none => exact .inl (.inr ⟨_, by rw [argH_at ha hk e, hoOf_lst]⟩)
  | some o =>
    have e2 := KX a o hk
    rw [e] at e2
    obtain rfl := Option.some.inj e2
    exact .inr ⟨_, us.toArray, _, hk, rfl, rfl, rfl, by rw [List.size_toArray]; exact h1, by simpa using vals_toV h2⟩
theorem argT (KX : K.In h) (ar : ∀ a ∈ A, ArgOb h A a) {a : Addr} {vs : List Value} (ha : a ∈ A) (e : h.get? a = some { cls := .type "tuple", data := .seq vs.toArray }) : (∀ u ∈ vs, OkU A u) ∧ SqT K (argH K h A) a (vs.map toV) := by
  obtain ⟨us, h1, h2, h3⟩ := ar a ha
  have hu : us = vs := by
    rcases h3 with q | q
    · rw [e] at q
      exact absurd (Value.type.inj (seq_inj q).1) (by decide)
    · rw [e] at q
      exact (seq_inj q).2.symm
  subst hu
  refine ⟨h2, ?_⟩
  cases hk : K.lookup a with
  | none => exact .inl (.inr ⟨_, by rw [argH_at ha hk e, hoOf_tup]⟩)
  | some o =>
    have e2 := KX a o hk
    rw [e] at e2
    obtain rfl := Option.some.inj e2
    exact .inr ⟨_, us.toArray, _, hk, rfl, rfl, by rw [List.size_toArray]; exact h1, by simpa using vals_toV h2⟩
mutual
theorem dw_one {Pm : Params} (KX : K.In h) (ar : ∀ a ∈ A, ArgOb h A a) : ∀ (d : WData) (v : Value), Well Pm h v d → plW d = true → OkU A v → Dw K (argH K h A) (toV v) d
  | .none, _, x, _, _ => by
    cases x
    exact .non
  | .bool b, _, x, _, _ => by
    cases x
    exact .bl b
  | .int i, _, x, _, _ => by
    cases x
    exact .int i
  | .str s, _, x, _, _ => by
    cases x
    exact .str s
  | .bytes b, _, x, _, _ => by
    cases x
    have z := Dw.byt (K := K) (H := argH K h A) b.toArray
    exact z
  | .list ds, _, x, p, hu => by
    obtain ⟨a, vs, rfl, ho, hall⟩ := well_list x
    obtain ⟨h2, hs⟩ := argL KX ar hu ho
    exact .lst hs (dw_all KX ar ds _ hall p h2)
  | .tuple ds, _, x, p, hu => by
    obtain ⟨a, vs, rfl, ho, hall⟩ := well_tuple x
    obtain ⟨h2, hs⟩ := argT KX ar hu ho
    exact .tup hs (dw_all KX ar ds _ hall p h2)
  | .float _, _, _, p, _ => Bool.noConfusion (show false = true from p)
  | .dict _, _, _, p, _ => Bool.noConfusion (show false = true from p)
  | .bytearray _, _, _, p, _ => Bool.noConfusion (show false = true from p)
  | .set _, _, _, p, _ => Bool.noConfusion (show false = true from p)
  | .frozenset _, _, _, p, _ => Bool.noConfusion (show false = true from p)
  | .obj _ _, _, _, p, _ => Bool.noConfusion (show false = true from p)
theorem dw_all {Pm : Params} (KX : K.In h) (ar : ∀ a ∈ A, ArgOb h A a) : ∀ (ds : List WData) (vs : List Value), WellAll Pm h vs ds → plWs ds = true → (∀ u ∈ vs, OkU A u) → DwAll K (argH K h A) (vs.map toV) ds
  | [], _, x, _, _ => by
    cases x
    exact .nil
  | d :: ds, _, x, p, hu => by
    obtain ⟨v, vs, rfl, x1, x2⟩ := well_cons x
    have q : plW d = true ∧ plWs ds = true := Bool.and_eq_true_iff.mp p
    exact .cons (dw_one KX ar d v x1 q.1 (hu _ (List.mem_cons_self ..))) (dw_all KX ar ds vs x2 q.2 fun u m => hu u (List.mem_cons_of_mem _ m))
end
end
theorem spec_call {P : Program} {w : World} {K : PySem.W.Frag} {mg mb : Str → Option Value} {CX : CXT} {k : Nat} {fa : Addr} {fd : FuncData} {ps : List Str} {sp : Sp} {s₁ : Shared} {vals : List Value} {ds : List WData} {R : PySem.W.WRecords} {cl : Str → Option Addr} {d0 : WData}
    (KX : K.In s₁.heap) (hns : s₁.heap.Ns mainGlobals mg) (hb : s₁.heap.Ns builtinsNs mb) (hbb : ∀ x : Str, x ≠ "__name__" → mb x = bootBuiltins x) (hlim : s₁.heap.NoLimit) (hg : s₁.gens = #[])
    (hwl : WellAll w.params s₁.heap vals ds) (hpl : plWs ds = true) (hwt : ∀ d ∈ ds, d.weight ≤ 1048576) (hr : Room k callerA)
    (F : ∀ base : Heap, K.In base → base.Ns mainGlobals mg → FnOk P w K mg base CX k fa fd ps sp) (hbind : ∀ (s : Shared) (us : List Value), us.length = ps.length → BindsTo s fd ⟨us, []⟩ (ps.zip us)) (hlen : ds.length = ps.length)
    (hsp : ∀ (H : Hp) (xs : List V), OnlyF H → DwAll K H xs ds → sp xs H (fun v H' => Dw K H' v d0) fun _ _ _ => False)
    (hCX : ∀ H e s', CX [] H s₁ (fun _ _ _ => False) e s' → False) :
    codeAny (model P w) callerA (.call (.ref fa) ⟨vals, []⟩) (fun r s' => ∃ u as, r = .ok (.ret u) ∧ ReadsW R cl s'.heap u d0 as ∧ OldK s₁.heap s'.heap ∧ s'.os = s₁.os ∧ AllBare s'.gens) s₁ := by
  obtain ⟨A, ho, ar⟩ := area_all ds vals hwl hpl hwt
  have hO : OnlyF (argH K s₁.heap A) := argH_only ar
  have hok : HOk P w (argH K s₁.heap A) s₁.heap := argH_ok ar
  have hS := dw_all KX ar ds vals hwl hpl ho
  have hV := vals_toV ho
  have hK : ∀ b u, argH K s₁.heap A b = some u → K.lookup b = none := fun b u q => (argH_is ar q).1
  have noA : ∀ {b : Addr} {o : Obj} {es : Array DictEntry} {ep : Nat}, s₁.heap.get? b = some o → o.data = .dict es ep → argH K s₁.heap A b = none := fun {b o es ep} e d => by
    cases q : argH K s₁.heap A b with
    | none => rfl
    | some u =>
      obtain ⟨_, vs, _, _, ⟨e2, _⟩ | ⟨e2, _⟩⟩ := argH_is ar q
      · rw [e2] at e
        cases e
        have d' : Data.seq vs.toArray _ = Data.dict es ep := d
        cases d'
      · rw [e2] at e
        cases e
        have d' : Data.seq vs.toArray _ = Data.dict es ep := d
        cases d'
  generalize argH K s₁.heap A = H at hO hok hS hK noA
  have base_of : ∀ {b : Addr} {o : Obj}, s₁.heap.get? b = some o → H b = none → (hidT s₁.heap H).get? b = some o := fun e n => hidT_get e n
  have nsK : ∀ {b : Addr} {m : Str → Option Value}, s₁.heap.Ns b m → (hidT s₁.heap H).Ns b m := fun {b m} ⟨o, es, ep, e, d, r⟩ => ⟨o, es, ep, base_of e (noA e d), d, r⟩
  have nK : ∀ b o, K.lookup b = some o → H b = none := fun b o e => by
    cases q : H b with
    | none => rfl
    | some u =>
      rw [hK b u q] at e
      cases e
  have hKb : K.In (hidT s₁.heap H) := fun b o e => base_of (KX b o e) (nK b o e)
  have hM : Mod K mg (hidT s₁.heap H) := ⟨hKb, nsK hns, ⟨mb, nsK hb, hbb⟩, let ⟨mc, h1, h2⟩ := hlim; ⟨mc, nsK h1, h2⟩⟩
  have e0 : Env0 P w K mg (hidT s₁.heap H) callerA [] s₁ H := ⟨rfl, hM, fun b o e => of_hidT e, Nat.le_of_eq (hidT_size _ _), trivial, fun b hb => absurd (show b ∈ ([] : List Addr) from hb) (by simp), hok, .of_eq hg⟩
  have hl : vals.length = ps.length := by rw [wellAll_len hwl]; exact hlen
  refine codeAny_mono ((F _ hKb (nsK hns)).run callerA [] s₁ H ⟨vals, []⟩ vals (vals.map toV) _ _ hr e0 (hbind s₁ vals hl) hV (hsp H _ hO hS)) fun r s' x => ?_
  cases r with
  | error e => exact (hCX H e s' x).elim
  | ok fl =>
    cases fl with
    | next => exact False.elim x
    | brk => exact False.elim x
    | cont => exact False.elim x
    | ret u =>
      obtain ⟨v, H', os, bare, un, hok', r', q⟩ := x
      have kept : ∀ b o, s₁.heap.get? b = some o → s'.heap.get? b = some o := fun b o e => by
        cases q2 : H b with
        | none => exact un.keep b o e q2 (by intro z; exact absurd (show b ∈ ([] : List Addr) from z) (by simp)) (by simp)
        | some u2 =>
          rcases hO b with z | ⟨ob, u3, z⟩
          · rw [q2] at z
            cases z
          · have z2 := un.frzs b ob _ z
            obtain ⟨e1, _⟩ := hok b _ z
            obtain ⟨e2, _⟩ := hok' b _ z2
            rw [e] at e1
            cases e1
            exact e2
      have KX' : K.In s'.heap := fun b o e => kept b o (KX b o e)
      obtain ⟨as, hrd⟩ := Dw.reads (R := R) (cl := cl) hok' KX' d0 v u q r'
      exact ⟨u, as, rfl, hrd, OldK.of_keep kept, os, bare⟩
theorem layable_weight {ds : List WData} (h : WData.layableAll ds = true) : ∀ d ∈ ds, d.weight ≤ 1048576 := fun d hd =>
  (PySem.W.layableW_iff.mp (List.all_eq_true.mp h d hd)).2.2
theorem encAll_len : ∀ (cs : List Codec) (a : Codec.denoteAll cs), (Codec.encAll cs a).length = cs.length
  | [], _ => rfl
  | c :: cs, a => by
    show (Codec.encAll cs a.2).length + 1 = cs.length + 1
    rw [encAll_len cs a.2]
/-- the goal that k_headS leaves (case hc), from the promise of the row's def: whatever the arguments that the codecs let and the row asks for, the def gives what stands for enc (f ..) -/
theorem walk_spec {r : OpenSpec} {k : Nat} {q : Program} {loose : List Str} {XP : (Str → Option Value) → Heap → Prop} {YP : World → Heap → Prop} {d : DefRec} {K : Params → PySem.W.Frag} {CX : World → CXT} {ps : List Str} {sp : World → Sp}
    (hwell : r.wellSaid = true) (hdf : d.params.defaults = []) (hlen : r.args.length = ps.length) (hr : Room k callerA)
    (hY : ∀ (w : World) (h : Heap), YP w h → (K w.params).In h)
    (F : ∀ (w : World) (mg : Str → Option Value) (fa : Addr) (h : Heap), YP w h → (K w.params).In h → h.Ns mainGlobals mg → mg d.name = some (.ref fa) →
      ∃ fd : FuncData, (∀ (s : Shared) (us : List Value), us.length = ps.length → BindsTo s fd ⟨us, []⟩ (ps.zip us)) ∧
        ∀ base : Heap, (K w.params).In base → base.Ns mainGlobals mg → FnOk r.prog w (K w.params) mg base (CX w) k fa fd ps (sp w))
    (hsp : ∀ (w : World) (H : Hp) (xs : List V) (a : Codec.denoteAll r.args), OnlyF H → Codec.withinAll r.args a = true → Codec.app r.args r.asked a = true → DwAll (K w.params) H xs (Codec.encAll r.args a) →
      sp w xs H (fun v H' => Dw (K w.params) H' v (r.ret.enc (Codec.app r.args r.f a))) fun _ _ _ => False)
    (hCX : ∀ (w : World) (H : Hp) (s : Shared) (e : Value) (s' : Shared), CX w [] H s (fun _ _ _ => False) e s' → False) :
    PySem.W.WalkOS q loose XP YP r d [] (fun f vs => PySem.call f vs) := by
  intro w s_0 s₁ mg mb G Y fa o pm cd doc dV kV ho hd hcd hD hmg hg args vals as hpre hlay hrd hwl hlo
  obtain ⟨a, e1, e2⟩ := PySem.W.os_pre_some hpre
  obtain ⟨e3, hwi⟩ := Codec.encAll_of_decAll r.args args a e1
  subst e3
  have KX := hY w _ Y
  obtain ⟨fd, hb, hF⟩ := F w mg fa _ Y KX G.T.g hmg
  refine PySem.W.enter_call (codeAny_mono (spec_call (R := []) (cl := classAt s_0.heap) (d0 := r.ret.enc (Codec.app r.args r.f a)) KX G.T.g G.T.b G.T.builtins G.T.nolimit hg hwl (pl_encAll _ _) (layable_weight hlay) hr hF hb (by rw [encAll_len]; exact hlen)
    (fun H xs hO hS => hsp w H xs a hO hwi e2 hS) fun H e s' => hCX w H s₁ e s') fun r' s' hq => ?_)
  obtain ⟨u, as', rfl, h1, h2, h3, h4⟩ := hq
  exact ⟨.inl ⟨u, _, as', rfl, fun _ => rfl, h1, (OpenSpec.post_iff hwell hwi _ _).mpr rfl, fun z => Bool.noConfusion (show false = true from z)⟩, h2, h3, h4⟩
/-- the same where the promise hangs on the written part alone -/
theorem walk_specK {r : OpenSpec} {k : Nat} {q : Program} {loose : List Str} {XP : (Str → Option Value) → Heap → Prop} {YP : World → Heap → Prop} {d : DefRec} {K : Params → PySem.W.Frag} {CX : CXT} {ps : List Str} {sp : PySem.W.Frag → Sp}
    (hwell : r.wellSaid = true) (hdf : d.params.defaults = []) (hlen : r.args.length = ps.length) (hr : Room k callerA)
    (hY : ∀ (w : World) (h : Heap), YP w h → (K w.params).In h)
    (F : ∀ (w : World) (mg : Str → Option Value) (fa : Addr) (h : Heap), YP w h → (K w.params).In h → h.Ns mainGlobals mg → mg d.name = some (.ref fa) →
      ∃ fd : FuncData, (∀ (s : Shared) (us : List Value), us.length = ps.length → BindsTo s fd ⟨us, []⟩ (ps.zip us)) ∧
        ∀ base : Heap, (K w.params).In base → base.Ns mainGlobals mg → FnOk r.prog w (K w.params) mg base CX k fa fd ps (sp (K w.params)))
    (hsp : ∀ (K : PySem.W.Frag) (H : Hp) (xs : List V) (a : Codec.denoteAll r.args), OnlyF H → Codec.withinAll r.args a = true → Codec.app r.args r.asked a = true → DwAll K H xs (Codec.encAll r.args a) →
      sp K xs H (fun v H' => Dw K H' v (r.ret.enc (Codec.app r.args r.f a))) fun _ _ _ => False)
    (hCX : ∀ (H : Hp) (s : Shared) (e : Value) (s' : Shared), CX [] H s (fun _ _ _ => False) e s' → False) :
    PySem.W.WalkOS q loose XP YP r d [] (fun f vs => PySem.call f vs) :=
  walk_spec (K := K) (CX := fun _ => CX) (sp := fun w => sp (K w.params)) hwell hdf hlen hr hY F (fun w H xs a h1 h2 h3 h4 => hsp (K w.params) H xs a h1 h2 h3 h4) fun _ H s e s' => hCX H s e s'
end L2
end

end
namespace MM
open Sw12

theorem between {dx dy ex ey : Int} (h : dx * ey = dy * ex) (h0 : 0 < dx) (h1 : 0 ≤ ex) (h2 : ex ≤ dx) :
    (0 ≤ dy → 0 ≤ ey ∧ ey ≤ dy) ∧ (dy ≤ 0 → dy ≤ ey ∧ ey ≤ 0) ∧ (ex = 0 → ey = 0) ∧ (ex = dx → ey = dy) := by
  refine ⟨fun hy => ⟨?_, ?_⟩, fun hy => ⟨?_, ?_⟩, fun he => ?_, fun he => ?_⟩
  · have : 0 ≤ dx * ey := by rw [h]; exact Int.mul_nonneg hy h1
    exact Int.nonneg_of_mul_nonneg_right this h0
  · have e : dx * (dy - ey) = dy * (dx - ex) := by grind
    have : 0 ≤ dx * (dy - ey) := by rw [e]; exact Int.mul_nonneg hy (by omega)
    have := Int.nonneg_of_mul_nonneg_right this h0
    omega
  · have e : dx * (ey - dy) = (-dy) * (dx - ex) := by grind
    have : 0 ≤ dx * (ey - dy) := by rw [e]; exact Int.mul_nonneg (by omega) (by omega)
    have := Int.nonneg_of_mul_nonneg_right this h0
    omega
  · have e : dx * (-ey) = (-dy) * ex := by grind
    have : 0 ≤ dx * (-ey) := by rw [e]; exact Int.mul_nonneg (by omega) (by omega)
    have := Int.nonneg_of_mul_nonneg_right this h0
    omega
  · subst he
    rw [Int.mul_zero] at h
    rcases Int.mul_eq_zero.mp h with z | z
    · omega
    · exact z
  · subst he
    have e : ex * (ey - dy) = 0 := by grind
    rcases Int.mul_eq_zero.mp e with z | z
    · omega
    · omega

def key (p : P) : Int := p.x * 36893488147419103232 + p.y
def Fits (p : P) : Prop := -9223372036854775808 ≤ p.x ∧ p.x ≤ 9223372036854775807 ∧ -9223372036854775808 ≤ p.y ∧ p.y ≤ 9223372036854775807

theorem key_inj {p q : P} (hp : Fits p) (hq : Fits q) (h : key p = key q) : p = q := by
  unfold key at h; unfold Fits at hp hq
  cases p; cases q
  simp only [P.mk.injEq] at *
  omega

theorem inBox_iff {a b q : P} : inBox a b q = true ↔ min a.x b.x ≤ q.x ∧ q.x ≤ max a.x b.x ∧ min a.y b.y ≤ q.y ∧ q.y ≤ max a.y b.y := by
  unfold inBox; simp

theorem box_key {p q r : P} (hp : Fits p) (hq : Fits q) (hr : Fits r) (h : turn p q r = 0) :
    isOn p q r = true ↔ (min (key p) (key q) ≤ key r ∧ key r ≤ max (key p) (key q)) := by
  unfold isOn
  rw [h]
  simp only [beq_self_eq_true, Bool.true_and, inBox_iff]
  unfold turn at h
  unfold Fits at hp hq hr
  unfold key
  obtain ⟨px, py⟩ := p
  obtain ⟨qx, qy⟩ := q
  obtain ⟨rx, ry⟩ := r
  dsimp only at *
  rcases Int.lt_trichotomy (qx - px) 0 with s | s | s
  · by_cases h1 : rx - px ≤ 0
    · by_cases h2 : qx - px ≤ rx - px
      · have := between (dx := -(qx - px)) (dy := qy - py) (ex := -(rx - px)) (ey := ry - py) (by grind) (by omega) (by omega) (by omega)
        omega
      · omega
    · omega
  · have : (qy - py) * (rx - px) = 0 := by
      rw [s] at h
      grind
    rcases Int.mul_eq_zero.mp this with z | z
    · omega
    · omega
  · by_cases h1 : 0 ≤ rx - px
    · by_cases h2 : rx - px ≤ qx - px
      · have := between (dx := (qx - px)) (dy := qy - py) (ex := (rx - px)) (ey := ry - py) (by grind) (by omega) (by omega) (by omega)
        omega
      · omega
    · omega

theorem dups_one {l : List P} {x : P} (h : ∀ y ∈ l, y = x) (n : l ≠ []) : l.eraseDups = [x] := by
  cases l with
  | nil => exact absurd rfl n
  | cons a r =>
    have ha : a = x := h a (by simp)
    subst ha
    rw [List.eraseDups_cons]
    have : r.filter (fun b => !b == a) = [] := by
      rw [List.filter_eq_nil_iff]
      intro y hy
      have := h y (by simp [hy])
      subst this
      simp
    rw [this]
    simp

theorem dups_pos {l : List P} {x : P} (h : x ∈ l) : 1 ≤ l.eraseDups.length := by
  cases l with
  | nil => cases h
  | cons a r => rw [List.eraseDups_cons]; simp

theorem dups_two {l : List P} {p q : P} (hp : p ∈ l) (hq : q ∈ l) (n : p ≠ q) : 2 ≤ l.eraseDups.length := by
  cases l with
  | nil => cases hp
  | cons a r =>
    rw [List.eraseDups_cons, List.length_cons]
    have : ∃ y, y ∈ r ∧ y ≠ a := by
      by_cases h : p = a
      · subst h
        refine ⟨q, ?_, fun z => n z.symm⟩
        simp only [List.mem_cons] at hq
        rcases hq with z | z
        · exact absurd z.symm n
        · exact z
      · refine ⟨p, ?_, h⟩
        simp only [List.mem_cons] at hp
        rcases hp with z | z
        · exact absurd z h
        · exact z
    obtain ⟨y, hy, ne⟩ := this
    have := dups_pos (l := r.filter (fun b => !b == a)) (x := y) (by simp [List.mem_filter, hy, ne])
    omega

/-- the ends that the other segment has -/
def ends (a b c d : P) : List P := (([a, b].filter fun (p : P) => isOn c d p) ++ ([c, d].filter fun (p : P) => isOn a b p))

theorem mem_ends {a b c d e : P} : e ∈ ends a b c d ↔ ((e = a ∨ e = b) ∧ isOn c d e = true) ∨ ((e = c ∨ e = d) ∧ isOn a b e = true) := by
  unfold ends; simp [List.mem_filter]

theorem meetOf_none {a b c d : P} (h : ∀ e, e ∉ ends a b c d) : meetOf a b c d = if sign (turn a b c) * sign (turn a b d) < 0 ∧ sign (turn c d a) * sign (turn c d b) < 0 then 1 else 0 := by
  have e : ends a b c d = [] := List.eq_nil_iff_forall_not_mem.mpr h
  unfold meetOf
  unfold ends at e
  rw [e]
  simp

theorem meetOf_one {a b c d x : P} (h : x ∈ ends a b c d) (u : ∀ y ∈ ends a b c d, y = x) : meetOf a b c d = 2 := by
  have e := dups_one u (List.ne_nil_of_mem h)
  unfold meetOf
  unfold ends at e
  rw [e]
  simp

theorem meetOf_two {a b c d x y : P} (h : x ∈ ends a b c d) (k : y ∈ ends a b c d) (n : x ≠ y) : meetOf a b c d = 3 := by
  have e := dups_two h k n
  unfold meetOf
  unfold ends at e
  exact if_pos e

/-- all on one line -/
theorem meet_line {a b c d : P} (ha : Fits a) (hb : Fits b) (hc : Fits c) (hd : Fits d)
    (h1 : turn a b c = 0) (h2 : turn a b d = 0) (h3 : turn c d a = 0) (h4 : turn c d b = 0) :
    meetOf a b c d = (if min (max (key a) (key b)) (max (key c) (key d)) < max (min (key a) (key b)) (min (key c) (key d)) then 0
      else if max (min (key a) (key b)) (min (key c) (key d)) = min (max (key a) (key b)) (max (key c) (key d)) then 2 else 3) := by
  have kc := box_key ha hb hc h1
  have kd := box_key ha hb hd h2
  have ka := box_key hc hd ha h3
  have kb := box_key hc hd hb h4
  have ea := @mem_ends a b c d a
  have eb := @mem_ends a b c d b
  have ec := @mem_ends a b c d c
  have ed := @mem_ends a b c d d
  have fit : ∀ y ∈ ends a b c d, Fits y ∧ (min (key a) (key b) ≤ key y ∧ key y ≤ max (key a) (key b)) ∧ (min (key c) (key d) ≤ key y ∧ key y ≤ max (key c) (key d)) := by
    intro y hy
    rw [mem_ends] at hy
    rcases hy with ⟨rfl | rfl, z⟩ | ⟨rfl | rfl, z⟩
    · exact ⟨ha, by omega, ka.mp z⟩
    · exact ⟨hb, by omega, kb.mp z⟩
    · exact ⟨hc, kc.mp z, by omega⟩
    · exact ⟨hd, kd.mp z, by omega⟩
  have wit : ∀ v : Int, (v = key a ∨ v = key b ∨ v = key c ∨ v = key d) → (min (key a) (key b) ≤ v ∧ v ≤ max (key a) (key b)) → (min (key c) (key d) ≤ v ∧ v ≤ max (key c) (key d)) → ∃ y, y ∈ ends a b c d ∧ key y = v := by
    intro v hv i1 i2
    rcases hv with rfl | rfl | rfl | rfl
    · exact ⟨a, mem_ends.mpr (.inl ⟨.inl rfl, ka.mpr i2⟩), rfl⟩
    · exact ⟨b, mem_ends.mpr (.inl ⟨.inr rfl, kb.mpr i2⟩), rfl⟩
    · exact ⟨c, mem_ends.mpr (.inr ⟨.inl rfl, kc.mpr i1⟩), rfl⟩
    · exact ⟨d, mem_ends.mpr (.inr ⟨.inr rfl, kd.mpr i1⟩), rfl⟩
  split
  · rename_i lt
    rw [meetOf_none]
    · rw [h1, h2, h3, h4]; decide
    · intro e he
      have := fit e he
      omega
  · rename_i nlt
    split
    · rename_i eq
      obtain ⟨y, hy, ky⟩ := wit (max (min (key a) (key b)) (min (key c) (key d))) (by omega) (by omega) (by omega)
      refine meetOf_one hy fun z hz => ?_
      have f1 := fit y hy
      have f2 := fit z hz
      exact key_inj f2.1 f1.1 (by omega)
    · obtain ⟨y, hy, ky⟩ := wit (max (min (key a) (key b)) (min (key c) (key d))) (by omega) (by omega) (by omega)
      obtain ⟨z, hz, kz⟩ := wit (min (max (key a) (key b)) (max (key c) (key d))) (by omega) (by omega) (by omega)
      refine meetOf_two hy hz fun e => ?_
      subst e
      omega

theorem prod_neg {F G v w : Int} (h : v * G = w * F) (s : v * w ≤ 0) (p : 0 < F * G) : v = 0 := by
  have e : v * v * (F * G) = (v * w) * (F * F) := by grind
  have n1 : 0 ≤ F * F := by
    rcases Int.le_total 0 F with z | z
    · exact Int.mul_nonneg z z
    · exact Int.mul_nonneg_of_nonpos_of_nonpos z z
  have n2 : (v * w) * (F * F) ≤ 0 := Int.mul_nonpos_of_nonpos_of_nonneg s n1
  have n3 : 0 ≤ v * v := by
    rcases Int.le_total 0 v with z | z
    · exact Int.mul_nonneg z z
    · exact Int.mul_nonneg_of_nonpos_of_nonpos z z
  have n4 : v * v * (F * G) = 0 := Int.le_antisymm (by rw [e]; exact n2) (Int.mul_nonneg n3 (by omega))
  rcases Int.mul_eq_zero.mp n4 with z | z
  · rcases Int.mul_eq_zero.mp z with z | z <;> exact z
  · omega

theorem mid_neg {u v q : Int} (h1 : min u v ≤ q) (h2 : q ≤ max u v) : (u - q) * (v - q) ≤ 0 := by
  rcases Int.lt_trichotomy (u - q) 0 with z | z | z
  · exact Int.mul_nonpos_of_nonpos_of_nonneg (by omega) (by omega)
  · rw [z]; simp
  · exact Int.mul_nonpos_of_nonneg_of_nonpos (by omega) (by omega)

theorem box_neg {a b q : P} (h : inBox a b q = true) : (a.x - q.x) * (b.x - q.x) ≤ 0 ∧ (a.y - q.y) * (b.y - q.y) ≤ 0 := by
  rw [inBox_iff] at h
  exact ⟨mid_neg h.1 h.2.1, mid_neg h.2.2.1 h.2.2.2⟩

theorem neg_between {u v q : Int} (h : (u - q) * (v - q) ≤ 0) : min u v ≤ q ∧ q ≤ max u v := by
  refine ⟨?_, ?_⟩
  · refine Decidable.byContradiction fun n => ?_
    have := Int.mul_pos (a := u - q) (b := v - q) (by omega) (by omega)
    omega
  · refine Decidable.byContradiction fun n => ?_
    have := Int.mul_pos_of_neg_of_neg (a := u - q) (b := v - q) (by omega) (by omega)
    omega

/-- who has an end upon the other segment is on no side of it -/
theorem on_sides {a b c d : P} (h : isOn c d a = true) : turn a b c * turn a b d ≤ 0 := by
  unfold isOn at h
  simp only [Bool.and_eq_true, beq_iff_eq] at h
  obtain ⟨t, i⟩ := h
  obtain ⟨n1, n2⟩ := box_neg i
  refine Decidable.byContradiction fun n => ?_
  have p : 0 < turn a b c * turn a b d := by omega
  have zx := prod_neg (v := c.x - a.x) (w := d.x - a.x) (F := turn a b c) (G := turn a b d) (by unfold turn at *; grind) n1 p
  have zy := prod_neg (v := c.y - a.y) (w := d.y - a.y) (F := turn a b c) (G := turn a b d) (by unfold turn at *; grind) n2 p
  have : turn a b c = 0 := by unfold turn; rw [zx, zy]; simp
  rw [this] at p
  simp at p

theorem four {a b c d : P} : turn a b c + turn c d a = turn a b d + turn c d b := by unfold turn; grind

theorem on_of {a b c d : P} (h1 : turn a b c = 0) (hp : turn c d a * turn c d b ≤ 0) (n : ¬ (turn c d a = 0 ∧ turn c d b = 0)) : isOn a b c = true := by
  unfold isOn
  rw [h1]
  simp only [beq_self_eq_true, Bool.true_and, inBox_iff]
  have key : ∀ v w : Int, v * turn c d b = w * turn c d a → v * w ≤ 0 := by
    intro v w e
    refine Decidable.byContradiction fun m => ?_
    have e2 : (v * w) * (turn c d a * turn c d a) = v * v * (turn c d a * turn c d b) := by grind
    have n3 : 0 ≤ v * v := by
      rcases Int.le_total 0 v with z | z
      · exact Int.mul_nonneg z z
      · exact Int.mul_nonneg_of_nonpos_of_nonpos z z
    have n4 : v * v * (turn c d a * turn c d b) ≤ 0 := Int.mul_nonpos_of_nonneg_of_nonpos n3 hp
    rw [← e2] at n4
    have fz : turn c d a = 0 := by
      refine Decidable.byContradiction fun f => ?_
      have : 0 < turn c d a * turn c d a := by
        rcases Int.lt_or_gt_of_ne f with z | z
        · exact Int.mul_pos_of_neg_of_neg z z
        · exact Int.mul_pos z z
      have := Int.mul_pos (show 0 < v * w by omega) this
      omega
    rw [fz, Int.mul_zero] at e
    rcases Int.mul_eq_zero.mp e with z | z
    · rw [z] at m; simp at m
    · exact n ⟨fz, z⟩
  have k1 := neg_between (key (a.x - c.x) (b.x - c.x) (by unfold turn at *; grind))
  have k2 := neg_between (key (a.y - c.y) (b.y - c.y) (by unfold turn at *; grind))
  exact ⟨k1.1, k1.2, k2.1, k2.2⟩

theorem par {px py vx vy wx wy : Int} (n : ¬ (px = 0 ∧ py = 0)) (h1 : px * vy = py * vx) (h2 : px * wy = py * wx) : vx * wy = vy * wx := by
  have e1 : px * (vx * wy - vy * wx) = 0 := by grind
  have e2 : py * (vx * wy - vy * wx) = 0 := by grind
  rcases Int.mul_eq_zero.mp e1 with z | z
  · rcases Int.mul_eq_zero.mp e2 with y | y
    · exact absurd ⟨z, y⟩ n
    · omega
  · omega

theorem ne_par {p q : P} (h : p ≠ q) : ¬ (q.x - p.x = 0 ∧ q.y - p.y = 0) := by
  intro z
  apply h
  cases p; cases q
  simp only [P.mk.injEq] at *
  omega

def Flat (a b c d : P) : Prop := turn a b c = 0 ∧ turn a b d = 0 ∧ turn c d a = 0 ∧ turn c d b = 0

theorem flat_of_pair {a b c d : P} (n : a ≠ b) (h1 : isOn c d a = true) (h2 : isOn c d b = true) : Flat a b c d := by
  unfold isOn at h1 h2
  simp only [Bool.and_eq_true, beq_iff_eq] at h1 h2
  obtain ⟨t1, i1⟩ := h1
  obtain ⟨t2, i2⟩ := h2
  by_cases e : c = d
  · exfalso
    subst e
    rw [inBox_iff] at i1 i2
    apply n
    cases a; cases b; cases c
    simp only [P.mk.injEq] at *
    omega
  · have z := par (ne_par e) (vx := a.x - c.x) (vy := a.y - c.y) (wx := b.x - c.x) (wy := b.y - c.y) (by unfold turn at t1; grind) (by unfold turn at t2; grind)
    have q : turn a b c = 0 := by unfold turn; grind
    have f := @four a b c d
    exact ⟨q, by omega, t1, t2⟩

theorem flat_of_mix {a b c d : P} (n : a ≠ c) (h1 : turn a b c = 0) (h2 : turn c d a = 0) : Flat a b c d := by
  have z := par (ne_par n) (vx := b.x - a.x) (vy := b.y - a.y) (wx := d.x - c.x) (wy := d.y - c.y) (by unfold turn at h1; grind) (by unfold turn at h2; grind)
  have q : turn a b d = 0 := by unfold turn at *; grind
  have f := @four a b c d
  exact ⟨h1, q, h2, by omega⟩

theorem isOn_turn {a b q : P} (h : isOn a b q = true) : turn a b q = 0 := by
  unfold isOn at h
  simp only [Bool.and_eq_true, beq_iff_eq] at h
  exact h.1

theorem turn_swap {a b c : P} : turn b a c = - turn a b c := by unfold turn; grind
theorem isOn_swap {a b q : P} : isOn b a q = isOn a b q := by
  rw [Bool.eq_iff_iff]
  unfold isOn
  simp only [Bool.and_eq_true, beq_iff_eq, inBox_iff, turn_swap (a := a) (b := b)]
  constructor <;> (intro h; refine ⟨by omega, by omega, by omega, by omega, by omega⟩)

theorem one_end {a b c d x y : P} (n : ¬ Flat a b c d) (hx : x ∈ ends a b c d) (hy : y ∈ ends a b c d) : y = x := by
  refine Decidable.byContradiction fun ne => n ?_
  have f := @four a b c d
  have s1 : turn b a c = - turn a b c := turn_swap
  have s2 : turn b a d = - turn a b d := turn_swap
  have s3 : turn d c a = - turn c d a := turn_swap
  have s4 : turn d c b = - turn c d b := turn_swap
  rw [mem_ends] at hx hy
  rcases hx with ⟨rfl | rfl, z⟩ | ⟨rfl | rfl, z⟩ <;> rcases hy with ⟨rfl | rfl, z'⟩ | ⟨rfl | rfl, z'⟩
  all_goals first
    | exact absurd rfl ne
    | exact flat_of_pair (fun e => ne e.symm) z z'
    | exact flat_of_pair ne z' z
    | (obtain ⟨p1, p2, p3, p4⟩ := flat_of_pair (fun e => ne e.symm) z z'; exact ⟨p3, p4, p1, p2⟩)
    | (obtain ⟨p1, p2, p3, p4⟩ := flat_of_pair ne z' z; exact ⟨p3, p4, p1, p2⟩)
    | skip
  all_goals
    have t := isOn_turn z
    have t' := isOn_turn z'
  · exact flat_of_mix (fun e => ne e.symm) t' t
  · obtain ⟨p1, p2, p3, p4⟩ := flat_of_mix (a := x) (b := b) (c := y) (d := c) (fun e => ne e.symm) t' (by omega)
    exact ⟨p2, p1, by omega, by omega⟩
  · obtain ⟨p1, p2, p3, p4⟩ := flat_of_mix (a := x) (b := a) (c := y) (d := d) (fun e => ne e.symm) (by omega) (by omega)
    exact ⟨by omega, by omega, by omega, by omega⟩
  · obtain ⟨p1, p2, p3, p4⟩ := flat_of_mix (a := x) (b := a) (c := y) (d := c) (fun e => ne e.symm) (by omega) (by omega)
    exact ⟨by omega, by omega, by omega, by omega⟩
  · obtain ⟨p1, p2, p3, p4⟩ := flat_of_mix (a := y) (b := b) (c := x) (d := d) ne t t'
    exact ⟨by omega, by omega, by omega, by omega⟩
  · obtain ⟨p1, p2, p3, p4⟩ := flat_of_mix (a := y) (b := a) (c := x) (d := d) ne (by omega) (by omega)
    exact ⟨by omega, by omega, by omega, by omega⟩
  · obtain ⟨p1, p2, p3, p4⟩ := flat_of_mix (a := y) (b := b) (c := x) (d := c) ne (by omega) (by omega)
    exact ⟨by omega, by omega, by omega, by omega⟩
  · obtain ⟨p1, p2, p3, p4⟩ := flat_of_mix (a := y) (b := a) (c := x) (d := c) ne (by omega) (by omega)
    exact ⟨by omega, by omega, by omega, by omega⟩

theorem sign_mul_pos {x y : Int} : 0 < sign x * sign y ↔ 0 < x * y := by
  unfold sign
  rcases Int.lt_trichotomy x 0 with a | a | a <;> rcases Int.lt_trichotomy y 0 with b | b | b
  all_goals (try subst a) <;> (try subst b)
  · have := Int.mul_pos_of_neg_of_neg a b
    simp [show ¬ 0 < x by omega, show ¬ 0 < y by omega, a, b, this]
  · simp
  · have := Int.mul_neg_of_neg_of_pos a b
    simp [show ¬ 0 < x by omega, a, b]; omega
  · simp
  · simp
  · simp
  · have := Int.mul_neg_of_pos_of_neg a b
    simp [show ¬ 0 < y by omega, a, b]; omega
  · simp
  · have := Int.mul_pos a b
    simp [a, b, this]

theorem sign_zero {x : Int} : sign x = 0 ↔ x = 0 := by
  unfold sign
  constructor
  · intro h
    split at h
    · omega
    · split at h <;> omega
  · intro h; subst h; rfl

/-- apart -/
theorem meet_apart1 {a b c d : P} (h : 0 < turn a b c * turn a b d) : meetOf a b c d = 0 := by
  have nz1 : turn a b c ≠ 0 := by intro z; rw [z] at h; simp at h
  have nz2 : turn a b d ≠ 0 := by intro z; rw [z] at h; simp at h
  rw [meetOf_none]
  · rw [if_neg]
    intro z
    have := sign_mul_pos.mpr h
    omega
  · intro e he
    rw [mem_ends] at he
    rcases he with ⟨rfl | rfl, z⟩ | ⟨rfl | rfl, z⟩
    · have := on_sides (b := b) z; omega
    · have := on_sides (b := a) z
      rw [turn_swap (a := a) (b := e), turn_swap (a := a) (b := e)] at this
      have e2 : -turn a e c * -turn a e d = turn a e c * turn a e d := by grind
      omega
    · exact nz1 (isOn_turn z)
    · exact nz2 (isOn_turn z)

theorem meetOf_comm {a b c d : P} : (∀ e, e ∉ ends c d a b) ↔ (∀ e, e ∉ ends a b c d) := by
  constructor
  all_goals
    intro h e he
    refine h e ?_
    rw [mem_ends] at he ⊢
    rcases he with z | z
    · exact .inr z
    · exact .inl z

theorem meet_apart2 {a b c d : P} (h : 0 < turn c d a * turn c d b) : meetOf a b c d = 0 := by
  have nz1 : turn c d a ≠ 0 := by intro z; rw [z] at h; simp at h
  have nz2 : turn c d b ≠ 0 := by intro z; rw [z] at h; simp at h
  rw [meetOf_none]
  · rw [if_neg]
    intro z
    have := sign_mul_pos.mpr h
    omega
  · intro e he
    rw [mem_ends] at he
    rcases he with ⟨rfl | rfl, z⟩ | ⟨rfl | rfl, z⟩
    · exact nz1 (isOn_turn z)
    · exact nz2 (isOn_turn z)
    · have := on_sides (b := d) z; omega
    · have := on_sides (b := c) z
      rw [turn_swap (a := c) (b := e), turn_swap (a := c) (b := e)] at this
      have e2 : -turn c e a * -turn c e b = turn c e a * turn c e b := by grind
      omega

theorem meet_touch {a b c d : P} (n : ¬ Flat a b c d) (h1 : turn a b c * turn a b d ≤ 0) (h2 : turn c d a * turn c d b ≤ 0)
    (z : turn a b c = 0 ∨ turn a b d = 0 ∨ turn c d a = 0 ∨ turn c d b = 0) : meetOf a b c d = 2 := by
  have f := @four a b c d
  have s1 : turn b a c = - turn a b c := turn_swap
  have s2 : turn b a d = - turn a b d := turn_swap
  have s3 : turn d c a = - turn c d a := turn_swap
  have s4 : turn d c b = - turn c d b := turn_swap
  have e1 : turn b a c * turn b a d = turn a b c * turn a b d := by rw [s1, s2]; grind
  have e2 : turn d c a * turn d c b = turn c d a * turn c d b := by rw [s3, s4]; grind
  have e3 : turn b a d * turn b a c = turn a b c * turn a b d := by rw [s1, s2]; grind
  have e4 : turn d c b * turn d c a = turn c d a * turn c d b := by rw [s3, s4]; grind
  unfold Flat at n
  have ex : ∃ x, x ∈ ends a b c d := by
    rcases z with z | z | z | z
    · exact ⟨c, mem_ends.mpr (.inr ⟨.inl rfl, on_of z h2 (by omega)⟩)⟩
    · exact ⟨d, mem_ends.mpr (.inr ⟨.inr rfl, on_of (d := c) z (by omega) (by omega)⟩)⟩
    · exact ⟨a, mem_ends.mpr (.inl ⟨.inl rfl, on_of z h1 (by omega)⟩)⟩
    · exact ⟨b, mem_ends.mpr (.inl ⟨.inr rfl, on_of (d := a) z (by omega) (by omega)⟩)⟩
  obtain ⟨x, hx⟩ := ex
  exact meetOf_one hx fun y hy => one_end n hx hy

theorem sign_mul_neg {x y : Int} (hx : x ≠ 0) (hy : y ≠ 0) (h : ¬ 0 < sign x * sign y) : sign x * sign y < 0 := by
  have a := mt sign_zero.mp hx
  have b := mt sign_zero.mp hy
  have c : sign x * sign y ≠ 0 := by
    intro z
    rcases Int.mul_eq_zero.mp z with z | z
    · exact a z
    · exact b z
  omega

theorem meet_cross {a b c d : P} (h1 : ¬ 0 < sign (turn a b c) * sign (turn a b d)) (h2 : ¬ 0 < sign (turn c d a) * sign (turn c d b))
    (z1 : turn a b c ≠ 0) (z2 : turn a b d ≠ 0) (z3 : turn c d a ≠ 0) (z4 : turn c d b ≠ 0) : meetOf a b c d = 1 := by
  rw [meetOf_none, if_pos ⟨sign_mul_neg z1 z2 h1, sign_mul_neg z3 z4 h2⟩]
  intro e he
  rw [mem_ends] at he
  rcases he with ⟨rfl | rfl, z⟩ | ⟨rfl | rfl, z⟩
  · exact z3 (isOn_turn z)
  · exact z4 (isOn_turn z)
  · exact z1 (isOn_turn z)
  · exact z2 (isOn_turn z)

/-- the program's way, from the signs -/
def byTurns (s1 s2 s3 s4 first last : Int) : Int :=
  if s1 = 0 ∧ s2 = 0 ∧ s3 = 0 ∧ s4 = 0 then (if last < first then 0 else if first = last then 2 else 3)
  else if 0 < s1 * s2 ∨ 0 < s3 * s4 then 0 else if s1 = 0 ∨ s2 = 0 ∨ s3 = 0 ∨ s4 = 0 then 2 else 1

theorem meetOf_eq {a b c d : P} (ha : Fits a) (hb : Fits b) (hc : Fits c) (hd : Fits d) :
    meetOf a b c d = byTurns (sign (turn a b c)) (sign (turn a b d)) (sign (turn c d a)) (sign (turn c d b))
      (max (min (key a) (key b)) (min (key c) (key d))) (min (max (key a) (key b)) (max (key c) (key d))) := by
  unfold byTurns
  split
  · rename_i h
    simp only [sign_zero] at h
    exact meet_line ha hb hc hd h.1 h.2.1 h.2.2.1 h.2.2.2
  · rename_i h
    have nf : ¬ Flat a b c d := by
      intro f; apply h; simp only [sign_zero]; exact f
    split
    · rename_i h2
      simp only [sign_mul_pos] at h2
      rcases h2 with z | z
      · exact meet_apart1 z
      · exact meet_apart2 z
    · rename_i h2
      split
      · rename_i h3
        simp only [sign_zero] at h3
        simp only [sign_mul_pos] at h2
        exact meet_touch nf (by omega) (by omega) h3
      · rename_i h3
        simp only [sign_zero] at h3
        exact meet_cross (fun z => h2 (.inl z)) (fun z => h2 (.inr z)) (fun z => h3 (.inl z)) (fun z => h3 (.inr (.inl z))) (fun z => h3 (.inr (.inr (.inl z)))) (fun z => h3 (.inr (.inr (.inr z))))
end MM

namespace HM
open Sw12

/-- the order of x, then y -/
def lexlt (a b : P) : Prop := a.x < b.x ∨ (a.x = b.x ∧ a.y < b.y)
theorem lexlt_trans {a b c : P} (h : lexlt a b) (k : lexlt b c) : lexlt a c := by
  unfold lexlt at *; omega
theorem lexlt_irrefl {a : P} : ¬ lexlt a a := by unfold lexlt; omega
theorem lexlt_ne {a b : P} (h : lexlt a b) : a ≠ b := by rintro rfl; exact lexlt_irrefl h
theorem P_ext {a b : P} (h : a.x = b.x) (k : a.y = b.y) : a = b := by cases a; cases b; simp only at *; subst h; subst k; rfl
theorem lex_tri (a b : P) : lexlt a b ∨ a = b ∨ lexlt b a := by
  unfold lexlt
  rcases Int.lt_trichotomy a.x b.x with h | h | h
  · omega
  · rcases Int.lt_trichotomy a.y b.y with k | k | k
    · omega
    · exact .inr (.inl (P_ext h k))
    · omega
  · omega

/-- a direction that goes up in that order -/
def Up (x y : Int) : Prop := 0 < x ∨ (x = 0 ∧ 0 < y)
theorem up_of {a b : P} (h : lexlt a b) : Up (b.x - a.x) (b.y - a.y) := by unfold lexlt Up at *; omega

theorem mul_nn {a b : Int} (h : 0 ≤ a) (k : 0 ≤ b) : 0 ≤ a * b := Int.mul_nonneg h k

/-- turning left and left again within half a turn is turning left -/
theorem cross_trans {ux uy vx vy wx wy : Int} (hu : Up ux uy) (hv : Up vx vy) (hw : Up wx wy) (h1 : 0 ≤ ux * vy - uy * vx) (h2 : 0 ≤ vx * wy - vy * wx) : 0 ≤ ux * wy - uy * wx := by
  unfold Up at *
  rcases hv with hv | ⟨hv, hv'⟩
  · have e : vx * (ux * wy - uy * wx) = (ux * vy - uy * vx) * wx + (vx * wy - vy * wx) * ux := by grind
    have n1 : 0 ≤ (ux * vy - uy * vx) * wx := mul_nn h1 (by omega)
    have n2 : 0 ≤ (vx * wy - vy * wx) * ux := mul_nn h2 (by omega)
    have : 0 ≤ vx * (ux * wy - uy * wx) := by rw [e]; omega
    exact Int.nonneg_of_mul_nonneg_right this hv
  · subst hv
    have w0 : wx = 0 := by
      have e : 0 * wy - vy * wx = vy * (-wx) := by grind
      rw [e] at h2
      have := Int.nonneg_of_mul_nonneg_right h2 hv'
      omega
    subst w0
    have : 0 ≤ ux * wy := mul_nn (by omega) (by omega)
    simp only [Int.mul_zero]
    omega
theorem ident_x (ux uy vx vy wx wy : Int) : vx * (ux * wy - uy * wx) = (ux * vy - uy * vx) * wx + (vx * wy - vy * wx) * ux := by grind
theorem ident_y (ux uy vx vy wx wy : Int) : vy * (ux * wy - uy * wx) = (ux * vy - uy * vx) * wy + (vx * wy - vy * wx) * uy := by grind
theorem zero_sum {a b u w : Int} (h : 0 = a * w + b * u) (ha : 0 < a) (hb : 0 ≤ b) (hu : 0 ≤ u) (hw : 0 < w) : False := by
  have := Int.mul_pos ha hw
  have := mul_nn hb hu
  omega
theorem cross_trans_l {ux uy vx vy wx wy : Int} (hu : Up ux uy) (hv : Up vx vy) (hw : Up wx wy) (h1 : 0 < ux * vy - uy * vx) (h2 : 0 ≤ vx * wy - vy * wx) : 0 < ux * wy - uy * wx := by
  have g := cross_trans hu hv hw (by omega) h2
  refine Decidable.byContradiction fun n => ?_
  have z : ux * wy - uy * wx = 0 := by omega
  have k1 := ident_x ux uy vx vy wx wy
  have k2 := ident_y ux uy vx vy wx wy
  rw [z, Int.mul_zero] at k1 k2
  unfold Up at hu hw
  rcases hw with hw | ⟨hw, hw'⟩
  · exact zero_sum k1 h1 h2 (by omega) hw
  · subst hw
    have ux0 : ux = 0 := by
      simp only [Int.mul_zero, Int.sub_zero] at z
      rcases Int.mul_eq_zero.mp z with q | q <;> omega
    exact zero_sum k2 h1 h2 (by omega) hw'
theorem cross_trans_r {ux uy vx vy wx wy : Int} (hu : Up ux uy) (hv : Up vx vy) (hw : Up wx wy) (h1 : 0 ≤ ux * vy - uy * vx) (h2 : 0 < vx * wy - vy * wx) : 0 < ux * wy - uy * wx := by
  have g := cross_trans hu hv hw h1 (by omega)
  refine Decidable.byContradiction fun n => ?_
  have z : ux * wy - uy * wx = 0 := by omega
  have k1 := ident_x ux uy vx vy wx wy
  have k2 := ident_y ux uy vx vy wx wy
  rw [z, Int.mul_zero, Int.add_comm] at k1 k2
  unfold Up at hu hw
  rcases hu with hu | ⟨hu, hu'⟩
  · exact zero_sum k1 h2 h1 (by omega) hu
  · subst hu
    have wx0 : wx = 0 := by
      simp only [Int.zero_mul, Int.zero_sub] at z
      have z' : uy * wx = 0 := by omega
      rcases Int.mul_eq_zero.mp z' with q | q <;> omega
    exact zero_sum k2 h2 h1 (by omega) hu'

/-! turns of points in order -/
theorem turn_def (a b c : P) : turn a b c = (b.x - a.x) * (c.y - a.y) - (b.y - a.y) * (c.x - a.x) := rfl
/-- p < q <= x, z: z right of pq, x left of it: x left of pz -/
theorem popped {p q z x : P} (hq : lexlt p q) (hz : lexlt p z) (hx : lexlt p x) (h1 : turn p q z ≤ 0) (h2 : 0 ≤ turn p q x) : 0 ≤ turn p z x := by
  have := cross_trans (up_of hz) (up_of hq) (up_of hx) (by unfold turn at h1; grind) (by unfold turn at h2; grind)
  unfold turn; grind
/-- x < t < z, s < t: left turn s t z, x left of st: x strictly left of tz -/
theorem behind {s t z x : P} (hs : lexlt s t) (hz : lexlt t z) (hx : lexlt x t) (h1 : 0 < turn s t z) (h2 : 0 ≤ turn s t x) : 0 < turn t z x := by
  have := cross_trans_r (up_of hx) (up_of hs) (up_of hz) (by unfold turn at h2; grind) (by unfold turn at h1; grind)
  unfold turn; grind
/-- p < q < r, q < z: left turns p q r and q r z: left turn p q z -/
theorem older {p q r z : P} (hp : lexlt p q) (hr : lexlt q r) (hz : lexlt q z) (h1 : 0 < turn p q r) (h2 : 0 < turn q r z) : 0 < turn p q z := by
  have := cross_trans_l (up_of hp) (up_of hr) (up_of hz) (by unfold turn at h1; grind) (by unfold turn at h2; grind)
  unfold turn; grind

/-! ### the next corner -/
def Next (l : List P) (p q : P) : Prop := q ∈ l ∧ q ≠ p ∧ ∀ x ∈ l, x = p ∨ x = q ∨ 0 < turn p q x ∨ (turn p q x = 0 ∧ square p x < square p q)
theorem turn_flip {a b c : P} : turn a c b = - turn a b c := by unfold turn; grind

theorem next_fold {p q : P} (hn : q ≠ p) : ∀ (l : List P) (c : P), (∀ x ∈ l, x = p ∨ x = q ∨ 0 < turn p q x ∨ (turn p q x = 0 ∧ square p x < square p q)) →
    (c = p ∨ c = q ∨ 0 < turn p q c ∨ (turn p q c = 0 ∧ square p c < square p q)) → (q ∈ l ∨ c = q) →
    l.foldl (fun (q x : P) => if q = p then x else if x = p then q else if turn p q x < 0 ∨ (turn p q x = 0 ∧ square p q < square p x) then x else q) c = q
  | [], c, _, _, h => by
    rcases h with h | h
    · cases h
    · exact h
  | y :: l, c, hl, hc, h => by
    rw [List.foldl_cons]
    have hy := hl y (by simp)
    have hl' : ∀ x ∈ l, x = p ∨ x = q ∨ 0 < turn p q x ∨ (turn p q x = 0 ∧ square p x < square p q) := fun x hx => hl x (by simp [hx])
    refine next_fold hn l _ hl' ?_ ?_
    · split
      · exact hy
      · split
        · exact hc
        · split
          · exact hy
          · exact hc
    · by_cases hq : q ∈ l
      · exact .inl hq
      · refine .inr ?_
        have h : c = q ∨ y = q := by
          rcases h with h | h
          · simp only [List.mem_cons] at h
            rcases h with h | h
            · exact .inr h.symm
            · exact absurd h hq
          · exact .inl h
        by_cases hcq : c = q
        · subst hcq
          rw [if_neg hn]
          split
          · rfl
          · rename_i hyp
            rw [if_neg]
            rcases hy with z | z | z | z
            · exact absurd z hyp
            · subst z; intro w; rcases w with w | w
              · have : turn p y y = 0 := by unfold turn; grind
                omega
              · omega
            · omega
            · omega
        · have hyq : y = q := by rcases h with h | h; exact absurd h hcq; exact h
          subst hyq
          split
          · rfl
          · rename_i hcp
            rw [if_pos]
            rw [turn_flip]
            rcases hc with z | z | z | z
            · exact absurd z hcp
            · exact absurd z hcq
            · omega
            · omega

theorem nextCorner_eq {l : List P} {p q : P} (h : Next l p q) : nextCorner l p = q := by
  unfold nextCorner
  exact next_fold h.2.1 l p h.2.2 (.inl rfl) (.inl h.1)

/-- a way of corners that comes back to the first -/
inductive Way (l : List P) (first : P) : P → List P → Prop
  | last {p : P} : Next l p first → Way l first p [p]
  | step {p q : P} {r : List P} : Next l p q → q ≠ first → Way l first q r → Way l first p (p :: r)

theorem corners_eq {l : List P} {first : P} : ∀ {p : P} {h : List P}, Way l first p h → ∀ f, h.length ≤ f → corners f l first p = h := by
  intro p h w
  induction w with
  | last n =>
    intro f hf
    cases f with
    | zero => simp at hf
    | succ f =>
      unfold corners
      rw [nextCorner_eq n]
      simp
  | @step p q r n ne w ih =>
    intro f hf
    cases f with
    | zero => simp at hf
    | succ f =>
      unfold corners
      rw [nextCorner_eq n]
      rw [if_neg]
      · rw [ih f (by simpa using hf)]
      · intro z
        rcases z with z | z
        · exact ne z
        · exact n.2.1 z

theorem nextCorner_self {p : P} : ∀ {l : List P}, (∀ x ∈ l, x = p) → nextCorner l p = p := by
  intro l h
  unfold nextCorner
  induction l with
  | nil => rfl
  | cons a l ih =>
    have ha : a = p := h a (by simp)
    subst ha
    rw [List.foldl_cons, if_pos rfl]
    exact ih fun x hx => h x (by simp [hx])
theorem corners_one {l : List P} {p : P} (h : ∀ x ∈ l, x = p) (f : Nat) : corners (f + 1) l p p = [p] := by
  unfold corners
  rw [nextCorner_self h]
  simp

/-! ### the first -/
theorem isLow_iff {a b : P} : isLow a b = true ↔ lexlt a b ∨ a = b := by
  unfold isLow lexlt
  constructor
  · intro h
    simp only [Bool.or_eq_true, decide_eq_true_eq, Bool.and_eq_true, beq_iff_eq] at h
    rcases h with h | h
    · omega
    · by_cases hy : a.y = b.y
      · exact .inr (P_ext h.1 hy)
      · exact .inl (.inr ⟨h.1, by omega⟩)
  · intro h
    simp only [Bool.or_eq_true, decide_eq_true_eq, Bool.and_eq_true, beq_iff_eq]
    rcases h with h | h
    · omega
    · subst h; omega
theorem low_fold {m : P} : ∀ (l : List P) (c : P), (∀ x ∈ l, lexlt m x ∨ x = m) → (lexlt m c ∨ c = m) → (m ∈ l ∨ c = m) → l.foldl (fun (a b : P) => if isLow b a = true then b else a) c = m
  | [], c, _, _, h => by
    rcases h with h | h
    · cases h
    · exact h
  | y :: l, c, hl, hc, h => by
    rw [List.foldl_cons]
    have hy := hl y (by simp)
    refine low_fold l _ (fun x hx => hl x (by simp [hx])) ?_ ?_
    · split
      · exact hy
      · exact hc
    · by_cases hm : m ∈ l
      · exact .inl hm
      · refine .inr ?_
        split
        · rename_i lo
          rw [isLow_iff] at lo
          rcases h with h | h
          · simp only [List.mem_cons] at h
            rcases h with h | h
            · exact h.symm
            · exact absurd h hm
          · subst h
            rcases lo with lo | lo
            · rcases hy with z | z
              · exact absurd (lexlt_trans lo z) lexlt_irrefl
              · exact z
            · exact lo
        · rename_i lo
          rw [isLow_iff] at lo
          rcases h with h | h
          · simp only [List.mem_cons] at h
            rcases h with h | h
            · subst h
              rcases hc with z | z
              · exact absurd (.inl z) lo
              · exact z
            · exact absurd h hm
          · exact h
theorem first_eq {l : List P} {m : P} (hm : m ∈ l) (h : ∀ x ∈ l, lexlt m x ∨ x = m) : l.foldl (fun (a b : P) => if isLow b a = true then b else a) (l.headD ⟨0, 0⟩) = m := by
  cases l with
  | nil => cases hm
  | cons a r =>
    refine low_fold _ _ h ?_ (.inl hm)
    exact h a (by simp)

/-- no more distinct members than the list is long -/
theorem nodup_len : ∀ {h l : List P}, h.Nodup → (∀ x ∈ h, x ∈ l) → h.length ≤ l.length
  | [], _, _, _ => Nat.zero_le _
  | a :: h, l, nd, sub => by
    rw [List.nodup_cons] at nd
    have ha := sub a (by simp)
    have := nodup_len (h := h) (l := l.erase a) nd.2 fun x hx => by
      have := sub x (by simp [hx])
      refine (List.mem_erase_of_ne ?_).mpr this
      rintro rfl
      exact nd.1 hx
    rw [List.length_erase_of_mem ha] at this
    have hp := List.length_pos_of_mem ha
    simp only [List.length_cons]
    omega

theorem hullOf_way {l h : List P} {m : P} (hm : m ∈ l) (hl : ∀ x ∈ l, lexlt m x ∨ x = m) (w : Way l m m h) (nd : h.Nodup) (sub : ∀ x ∈ h, x ∈ l) : hullOf l = h := by
  unfold hullOf
  simp only [first_eq hm hl]
  exact corners_eq w _ (Nat.le_succ_of_le (nodup_len nd sub))
theorem hullOf_one {l : List P} {m : P} (hm : m ∈ l) (hl : ∀ x ∈ l, x = m) : hullOf l = [m] := by
  unfold hullOf
  simp only [first_eq hm (fun x hx => .inr (hl x hx))]
  exact corners_one hl _
end HM

namespace SM
open Sw12 HM

/-- directions from growing x on to just before falling x -/
def Fwd (x y : Int) : Prop := 0 < y ∨ (y = 0 ∧ 0 < x)
theorem fwd_up {x y : Int} (h : Fwd x y) : Up y x := h
theorem fwd_trans {ux uy vx vy wx wy : Int} (hu : Fwd ux uy) (hv : Fwd vx vy) (hw : Fwd wx wy) (h1 : 0 ≤ ux * vy - uy * vx) (h2 : 0 ≤ vx * wy - vy * wx) : 0 ≤ ux * wy - uy * wx := by
  have := cross_trans (fwd_up hw) (fwd_up hv) (fwd_up hu) (by grind) (by grind)
  grind
theorem fwd_trans_l {ux uy vx vy wx wy : Int} (hu : Fwd ux uy) (hv : Fwd vx vy) (hw : Fwd wx wy) (h1 : 0 < ux * vy - uy * vx) (h2 : 0 ≤ vx * wy - vy * wx) : 0 < ux * wy - uy * wx := by
  have := cross_trans_r (fwd_up hw) (fwd_up hv) (fwd_up hu) (by grind) (by grind)
  grind
theorem fwd_trans_r {ux uy vx vy wx wy : Int} (hu : Fwd ux uy) (hv : Fwd vx vy) (hw : Fwd wx wy) (h1 : 0 ≤ ux * vy - uy * vx) (h2 : 0 < vx * wy - vy * wx) : 0 < ux * wy - uy * wx := by
  have := cross_trans_l (fwd_up hw) (fwd_up hv) (fwd_up hu) (by grind) (by grind)
  grind
theorem sq_same {ux uy vx vy : Int} (hu : Fwd ux uy) (hv : Fwd vx vy) (h : ux * vy - uy * vx = 0) (e : ux * ux + uy * uy = vx * vx + vy * vy) : ux = vx ∧ uy = vy := by
  refine Decidable.byContradiction fun n => ?_
  have key : ∀ {ax ay bx b_y : Int}, Up ax ay → Up bx b_y → ax * b_y - ay * bx = 0 → ax * ax + ay * ay = bx * bx + b_y * b_y → Up (ax - bx) (ay - b_y) → False := by
    intro ax ay bx b_y ha hb hz hq hd
    unfold Up at *
    rcases ha with ha | ⟨ha, ha'⟩
    · by_cases q : bx = ax
      · subst q
        have : bx * (b_y - ay) = 0 := by grind
        rcases Int.mul_eq_zero.mp this with z | z <;> omega
      · have k : (ax * ax) * (bx * bx + b_y * b_y) = (bx * bx) * (ax * ax + ay * ay) := by grind
        have l : bx * bx < ax * ax := by
          have e1 : ax * ax - bx * bx = (ax - bx) * (ax + bx) := by grind
          have := Int.mul_pos (a := ax - bx) (b := ax + bx) (by omega) (by omega)
          omega
        have pp : 0 < ax * ax + ay * ay := by
          have := Int.mul_pos ha ha
          have : 0 ≤ ay * ay := by
            rcases Int.le_total 0 ay with z | z
            · exact Int.mul_nonneg z z
            · exact Int.mul_nonneg_of_nonpos_of_nonpos z z
          omega
        rw [← hq] at k
        have := Int.mul_lt_mul_of_pos_right l pp
        omega
    · subst ha
      have v0 : bx = 0 := by omega
      subst v0
      have e1 : ay * ay - b_y * b_y = (ay - b_y) * (ay + b_y) := by grind
      have := Int.mul_pos (a := ay - b_y) (b := ay + b_y) (by omega) (by omega)
      omega
  have d : Up (uy - vy) (ux - vx) ∨ Up (vy - uy) (vx - ux) := by unfold Up; omega
  rcases d with d | d
  · exact key (fwd_up hu) (fwd_up hv) (by grind) (by omega) d
  · exact key (fwd_up hv) (fwd_up hu) (by grind) (by omega) d

/-- the direction of p from o, turned into the first half -/
def sg (o p : P) : Int := if half o p = 0 then 1 else -1
theorem half_cases (o p : P) : half o p = 0 ∨ half o p = 1 := by unfold half; split <;> simp
theorem fwd_of {o p : P} (h : p ≠ o) : Fwd (sg o p * (p.x - o.x)) (sg o p * (p.y - o.y)) := by
  unfold sg half Fwd
  by_cases q : o.y < p.y ∨ (p.y = o.y ∧ o.x < p.x)
  · rw [if_pos q]; simp; omega
  · rw [if_neg q]
    simp
    have : ¬ (p.x = o.x ∧ p.y = o.y) := fun z => h (P_ext z.1 z.2)
    omega
theorem sg_sq (o p : P) : sg o p * sg o p = 1 := by unfold sg; split <;> rfl
theorem sg_eq {o a b : P} (h : half o a = half o b) : sg o a = sg o b := by unfold sg; rw [h]
theorem cross_sg {s ax ay bx b_y : Int} (h : s * s = 1) : (s * ax) * (s * b_y) - (s * ay) * (s * bx) = ax * b_y - ay * bx := by
  have : (s * ax) * (s * b_y) - (s * ay) * (s * bx) = (s * s) * (ax * b_y - ay * bx) := by grind
  rw [this, h]; omega
theorem isSeen_iff {o a b : P} : isSeen o a b = true ↔ Seen o a b := by
  unfold isSeen Seen
  simp

theorem seen_total (o a b : P) : Seen o a b ∨ Seen o b a := by
  unfold Seen
  by_cases ha : a = o
  · exact .inl (.inl ha)
  · by_cases hb : b = o
    · exact .inr (.inl hb)
    · have e : turn o b a = - turn o a b := turn_flip
      rcases Nat.lt_trichotomy (half o a) (half o b) with h | h | h
      · exact .inl (.inr ⟨hb, .inl h⟩)
      · rcases Int.lt_trichotomy (turn o a b) 0 with t | t | t
        · exact .inr (.inr ⟨ha, .inr ⟨h.symm, .inl (by omega)⟩⟩)
        · rcases Int.le_total (square o a) (square o b) with q | q
          · exact .inl (.inr ⟨hb, .inr ⟨h, .inr ⟨t, q⟩⟩⟩)
          · exact .inr (.inr ⟨ha, .inr ⟨h.symm, .inr ⟨by omega, q⟩⟩⟩)
        · exact .inl (.inr ⟨hb, .inr ⟨h, .inl t⟩⟩)
      · exact .inr (.inr ⟨ha, .inl h⟩)

theorem seen_trans {o a b c : P} (h1 : Seen o a b) (h2 : Seen o b c) : Seen o a c := by
  unfold Seen at *
  by_cases ha : a = o
  · exact .inl ha
  · rcases h1 with h1 | ⟨hb, h1⟩
    · exact absurd h1 ha
    · rcases h2 with h2 | ⟨hc, h2⟩
      · exact absurd h2 hb
      · refine .inr ⟨hc, ?_⟩
        rcases h1 with h1 | ⟨e1, h1⟩
        · rcases h2 with h2 | ⟨e2, h2⟩
          · exact .inl (by omega)
          · exact .inl (by omega)
        · rcases h2 with h2 | ⟨e2, h2⟩
          · exact .inl (by omega)
          · refine .inr ⟨by omega, ?_⟩
            have fa := fwd_of ha
            have fb := fwd_of hb
            have fc := fwd_of hc
            rw [← sg_eq e1] at fb
            rw [← sg_eq e2, ← sg_eq e1] at fc
            have s := sg_sq o a
            have cab : turn o a b = (sg o a * (a.x - o.x)) * (sg o a * (b.y - o.y)) - (sg o a * (a.y - o.y)) * (sg o a * (b.x - o.x)) := (cross_sg s).symm
            have cbc : turn o b c = (sg o a * (b.x - o.x)) * (sg o a * (c.y - o.y)) - (sg o a * (b.y - o.y)) * (sg o a * (c.x - o.x)) := (cross_sg s).symm
            have cac : turn o a c = (sg o a * (a.x - o.x)) * (sg o a * (c.y - o.y)) - (sg o a * (a.y - o.y)) * (sg o a * (c.x - o.x)) := (cross_sg s).symm
            rcases h1 with h1 | ⟨z1, q1⟩
            · have := fwd_trans_l fa fb fc (by rw [← cab]; exact h1) (by rw [← cbc]; rcases h2 with w | w <;> omega)
              exact .inl (by rw [cac]; exact this)
            · rcases h2 with h2 | ⟨z2, q2⟩
              · have := fwd_trans_r fa fb fc (by rw [← cab]; omega) (by rw [← cbc]; exact h2)
                exact .inl (by rw [cac]; exact this)
              · have := fwd_trans fa fb fc (by rw [← cab]; omega) (by rw [← cbc]; omega)
                rw [← cac] at this
                by_cases zz : turn o a c = 0
                · exact .inr ⟨zz, by omega⟩
                · exact .inl (by omega)

theorem seen_anti {o a b : P} (h1 : Seen o a b) (h2 : Seen o b a) : a = b := by
  unfold Seen at *
  rcases h1 with h1 | ⟨hb, h1⟩
  · rcases h2 with h2 | ⟨ha, h2⟩
    · rw [h1, h2]
    · exact absurd h1 ha
  · rcases h2 with h2 | ⟨ha, h2⟩
    · exact absurd h2 hb
    · have e : turn o b a = - turn o a b := turn_flip
      have eh : half o a = half o b := by
        rcases h1 with h1 | ⟨h1, _⟩
        · rcases h2 with h2 | ⟨h2, _⟩ <;> omega
        · exact h1
      have h1' : 0 < turn o a b ∨ (turn o a b = 0 ∧ square o a ≤ square o b) := by
        rcases h1 with h1 | ⟨_, h1⟩
        · omega
        · exact h1
      have h2' : 0 < turn o b a ∨ (turn o b a = 0 ∧ square o b ≤ square o a) := by
        rcases h2 with h2 | ⟨_, h2⟩
        · omega
        · exact h2
      have z : turn o a b = 0 := by omega
      have q : square o a = square o b := by omega
      have fa := fwd_of ha
      have fb := fwd_of hb
      rw [← sg_eq eh] at fb
      have s := sg_sq o a
      have := sq_same fa fb (by rw [cross_sg s]; exact z) (by
        have e1 : ∀ x y : Int, (sg o a * x) * (sg o a * x) + (sg o a * y) * (sg o a * y) = (sg o a * sg o a) * (x * x + y * y) := by intro x y; grind
        rw [e1, e1, s]
        unfold square at q
        grind)
      have u : ∀ x y : Int, sg o a * x = sg o a * y → x = y := by
        intro x y h
        have := congrArg (sg o a * ·) h
        simp only [← Int.mul_assoc, s, Int.one_mul] at this
        exact this
      have u1 := u _ _ this.1
      have u2 := u _ _ this.2
      exact P_ext (by omega) (by omega)

theorem seenIn_perm (o p : P) : ∀ l : List P, (seenIn o p l).Perm (p :: l)
  | [] => .refl _
  | q :: l => by
    unfold seenIn
    split
    · exact .refl _
    · exact ((seenIn_perm o p l).cons q).trans (.swap p q l)
theorem seenIn_sorted (o p : P) : ∀ l : List P, l.Pairwise (Seen o) → (seenIn o p l).Pairwise (Seen o)
  | [], _ => by simp [seenIn]
  | q :: l, h => by
    unfold seenIn
    rw [List.pairwise_cons] at h
    split
    · rename_i hs
      rw [isSeen_iff] at hs
      rw [List.pairwise_cons, List.pairwise_cons]
      refine ⟨fun x hx => ?_, h.1, h.2⟩
      rcases List.mem_cons.mp hx with rfl | hx
      · exact hs
      · exact seen_trans hs (h.1 x hx)
    · rename_i hs
      rw [isSeen_iff] at hs
      rw [List.pairwise_cons]
      refine ⟨fun x hx => ?_, seenIn_sorted o p l h.2⟩
      have := (seenIn_perm o p l).mem_iff.mp hx
      rcases List.mem_cons.mp this with rfl | hx
      · rcases seen_total o x q with w | w
        · exact absurd w hs
        · exact w
      · exact h.1 x hx
theorem sorted_perm (o : P) : ∀ l : List P, (l.foldr (fun p s => seenIn o p s) []).Perm l ∧ (l.foldr (fun p s => seenIn o p s) []).Pairwise (Seen o)
  | [] => ⟨.refl _, by simp⟩
  | p :: l => by
    obtain ⟨h1, h2⟩ := sorted_perm o l
    rw [List.foldr_cons]
    exact ⟨(seenIn_perm o p _).trans (h1.cons p), seenIn_sorted o p _ h2⟩
theorem perm_unique {o : P} : ∀ {l m : List P}, l.Perm m → l.Pairwise (Seen o) → m.Pairwise (Seen o) → l = m
  | [], m, h, _, _ => by rw [List.nil_perm.mp h]
  | a :: l, [], h, _, _ => by simp at h
  | a :: l, b :: m, h, hl, hm => by
    have e : a = b := by
      have h1 : a ∈ b :: m := h.mem_iff.mp (by simp)
      have h2 : b ∈ a :: l := h.mem_iff.mpr (by simp)
      rw [List.pairwise_cons] at hl hm
      rcases List.mem_cons.mp h1 with q | q
      · exact q
      · rcases List.mem_cons.mp h2 with q2 | q2
        · exact q2.symm
        · exact seen_anti (hl.1 b q2) (hm.1 a q)
    subst e
    rw [perm_unique (List.Perm.cons_inv h) (List.pairwise_cons.mp hl).2 (List.pairwise_cons.mp hm).2]
/-- **around** is what is sorted, whoever sorts -/
theorem around_eq {o : P} {l m : List P} (h : m.Perm l) (hs : m.Pairwise (Seen o)) : l.foldr (fun p s => seenIn o p s) [] = m :=
  perm_unique ((sorted_perm o l).1.trans h.symm) (sorted_perm o l).2 hs

/-! ### the nearest two -/
def nearStep (l : List P) (b : Option (Nat × Nat)) (x : Nat × Nat) : Option (Nat × Nat) := match b with
  | none => some x
  | some y => if square (l.getD x.1 ⟨0, 0⟩) (l.getD x.2 ⟨0, 0⟩) < square (l.getD y.1 ⟨0, 0⟩) (l.getD y.2 ⟨0, 0⟩) then some x else b
def far (l : List P) (x : Nat × Nat) : Int := square (l.getD x.1 ⟨0, 0⟩) (l.getD x.2 ⟨0, 0⟩)
theorem near_pre {l : List P} {y : Nat × Nat} : ∀ (L : List (Nat × Nat)) (b : Option (Nat × Nat)), (∀ x ∈ L, far l y < far l x) → (∀ x, b = some x → far l y < far l x) → ∀ x, L.foldl (nearStep l) b = some x → far l y < far l x
  | [], b, _, hb, x, e => hb x e
  | z :: L, b, hL, hb, x, e => by
    rw [List.foldl_cons] at e
    refine near_pre L (nearStep l b z) (fun x hx => hL x (by simp [hx])) (fun w hw => ?_) x e
    unfold nearStep at hw
    cases b with
    | none => cases hw; exact hL _ (by simp)
    | some y' =>
      simp only at hw
      split at hw
      · cases hw; exact hL _ (by simp)
      · exact hb w hw
theorem near_post {l : List P} {y : Nat × Nat} : ∀ (L : List (Nat × Nat)), (∀ x ∈ L, far l y ≤ far l x) → L.foldl (nearStep l) (some y) = some y
  | [], _ => rfl
  | z :: L, hL => by
    rw [List.foldl_cons]
    have := hL z (by simp)
    have e : nearStep l (some y) z = some y := by
      unfold nearStep
      simp only
      rw [if_neg]
      unfold far at this
      omega
    rw [e]
    exact near_post L fun x hx => hL x (by simp [hx])
theorem near_first {l : List P} {y : Nat × Nat} {pre post : List (Nat × Nat)} (h1 : ∀ x ∈ pre, far l y < far l x) (h2 : ∀ x ∈ post, far l y ≤ far l x) : (pre ++ y :: post).foldl (nearStep l) none = some y := by
  rw [List.foldl_append, List.foldl_cons]
  have e : nearStep l (pre.foldl (nearStep l) none) y = some y := by
    cases q : pre.foldl (nearStep l) none with
    | none => rfl
    | some x =>
      have := near_pre pre none h1 (fun x e => nomatch e) x q
      unfold nearStep
      simp only
      rw [if_pos]
      exact this
  rw [e]
  exact near_post post h2

def pairsTo (n : Nat) : List (Nat × Nat) := (List.range n).flatMap fun (i : Nat) => (List.range n).filterMap fun (j : Nat) => if i < j then some (i, j) else none
theorem nearestOf_def (l : List P) : nearestOf l = (pairsTo l.length).foldl (nearStep l) none := rfl
theorem mem_pairs {n : Nat} {x : Nat × Nat} : x ∈ pairsTo n ↔ x.1 < x.2 ∧ x.2 < n := by
  unfold pairsTo
  rw [List.mem_flatMap]
  constructor
  · rintro ⟨i, hi, h⟩
    rw [List.mem_filterMap] at h
    obtain ⟨j, hj, e⟩ := h
    rw [List.mem_range] at hi hj
    split at e
    · cases e; exact ⟨by assumption, hj⟩
    · cases e
  · rintro ⟨h1, h2⟩
    refine ⟨x.1, List.mem_range.mpr (by omega), ?_⟩
    rw [List.mem_filterMap]
    exact ⟨x.2, List.mem_range.mpr h2, by rw [if_pos h1]⟩
theorem pairs_sorted (n : Nat) : (pairsTo n).Pairwise (fun x y => x.1 < y.1 ∨ (x.1 = y.1 ∧ x.2 < y.2)) := by
  unfold pairsTo
  rw [List.pairwise_flatMap]
  constructor
  · intro i _
    rw [List.pairwise_filterMap]
    refine List.pairwise_lt_range.imp ?_
    intro a b hab x hx y hy
    split at hx
    · split at hy
      · cases hx; cases hy; exact .inr ⟨rfl, hab⟩
      · cases hy
    · cases hx
  · refine List.pairwise_lt_range.imp ?_
    intro a b hab x hx y hy
    rw [List.mem_filterMap] at hx hy
    obtain ⟨j, _, e⟩ := hx
    obtain ⟨k, _, e'⟩ := hy
    split at e
    · split at e'
      · cases e; cases e'; exact .inl hab
      · cases e'
    · cases e
/-- **nearest** is the first of the smallest, whoever finds it -/
theorem nearest_eq {l : List P} {i j : Nat} (hij : i < j) (hj : j < l.length)
    (h : ∀ k m : Nat, k < m → m < l.length → far l (i, j) < far l (k, m) ∨ (far l (i, j) = far l (k, m) ∧ (i < k ∨ (i = k ∧ j ≤ m)))) : nearestOf l = some (i, j) := by
  rw [nearestOf_def]
  have hm : (i, j) ∈ pairsTo l.length := mem_pairs.mpr ⟨hij, hj⟩
  obtain ⟨pre, post, e⟩ := List.append_of_mem hm
  have hs := pairs_sorted l.length
  have hmem : ∀ x, x ∈ pre ++ (i, j) :: post → x.1 < x.2 ∧ x.2 < l.length := fun x hx => mem_pairs.mp (by rw [e]; exact hx)
  rw [e] at hs ⊢
  rw [List.pairwise_append, List.pairwise_cons] at hs
  refine near_first (fun x hx => ?_) (fun x hx => ?_)
  · have o := hs.2.2 x hx (i, j) (by simp)
    obtain ⟨a, b⟩ := hmem x (by simp [hx])
    have := h x.1 x.2 a b
    simp only at o
    rcases this with q | q
    · exact q
    · omega
  · obtain ⟨a, b⟩ := hmem x (by simp [hx])
    have := h x.1 x.2 a b
    show far l (i, j) ≤ far l (x.1, x.2)
    omega
end SM

namespace PM
open Sw12 Sw12Neutral

theorem many_iff {n : Int} {k : Nat} : many n k = true ↔ (k : Int) ≤ n ∧ n ≤ 4096 := by unfold many; simp
theorem many_no {n : Int} {k : Nat} (h : ¬ ((k : Int) ≤ n ∧ n ≤ 4096)) : many n k = false := by
  cases e : many n k with
  | false => rfl
  | true => exact absurd (many_iff.mp e) h
theorem pts_length (p : List Int) : (pts p).length = p.length / 2 := by unfold pts; simp
theorem pts_get {p : List Int} {i : Nat} (h : i < p.length / 2) : (pts p)[i]? = some ⟨p.getD (2 * i) 0, p.getD (2 * i + 1) 0⟩ := by
  unfold pts pt
  rw [List.getElem?_map, List.getElem?_range h]
  rfl
theorem pts_nil : pts [] = [] := rfl

theorem edges_length (l : List P) : (edges l).length = l.length := by
  unfold edges
  split
  · rfl
  · simp
theorem edges_get {l : List P} {i : Nat} {a b : P} (ha : l[i]? = some a) (hb : l[(i + 1) % l.length]? = some b) : (edges l)[i]? = some (a, b) := by
  unfold edges
  split
  · simp at ha
  · rename_i c r
    have hi : i < (c :: r).length := (List.getElem?_eq_some_iff.mp ha).1
    rw [List.getElem?_zip_eq_some]
    refine ⟨ha, ?_⟩
    simp only [List.length_cons] at hi hb
    by_cases e : i = r.length
    · subst e
      rw [Nat.mod_self] at hb
      rw [List.getElem?_append_right (by omega)]
      simpa using hb
    · rw [Nat.mod_eq_of_lt (by omega)] at hb
      rw [List.getElem?_append_left (by omega)]
      simpa using hb

theorem f_hull_no {n : Int} {p : List Int} (h : ¬ (1 ≤ n ∧ n ≤ 4096)) : PySw12.hull n p = [-2] := by
  unfold PySw12.hull Sw12Neutral.f
  simp only [Sw12Neutral.callOf, worked, many_no (k := 1) (by simpa using h), if_true, says]
  simp
theorem f_hull {n : Int} {p : List Int} (h : 1 ≤ n ∧ n ≤ 4096) : PySw12.hull n p = ((hullOf (pts p)).length : Int) :: (hullOf (pts p)).flatMap fun q => [q.x, q.y] := by
  have m : many n 1 = true := many_iff.mpr (by simpa using h)
  unfold PySw12.hull Sw12Neutral.f
  simp only [Sw12Neutral.callOf, worked, m, Bool.true_eq_false, if_false]
  rw [if_neg (by omega)]
  simp [Sw12Neutral.ints]
theorem f_area_no {n : Int} {p : List Int} (h : ¬ (1 ≤ n ∧ n ≤ 4096)) : PySw12.area n p = [-2] := by
  unfold PySw12.area Sw12Neutral.f
  simp only [Sw12Neutral.callOf, worked, many_no (k := 1) (by simpa using h), if_true, says]
  simp
theorem f_area {n : Int} {p : List Int} (h : 1 ≤ n ∧ n ≤ 4096) : PySw12.area n p = [0, area (pts p)] := by
  have m : many n 1 = true := many_iff.mpr (by simpa using h)
  unfold PySw12.area Sw12Neutral.f
  simp only [Sw12Neutral.callOf, worked, m, Bool.true_eq_false, if_false]
  simp [Sw12Neutral.ints]
theorem f_within_no {n : Int} {p q : List Int} (h : ¬ (1 ≤ n ∧ n ≤ 4096)) : PySw12.within n p q = [-2] := by
  unfold PySw12.within Sw12Neutral.f
  simp only [Sw12Neutral.callOf, worked, many_no (k := 1) (by simpa using h), if_true, says]
  simp
def withinOf (l : List P) (q : P) : Int := if (edges l).any (fun (e : P × P) => isOn e.1 e.2 q) = true then 2 else if odd l q = true then 1 else 0
theorem f_within {n : Int} {p q : List Int} (h : 1 ≤ n ∧ n ≤ 4096) : PySw12.within n p q = [withinOf (pts p) (pt q 0)] := by
  have m : many n 1 = true := many_iff.mpr (by simpa using h)
  unfold PySw12.within Sw12Neutral.f withinOf
  simp only [Sw12Neutral.callOf, worked, m, Bool.true_eq_false, if_false, says]
  split
  · simp [Sw12Neutral.ints]
  · split <;> simp [Sw12Neutral.ints]
theorem f_simple_no {n : Int} {p : List Int} (h : ¬ (1 ≤ n ∧ n ≤ 4096)) : PySw12.simple n p = [-2] := by
  unfold PySw12.simple Sw12Neutral.f
  simp only [Sw12Neutral.callOf, worked, many_no (k := 1) (by simpa using h), if_true, says]
  simp
theorem f_simple {n : Int} {p : List Int} (h : 1 ≤ n ∧ n ≤ 4096) : PySw12.simple n p = [if isSimple (pts p) = true then 1 else 0] := by
  have m : many n 1 = true := many_iff.mpr (by simpa using h)
  unfold PySw12.simple Sw12Neutral.f
  simp only [Sw12Neutral.callOf, worked, m, Bool.true_eq_false, if_false, says]
  split <;> simp [Sw12Neutral.ints]
theorem f_nearest_no {n : Int} {p : List Int} (h : ¬ (2 ≤ n ∧ n ≤ 4096)) : PySw12.nearest n p = [-2] := by
  unfold PySw12.nearest Sw12Neutral.f
  simp only [Sw12Neutral.callOf, worked, many_no (k := 2) (by simpa using h), if_true, says]
  simp
theorem f_nearest {n : Int} {p : List Int} {i j : Nat} (h : 2 ≤ n ∧ n ≤ 4096) (e : nearestOf (pts p) = some (i, j)) : PySw12.nearest n p = [0, (i : Int), (j : Int), SM.far (pts p) (i, j)] := by
  have m : many n 2 = true := many_iff.mpr (by simpa using h)
  unfold PySw12.nearest Sw12Neutral.f
  simp only [Sw12Neutral.callOf, worked, m, Bool.true_eq_false, if_false, e]
  simp [Sw12Neutral.ints, SM.far]
theorem f_around_no {n : Int} {o p : List Int} (h : ¬ (1 ≤ n ∧ n ≤ 4096)) : PySw12.around n o p = [-2] := by
  unfold PySw12.around Sw12Neutral.f
  simp only [Sw12Neutral.callOf, worked, many_no (k := 1) (by simpa using h), if_true, says]
  simp
theorem f_around {n : Int} {o p : List Int} {s : List P} (h : 1 ≤ n ∧ n ≤ 4096) (hp : s.Perm (pts p)) (hs : s.Pairwise (Seen (pt o 0))) : PySw12.around n o p = 0 :: s.flatMap fun q => [q.x, q.y] := by
  have m : many n 1 = true := many_iff.mpr (by simpa using h)
  unfold PySw12.around Sw12Neutral.f
  simp only [Sw12Neutral.callOf, worked, m, Bool.true_eq_false, if_false, SM.around_eq hp hs]
  simp [Sw12Neutral.ints]
end PM

namespace AM
open Sw12 Sw12Neutral

theorem take_snoc {α : Type} {l : List α} {i : Nat} {x : α} (h : l[i]? = some x) : l.take (i + 1) = l.take i ++ [x] := by
  rw [List.take_add_one, h]
  rfl
def cross (e : P × P) : Int := e.1.x * e.2.y - e.1.y * e.2.x
def part (l : List P) (i : Nat) : Int := (((edges l).take i).map cross).sum
theorem part_zero (l : List P) : part l 0 = 0 := rfl
theorem part_step {l : List P} {i : Nat} {a b : P} (ha : l[i]? = some a) (hb : l[(i + 1) % l.length]? = some b) : part l (i + 1) = part l i + a.x * b.y - a.y * b.x := by
  unfold part
  rw [take_snoc (PM.edges_get ha hb), List.map_append, List.sum_append]
  show _ + (a.x * b.y - a.y * b.x + 0) = _
  omega
theorem part_all (l : List P) : part l l.length = area l := by
  unfold part area
  rw [List.take_of_length_le (by rw [PM.edges_length]; exact Nat.le_refl _)]
  rfl
/-- the point at a place, by the two numbers -/
theorem pts_two {p : List Int} {n i : Nat} (hl : p.length = 2 * n) (hi : i < n) : ∃ x y : Int, p[2 * i]? = some x ∧ p[2 * i + 1]? = some y ∧ (pts p)[i]? = some ⟨x, y⟩ := by
  refine ⟨p[2 * i]'(by omega), p[2 * i + 1]'(by omega), List.getElem?_eq_getElem _, List.getElem?_eq_getElem _, ?_⟩
  rw [PM.pts_get (by omega), List.getD_eq_getElem?_getD, List.getD_eq_getElem?_getD, List.getElem?_eq_getElem (by omega), List.getElem?_eq_getElem (by omega)]
  rfl
theorem pts_len {p : List Int} {n : Nat} (hl : p.length = 2 * n) : (pts p).length = n := by
  rw [PM.pts_length, hl]
  omega
theorem asked_area {n : Int} {p : List Int} (h : PySw12.area_asked n p = true) (h1 : 1 ≤ n) (h2 : n ≤ 4096) : (p.length : Int) = 2 * n := by
  unfold PySw12.area_asked Sw12Neutral.asked at h
  simp only [List.all_cons, List.all_nil, Bool.and_true, Bool.and_eq_true] at h
  have q : (whole32 n && ((p.all (fun (z : Int) => whole64 z) && decide ((p.length : Int) = if 1 ≤ n ∧ n ≤ 4096 then 2 * n else 0)))) = true := h.1
  rw [Bool.and_eq_true, Bool.and_eq_true, decide_eq_true_eq, if_pos ⟨h1, h2⟩] at q
  exact q.2.2
theorem asked_hull {n : Int} {p : List Int} (h : PySw12.hull_asked n p = true) (h1 : 1 ≤ n) (h2 : n ≤ 4096) : (p.length : Int) = 2 * n := by
  unfold PySw12.hull_asked Sw12Neutral.asked at h
  simp only [List.all_cons, List.all_nil, Bool.and_true, Bool.and_eq_true] at h
  have q : (whole32 n && ((p.all (fun (z : Int) => whole64 z) && decide ((p.length : Int) = if 1 ≤ n ∧ n ≤ 4096 then 2 * n else 0)))) = true := h.1
  rw [Bool.and_eq_true, Bool.and_eq_true, decide_eq_true_eq, if_pos ⟨h1, h2⟩] at q
  exact q.2.2
end AM

namespace RM
open Sw12 Sw12Neutral

/-! ### a ring's edges, the one from the last to the first ahead -/
def edR (l : List P) : List (P × P) := (l.getLast?.toList ++ l).zip l
theorem edR_len (l : List P) : (edR l).length = l.length := by
  unfold edR
  rw [List.length_zip, List.length_append]
  omega
theorem edR_perm (l : List P) : (edR l).Perm (edges l) := by
  cases l with
  | nil => exact .refl _
  | cons a r =>
    obtain ⟨d, b, hd⟩ : ∃ d b, a :: r = d ++ [b] := ⟨(a :: r).dropLast, (a :: r).getLast (by simp), (List.dropLast_concat_getLast (by simp)).symm⟩
    have hl : d.length = r.length := by
      have := congrArg List.length hd
      simp at this
      omega
    have e1 : edges (a :: r) = d.zip r ++ [(b, a)] := by
      show (a :: r).zip (r ++ [a]) = _
      rw [hd, List.zip_append hl]
      rfl
    have e2 : edR (a :: r) = (b, a) :: d.zip r := by
      unfold edR
      have g : (a :: r).getLast? = some b := by rw [hd]; simp
      rw [g]
      show (b :: (a :: r)).zip (a :: r) = _
      rw [List.zip_cons_cons]
      congr 1
      rw [hd]
      have := List.zip_append (l₁ := d) (l₂ := r) (r₁ := [b]) (r₂ := []) hl
      rw [List.append_nil] at this
      rw [this]
      simp
    rw [e1, e2]
    exact (List.perm_append_singleton _ _).symm
/-- the point before: of the first the last -/
theorem prev_at {α : Type} {l : List α} {i : Nat} (h : i < l.length) : ∃ a, (l.getLast?.toList ++ l)[i]? = some a ∧ a ∈ l ∧ (i = 0 → l.getLast? = some a) ∧ (0 < i → l[i - 1]? = some a) := by
  cases l with
  | nil => simp at h
  | cons c r =>
    obtain ⟨b, hb⟩ : ∃ b, (c :: r).getLast? = some b := ⟨(c :: r).getLast (by simp), List.getLast?_eq_some_getLast (by simp)⟩
    rw [hb]
    cases i with
    | zero => exact ⟨b, rfl, List.mem_of_getLast? hb, fun _ => rfl, fun z => absurd z (by omega)⟩
    | succ k =>
      have hk : k < (c :: r).length := by omega
      refine ⟨(c :: r)[k], ?_, List.getElem_mem _, fun z => by omega, fun _ => ?_⟩
      · show (b :: (c :: r))[k + 1]? = _
        rw [List.getElem?_cons_succ, List.getElem?_eq_getElem hk]
      · show (c :: r)[k]? = _
        rw [List.getElem?_eq_getElem hk]
theorem edR_get {l : List P} {i : Nat} {a b : P} (ha : (l.getLast?.toList ++ l)[i]? = some a) (hb : l[i]? = some b) : (edR l)[i]? = some (a, b) := by
  unfold edR
  rw [List.getElem?_zip_eq_some]
  exact ⟨ha, hb⟩
theorem edR_mem {l : List P} {e : P × P} (h : e ∈ edR l) : e.1 ∈ l ∧ e.2 ∈ l := by
  have k := List.of_mem_zip (show (e.1, e.2) ∈ (l.getLast?.toList ++ l).zip l from h)
  refine ⟨?_, k.2⟩
  rcases List.mem_append.mp k.1 with z | z
  · rw [Option.mem_toList] at z
    exact List.mem_of_getLast? z
  · exact z
/-! ### area -/
def part (es : List (P × P)) (i : Nat) : Int := ((es.take i).map AM.cross).sum
theorem part_zero (es : List (P × P)) : part es 0 = 0 := rfl
theorem part_step {es : List (P × P)} {i : Nat} {e : P × P} (h : es[i]? = some e) : part es (i + 1) = part es i + e.1.x * e.2.y - e.1.y * e.2.x := by
  unfold part
  rw [AM.take_snoc h, List.map_append, List.sum_append]
  show _ + (e.1.x * e.2.y - e.1.y * e.2.x + 0) = _
  omega
theorem sum_perm {xs ys : List Int} (h : xs.Perm ys) : xs.sum = ys.sum := by
  induction h with
  | nil => rfl
  | cons x _ ih => rw [List.sum_cons, List.sum_cons, ih]
  | swap x y l => simp only [List.sum_cons]; omega
  | trans _ _ h1 h2 => rw [h1, h2]
theorem part_all (l : List P) : part (edR l) l.length = area l := by
  unfold part area
  rw [List.take_of_length_le (by rw [edR_len]; exact Nat.le_refl _)]
  exact sum_perm ((edR_perm l).map _)
/-! ### within -/
def up (q : P) (e : P × P) : Bool := if decide (q.y < e.1.y) = decide (q.y < e.2.y) then false else decide (0 < turn e.1 e.2 q) == decide (q.y < e.2.y)
def count (q : P) (es : List (P × P)) : Nat := (es.filter (up q)).length
theorem on_straddle {a b q : P} (h : turn a b q = 0) (h1 : q.y < a.y) (h2 : b.y ≤ q.y) : isOn a b q = true := by
  unfold isOn
  rw [h]
  simp only [beq_self_eq_true, Bool.true_and, MM.inBox_iff]
  have hy : (a.y - b.y) * (q.x - b.x) = (q.y - b.y) * (a.x - b.x) := by unfold turn at h; grind
  have k := MM.between (dx := a.y - b.y) (dy := a.x - b.x) (ex := q.y - b.y) (ey := q.x - b.x) (by grind) (by omega) (by omega) (by omega)
  omega
theorem on_straddle2 {a b q : P} (h : turn a b q = 0) (h1 : q.y < b.y) (h2 : a.y ≤ q.y) : isOn a b q = true := by
  have e : isOn a b q = isOn b a q := MM.isOn_swap
  rw [e]
  exact on_straddle (by rw [MM.turn_swap, h]; rfl) h1 h2
theorem up_eq {q : P} {e : P × P} (h : isOn e.1 e.2 q = false) : up q e = crossed q e := by
  unfold up crossed
  by_cases h1 : q.y < e.1.y <;> by_cases h2 : q.y < e.2.y
  · simp [h1, h2]
  · have nz : turn e.1 e.2 q ≠ 0 := fun z => by rw [on_straddle z h1 (by omega)] at h; cases h
    simp only [h1, h2, decide_true, decide_false, if_false, Bool.true_eq_false]
    by_cases h3 : 0 < turn e.1 e.2 q
    · simp [h3, show ¬ turn e.1 e.2 q < 0 by omega]
    · simp [h3, show turn e.1 e.2 q < 0 by omega]
  · simp only [h1, h2, decide_true, decide_false, if_true, Bool.false_eq_true, if_false]
    by_cases h3 : 0 < turn e.1 e.2 q <;> simp [h3]
  · simp [h1, h2]
theorem any_perm {α : Type} {p : α → Bool} {xs ys : List α} (h : xs.Perm ys) : xs.any p = ys.any p := by
  rw [Bool.eq_iff_iff, List.any_eq_true, List.any_eq_true]
  exact ⟨fun ⟨x, a, b⟩ => ⟨x, h.mem_iff.mp a, b⟩, fun ⟨x, a, b⟩ => ⟨x, h.mem_iff.mpr a, b⟩⟩
/-- an edge that has the point: 2 -/
theorem within_on {l : List P} {q : P} {e : P × P} (he : e ∈ edR l) (h : isOn e.1 e.2 q = true) : PM.withinOf l q = 2 := by
  unfold PM.withinOf
  rw [if_pos]
  rw [List.any_eq_true]
  exact ⟨e, (edR_perm l).mem_iff.mp he, h⟩
theorem within_off {l : List P} {q : P} (h : ∀ e ∈ edR l, isOn e.1 e.2 q = false) : PM.withinOf l q = ((count q (edR l) % 2 : Nat) : Int) := by
  unfold PM.withinOf
  have h' : ∀ e ∈ edges l, isOn e.1 e.2 q = false := fun e he => h e ((edR_perm l).mem_iff.mpr he)
  rw [if_neg]
  · have e1 : count q (edR l) = ((edges l).filter (crossed q)).length := by
      unfold count
      rw [((edR_perm l).filter _).length_eq]
      congr 1
      exact List.filter_congr fun e he => up_eq (h' e he)
    rw [e1]
    unfold odd
    generalize ((edges l).filter (crossed q)).length = m
    by_cases z : m % 2 = 1
    · simp [z]
    · simp [show m % 2 = 0 by omega]
  · rw [List.any_eq_true]
    rintro ⟨e, he, h2⟩
    rw [h' e he] at h2
    cases h2
theorem count_step {q : P} {es : List (P × P)} {i : Nat} {e : P × P} (h : es[i]? = some e) : count q (es.take (i + 1)) = count q (es.take i) + (if up q e = true then 1 else 0) := by
  unfold count
  rw [AM.take_snoc h, List.filter_append, List.length_append]
  congr 1
  cases hu : up q e <;> simp [hu]
theorem asked_within {n : Int} {p q : List Int} (h : PySw12.within_asked n p q = true) (h1 : 1 ≤ n) (h2 : n ≤ 4096) : (p.length : Int) = 2 * n := by
  unfold PySw12.within_asked Sw12Neutral.asked at h
  simp only [List.all_cons, List.all_nil, Bool.and_true, Bool.and_eq_true] at h
  have q : (whole32 n && ((p.all (fun (z : Int) => whole64 z) && decide ((p.length : Int) = if 1 ≤ n ∧ n ≤ 4096 then 2 * n else 0)) && ((q.all (fun (z : Int) => whole64 z) && q.length == 2)))) = true := h.1
  rw [Bool.and_eq_true, Bool.and_eq_true, Bool.and_eq_true, decide_eq_true_eq, if_pos ⟨h1, h2⟩] at q
  exact q.2.1.2
theorem asked_around {n : Int} {o p : List Int} (h : PySw12.around_asked n o p = true) (h1 : 1 ≤ n) (h2 : n ≤ 4096) : (p.length : Int) = 2 * n := by
  unfold PySw12.around_asked Sw12Neutral.asked at h
  simp only [List.all_cons, List.all_nil, Bool.and_true, Bool.and_eq_true] at h
  have q : (whole32 n && ((o.all (fun (z : Int) => whole64 z) && o.length == 2) && ((p.all (fun (z : Int) => whole64 z) && decide ((p.length : Int) = if 1 ≤ n ∧ n ≤ 4096 then 2 * n else 0))))) = true := h.1
  rw [Bool.and_eq_true, Bool.and_eq_true, Bool.and_eq_true (p.all _), decide_eq_true_eq, if_pos ⟨h1, h2⟩] at q
  exact q.2.2.2
theorem asked_simple {n : Int} {p : List Int} (h : PySw12.simple_asked n p = true) (h1 : 1 ≤ n) (h2 : n ≤ 4096) : (p.length : Int) = 2 * n := by
  unfold PySw12.simple_asked Sw12Neutral.asked at h
  simp only [List.all_cons, List.all_nil, Bool.and_true, Bool.and_eq_true] at h
  have q : (whole32 n && ((p.all (fun (z : Int) => whole64 z) && decide ((p.length : Int) = if 1 ≤ n ∧ n ≤ 4096 then 2 * n else 0)))) = true := h.1
  rw [Bool.and_eq_true, Bool.and_eq_true, decide_eq_true_eq, if_pos ⟨h1, h2⟩] at q
  exact q.2.2
theorem asked_nearest {n : Int} {p : List Int} (h : PySw12.nearest_asked n p = true) (h1 : 2 ≤ n) (h2 : n ≤ 4096) : (p.length : Int) = 2 * n := by
  unfold PySw12.nearest_asked Sw12Neutral.asked at h
  simp only [List.all_cons, List.all_nil, Bool.and_true, Bool.and_eq_true] at h
  have q : (whole32 n && ((p.all (fun (z : Int) => whole64 z) && decide ((p.length : Int) = if 2 ≤ n ∧ n ≤ 4096 then 2 * n else 0)))) = true := h.1
  rw [Bool.and_eq_true, Bool.and_eq_true, decide_eq_true_eq, if_pos ⟨h1, h2⟩] at q
  exact q.2.2
end RM

namespace NM
open Sw12
/-- a spot: a point and its place -/
structure S where
  x : Int
  y : Int
  i : Int
  deriving DecidableEq
/-- a pair: the square of the distance, the places -/
structure T where
  d : Int
  i : Int
  j : Int
  deriving DecidableEq
def lts (a b : S) : Prop := a.x < b.x ∨ (a.x = b.x ∧ (a.y < b.y ∨ (a.y = b.y ∧ a.i < b.i)))
def ltt (a b : T) : Prop := a.d < b.d ∨ (a.d = b.d ∧ (a.i < b.i ∨ (a.i = b.i ∧ a.j < b.j)))
instance (a b : S) : Decidable (lts a b) := by unfold lts; infer_instance
instance (a b : T) : Decidable (ltt a b) := by unfold ltt; infer_instance
theorem lts_irrefl (a : S) : ¬ lts a a := by unfold lts; omega
theorem lts_trans {a b c : S} (h1 : lts a b) (h2 : lts b c) : lts a c := by unfold lts at *; omega
theorem lts_total {a b : S} (h : a ≠ b) : lts a b ∨ lts b a := by
  refine Decidable.byContradiction fun n => h ?_
  unfold lts at n
  obtain ⟨ax, ay, ai⟩ := a
  obtain ⟨bx, b_y, bi⟩ := b
  simp only [S.mk.injEq]
  simp only at n
  omega
theorem ltt_trans' {a b c : T} (h1 : ¬ ltt b a) (h2 : ¬ ltt c b) : ¬ ltt c a := by unfold ltt at *; omega
def d2 (s t : S) : Int := (s.x - t.x) * (s.x - t.x) + (s.y - t.y) * (s.y - t.y)
def pr (s t : S) : T := ⟨d2 s t, if t.i < s.i then t.i else s.i, if t.i > s.i then t.i else s.i⟩
theorem d2_swap (s t : S) : d2 s t = d2 t s := by unfold d2; grind
theorem pr_swap (s t : S) : pr s t = pr t s := by
  unfold pr
  rw [d2_swap s t]
  simp only [T.mk.injEq, true_and]
  constructor <;> split <;> split <;> omega
theorem sq_nn (a : Int) : 0 ≤ a * a := by
  rcases Int.le_total 0 a with z | z
  · exact Int.mul_nonneg z z
  · exact Int.mul_nonneg_of_nonpos_of_nonpos z z
theorem sq_mono {a b : Int} (h : 0 ≤ a) (h2 : a ≤ b) : a * a ≤ b * b := Int.mul_le_mul h2 h2 h (by omega)
theorem d2_nn (s t : S) : 0 ≤ d2 s t := by
  unfold d2
  have := sq_nn (s.x - t.x)
  have := sq_nn (s.y - t.y)
  omega
/-- how many of the sorted ones come before s -/
structure Cut (ks : List S) (s : S) (r : Nat) : Prop where
  le : r ≤ ks.length
  lo : ∀ (i : Nat) (z : S), i < r → ks[i]? = some z → lts z s
  hi : ∀ (i : Nat) (z : S), r ≤ i → ks[i]? = some z → ¬ lts z s
theorem cut_at {ks : List S} {s : S} {r : Nat} (pw : ks.Pairwise lts) (c : Cut ks s r) (h : s ∈ ks) : ks[r]? = some s := by
  obtain ⟨t, ht, e⟩ := List.mem_iff_getElem.mp h
  have et : ks[t]? = some s := by rw [List.getElem?_eq_getElem ht, e]
  have h1 : ¬ t < r := fun z => lts_irrefl s (c.lo t s z et)
  have h2 : ¬ r < t := fun z => by
    have hr : r < ks.length := by omega
    have := List.pairwise_iff_getElem.mp pw r t hr ht z
    rw [e] at this
    exact c.hi r ks[r] (Nat.le_refl _) (List.getElem?_eq_getElem hr) this
  have : r = t := by omega
  rw [this]
  exact et
theorem take_snoc' {α : Type} {l : List α} {k : Nat} {x : α} (h : l[k]? = some x) : l.take (k + 1) = l.take k ++ [x] := by
  rw [List.take_add_one, h]
  rfl
theorem drop_cons' {α : Type} {l : List α} {k : Nat} {x : α} (h : l[k]? = some x) : l.drop k = x :: l.drop (k + 1) := by
  obtain ⟨hk, e⟩ := List.getElem?_eq_some_iff.mp h
  rw [List.drop_eq_getElem_cons hk, e]
/-- what holds ahead of the k-th of the spots U, which go upwards -/
structure Inv (U : List S) (k lo : Nat) (ks : List S) (best : T) : Prop where
  lk : lo ≤ k
  kn : k ≤ U.length
  perm : ks.Perm ((U.take k).drop lo)
  srt : ks.Pairwise lts
  is : ∃ (a b : Nat) (s t : S), a < b ∧ U[a]? = some s ∧ U[b]? = some t ∧ best = pr s t
  le : ∀ (a b : Nat) (s t : S), a < b → b < k → U[a]? = some s → U[b]? = some t → ¬ ltt (pr s t) best
  far : ∀ (m j : Nat) (s t : S), m < lo → k ≤ j → U[m]? = some s → U[j]? = some t → best.d < (t.y - s.y) * (t.y - s.y)
theorem Inv.nn {U : List S} {k lo : Nat} {ks : List S} {best : T} (I : Inv U k lo ks best) : 0 ≤ best.d := by
  obtain ⟨a, b, s, t, _, _, _, rfl⟩ := I.is
  exact d2_nn s t
theorem inv_start {U : List S} {s t : S} (h0 : U[0]? = some s) (h1 : U[1]? = some t) : Inv U 0 0 [] (pr s t) :=
  ⟨Nat.le_refl _, Nat.zero_le _, by simp, .nil, ⟨0, 1, s, t, by omega, h0, h1, rfl⟩, fun _ _ _ _ _ h => by omega, fun _ _ _ _ h => by omega⟩
section
variable {U : List S} {k lo : Nat} {ks : List S} {best : T}
theorem up_le (up : U.Pairwise fun a b => a.y ≤ b.y) {a b : Nat} {s t : S} (h : a ≤ b) (ha : U[a]? = some s) (hb : U[b]? = some t) : s.y ≤ t.y := by
  rcases Nat.lt_or_eq_of_le h with h | h
  · obtain ⟨h1, e1⟩ := List.getElem?_eq_some_iff.mp ha
    obtain ⟨h2, e2⟩ := List.getElem?_eq_some_iff.mp hb
    have := List.pairwise_iff_getElem.mp up a b h1 h2 h
    rw [e1, e2] at this
    exact this
  · subst h
    rw [ha] at hb
    cases hb
    exact Int.le_refl _
/-- the lowest is too far below: it goes -/
theorem inv_lt (I : Inv U k lo ks best) {s t : S} (hs : U[k]? = some s) (ht : U[lo]? = some t) (c : best.d < (s.y - t.y) * (s.y - t.y)) : lo < k := by
  have := I.lk
  rcases Nat.lt_or_eq_of_le this with h | h
  · exact h
  · subst h
    rw [hs] at ht
    cases ht
    have := I.nn
    have e : (s.y - s.y) * (s.y - s.y) = 0 := by rw [Int.sub_self]; rfl
    omega
theorem low_mem (I : Inv U k lo ks best) {t : S} (h : lo < k) (ht : U[lo]? = some t) : t ∈ ks := by
  rw [I.perm.mem_iff]
  have : ((U.take k).drop lo)[0]? = some t := by
    rw [List.getElem?_drop, List.getElem?_take_of_lt (by omega)]
    exact ht
  exact List.mem_of_getElem? this
theorem inv_pop (up : U.Pairwise fun a b => a.y ≤ b.y) (I : Inv U k lo ks best) {s t : S} {r : Nat} (hs : U[k]? = some s) (ht : U[lo]? = some t) (c : best.d < (s.y - t.y) * (s.y - t.y)) (cut : Cut ks t r) : ks[r]? = some t ∧ Inv U k (lo + 1) (ks.eraseIdx r) best := by
  have hlt := inv_lt I hs ht c
  have at_ := cut_at I.srt cut (low_mem I hlt ht)
  refine ⟨at_, by omega, I.kn, ?_, I.srt.sublist (List.eraseIdx_sublist ..), I.is, I.le, fun m j u v hm hj hu hv => ?_⟩
  · have e : (U.take k).drop lo = t :: (U.take k).drop (lo + 1) := drop_cons' (by rw [List.getElem?_take_of_lt hlt]; exact ht)
    have p := I.perm
    rw [e] at p
    obtain ⟨hr, er⟩ := List.getElem?_eq_some_iff.mp at_
    have q : (t :: ks.eraseIdx r).Perm ks := by
      rw [List.eraseIdx_eq_take_drop_succ]
      have e2 : ks = ks.take r ++ t :: ks.drop (r + 1) := by rw [← drop_cons' at_, List.take_append_drop]
      exact List.perm_middle.symm.trans (by rw [← e2])
    exact List.Perm.cons_inv (q.trans p)
  · rcases Nat.lt_or_eq_of_le (Nat.le_of_lt_succ hm) with h | h
    · exact I.far m j u v h hj hu hv
    · subst h
      rw [ht] at hu
      cases hu
      have h1 := up_le up hj hs hv
      have h2 := up_le up (Nat.le_of_lt hlt) ht hs
      have := sq_mono (a := s.y - t.y) (b := v.y - t.y) (by omega) (by omega)
      omega
theorem mem_while {α : Type} {R : α → α → Prop} {p : α → Bool} : ∀ {l : List α} {z : α}, l.Pairwise R → z ∈ l → p z = true → (∀ y, R y z → p y = true) → z ∈ l.takeWhile p
  | [], _, _, h, _, _ => nomatch h
  | a :: l, z, pw, h, hz, hp => by
    rw [List.pairwise_cons] at pw
    rcases List.mem_cons.mp h with rfl | h
    · rw [List.takeWhile_cons, if_pos hz]
      exact List.mem_cons_self ..
    · rw [List.takeWhile_cons, if_pos (hp a (pw.1 z h))]
      exact List.mem_cons_of_mem _ (mem_while pw.2 h hz hp)
def across (s : S) (m : Int) (z : S) : Bool := decide ((z.x - s.x) * (z.x - s.x) ≤ m)
def near (ks : List S) (r : Nat) (s : S) (m : Int) : List S := (ks.drop r).takeWhile (across s m) ++ (ks.take r).reverse.takeWhile (across s m)
theorem near_mem {s z : S} {r : Nat} {m : Int} (pw : ks.Pairwise lts) (cut : Cut ks s r) (h : z ∈ ks) (hz : across s m z = true) : z ∈ near ks r s m := by
  unfold near
  rw [List.mem_append]
  have pz := of_decide_eq_true hz
  have h2 : z ∈ ks.take r ++ ks.drop r := by rw [List.take_append_drop]; exact h
  rcases List.mem_append.mp h2 with h2 | h2
  · refine .inr (mem_while (R := fun a b => lts b a ∧ lts a s) ?_ (List.mem_reverse.mpr h2) hz fun y hy => decide_eq_true ?_)
    · rw [List.pairwise_reverse]
      refine (pw.sublist (List.take_sublist ..)).imp_of_mem fun {a b} ha hb hab => ⟨hab, ?_⟩
      obtain ⟨i, hi, e⟩ := List.mem_iff_getElem.mp hb
      have hir : i < r := by rw [List.length_take] at hi; omega
      refine cut.lo i b hir ?_
      have : (ks.take r)[i]? = some b := by rw [List.getElem?_eq_getElem hi, e]
      rw [List.getElem?_take_of_lt hir] at this
      exact this
    · obtain ⟨h3, h4⟩ := hy
      unfold lts at h3 h4
      have := sq_mono (a := s.x - y.x) (b := s.x - z.x) (by omega) (by omega)
      have e1 : (s.x - y.x) * (s.x - y.x) = (y.x - s.x) * (y.x - s.x) := by grind
      have e2 : (s.x - z.x) * (s.x - z.x) = (z.x - s.x) * (z.x - s.x) := by grind
      omega
  · refine .inl (mem_while (R := fun a b => lts a b ∧ ¬ lts a s) ?_ h2 hz fun y hy => decide_eq_true ?_)
    · refine (pw.sublist (List.drop_sublist ..)).imp_of_mem fun {a b} ha hb hab => ⟨hab, ?_⟩
      obtain ⟨i, hi, e⟩ := List.mem_iff_getElem.mp ha
      refine cut.hi (r + i) a (by omega) ?_
      have : (ks.drop r)[i]? = some a := by rw [List.getElem?_eq_getElem hi, e]
      rw [List.getElem?_drop] at this
      exact this
    · obtain ⟨h3, h4⟩ := hy
      unfold lts at h3 h4
      have := sq_mono (a := y.x - s.x) (b := z.x - s.x) (by omega) (by omega)
      omega
theorem inv_next (nd : U.Nodup) (I : Inv U k lo ks best) {s : S} {r : Nat} {best' : T} (hs : U[k]? = some s) (cut : Cut ks s r)
    (h1 : best' = best ∨ ∃ z ∈ near ks r s best.d, best' = pr s z) (h2 : ¬ ltt best best') (h3 : ∀ z ∈ near ks r s best.d, ¬ ltt (pr s z) best') :
    Inv U (k + 1) lo (ks.take r ++ s :: ks.drop r) best' := by
  obtain ⟨hk, es⟩ := List.getElem?_eq_some_iff.mp hs
  have at_k : ∀ z ∈ ks, ∃ m, lo ≤ m ∧ m < k ∧ U[m]? = some z := fun z hz => by
    have := I.perm.mem_iff.mp hz
    obtain ⟨i, hi⟩ := List.getElem?_of_mem this
    rw [List.getElem?_drop] at hi
    have hlt : lo + i < k := by
      have := (List.getElem?_eq_some_iff.mp hi).1
      rw [List.length_take] at this
      omega
    rw [List.getElem?_take_of_lt hlt] at hi
    exact ⟨lo + i, by omega, hlt, hi⟩
  have ne : ∀ z ∈ ks, z ≠ s := fun z hz e => by
    obtain ⟨m, _, hm, em⟩ := at_k z hz
    subst e
    obtain ⟨hm', e'⟩ := List.getElem?_eq_some_iff.mp em
    have := List.pairwise_iff_getElem.mp nd m k hm' hk hm
    rw [e', es] at this
    exact this rfl
  have low : ∀ z ∈ ks.take r, lts z s := fun z hz => by
    obtain ⟨i, hi⟩ := List.getElem?_of_mem hz
    have hlt : i < r := by
      have := (List.getElem?_eq_some_iff.mp hi).1
      rw [List.length_take] at this
      omega
    rw [List.getElem?_take_of_lt hlt] at hi
    exact cut.lo i z hlt hi
  have high : ∀ z ∈ ks.drop r, lts s z := fun z hz => by
    obtain ⟨i, hi⟩ := List.getElem?_of_mem hz
    rw [List.getElem?_drop] at hi
    rcases lts_total (ne z (List.mem_of_mem_drop hz)) with h | h
    · exact absurd h (cut.hi (r + i) z (by omega) hi)
    · exact h
  have dle : best'.d ≤ best.d := by unfold ltt at h2; omega
  refine ⟨Nat.le_succ_of_le I.lk, hk, ?_, ?_, ?_, fun a b u v hab hb hu hv => ?_, fun m j u v hm hj hu hv => ?_⟩
  · rw [take_snoc' hs, List.drop_append_of_le_length (by rw [List.length_take]; have := I.lk; omega)]
    refine (List.perm_middle).trans ?_
    rw [List.take_append_drop]
    exact (List.Perm.cons s I.perm).trans (List.perm_append_singleton s _).symm
  · rw [List.pairwise_append, List.pairwise_cons]
    refine ⟨I.srt.sublist (List.take_sublist ..), ⟨high, I.srt.sublist (List.drop_sublist ..)⟩, fun a ha b hb => ?_⟩
    rcases List.mem_cons.mp hb with rfl | hb
    · exact low a ha
    · exact lts_trans (low a ha) (high b hb)
  · rcases h1 with h1 | ⟨z, hz, h1⟩
    · rw [h1]
      exact I.is
    · have hzk : z ∈ ks := by
        unfold near at hz
        rcases List.mem_append.mp hz with hz | hz
        · exact List.mem_of_mem_drop ((List.takeWhile_sublist _).subset hz)
        · exact List.mem_of_mem_take (List.mem_reverse.mp ((List.takeWhile_sublist _).subset hz))
      obtain ⟨m, _, hm, em⟩ := at_k z hzk
      exact ⟨m, k, z, s, hm, em, hs, by rw [h1, pr_swap]⟩
  · rcases Nat.lt_or_eq_of_le (Nat.le_of_lt_succ hb) with h | h
    · exact ltt_trans' h2 (I.le a b u v hab h hu hv)
    · subst h
      rw [hs] at hv
      cases hv
      have d0 : d2 u s = (u.x - s.x) * (u.x - s.x) + (u.y - s.y) * (u.y - s.y) := rfl
      have n1 := sq_nn (u.x - s.x)
      have n2 := sq_nn (u.y - s.y)
      have big : best.d < d2 u s → ¬ ltt (pr u s) best' := fun z => by
        have : (pr u s).d = d2 u s := rfl
        unfold ltt
        omega
      by_cases hm : a < lo
      · refine big ?_
        have := I.far a b u s hm (Nat.le_refl _) hu hs
        have e : (u.y - s.y) * (u.y - s.y) = (s.y - u.y) * (s.y - u.y) := by grind
        omega
      · by_cases c : across s best.d u = true
        · have uk : u ∈ ks := by
            rw [I.perm.mem_iff]
            have : ((U.take b).drop lo)[a - lo]? = some u := by
              rw [List.getElem?_drop, show lo + (a - lo) = a by omega, List.getElem?_take_of_lt hab]
              exact hu
            exact List.mem_of_getElem? this
          rw [pr_swap]
          exact h3 u (near_mem I.srt cut uk c)
        · refine big ?_
          have := of_decide_eq_false (by simpa [across] using c : decide ((u.x - s.x) * (u.x - s.x) ≤ best.d) = false)
          omega
  · have := I.far m j u v hm (by omega) hu hv
    omega
end
/-- behind all: the pair is the smallest -/
theorem inv_end {l : List P} {U : List S} {lo : Nat} {ks : List S} {best : T} (I : Inv U U.length lo ks best) (hU : ∀ s : S, s ∈ U ↔ ∃ (n : Nat) (p : P), l[n]? = some p ∧ s = ⟨p.x, p.y, (n : Int)⟩) (nd : U.Nodup) :
    ∃ i j : Nat, best = ⟨SM.far l (i, j), (i : Int), (j : Int)⟩ ∧ nearestOf l = some (i, j) := by
  have prs : ∀ {n m : Nat} {p q : P}, n < m → l[n]? = some p → l[m]? = some q → pr ⟨p.x, p.y, (n : Int)⟩ ⟨q.x, q.y, (m : Int)⟩ = ⟨SM.far l (n, m), (n : Int), (m : Int)⟩ := fun {n m p q} h hp hq => by
    unfold pr d2 SM.far square
    have e1 : l.getD n ⟨0, 0⟩ = p := by rw [List.getD_eq_getElem?_getD, hp]; rfl
    have e2 : l.getD m ⟨0, 0⟩ = q := by rw [List.getD_eq_getElem?_getD, hq]; rfl
    simp only [e1, e2]
    rw [if_neg (by omega), if_pos (by omega)]
  obtain ⟨a, b, s, t, hab, ha, hb, e⟩ := I.is
  obtain ⟨n, p, hn, rfl⟩ := (hU s).mp (List.mem_of_getElem? ha)
  obtain ⟨m, q, hm, rfl⟩ := (hU t).mp (List.mem_of_getElem? hb)
  have nm : n ≠ m := fun z => by
    subst z
    rw [hn] at hm
    cases hm
    obtain ⟨h1, e1⟩ := List.getElem?_eq_some_iff.mp ha
    obtain ⟨h2, e2⟩ := List.getElem?_eq_some_iff.mp hb
    have := List.pairwise_iff_getElem.mp nd a b h1 h2 hab
    rw [e1, e2] at this
    exact this rfl
  obtain ⟨i, j, hij, hj, eb⟩ : ∃ i j : Nat, i < j ∧ j < l.length ∧ best = ⟨SM.far l (i, j), (i : Int), (j : Int)⟩ := by
    rcases Nat.lt_or_gt_of_ne nm with h | h
    · exact ⟨n, m, h, (List.getElem?_eq_some_iff.mp hm).1, by rw [e, prs h hn hm]⟩
    · exact ⟨m, n, h, (List.getElem?_eq_some_iff.mp hn).1, by rw [e, pr_swap, prs h hm hn]⟩
  refine ⟨i, j, eb, SM.nearest_eq hij hj fun k m2 hk hm2 => ?_⟩
  have h1 : l[k]? = some l[k] := List.getElem?_eq_getElem (by omega)
  have h2 : l[m2]? = some l[m2] := List.getElem?_eq_getElem hm2
  obtain ⟨c, hc⟩ := List.getElem?_of_mem ((hU _).mpr ⟨k, _, h1, rfl⟩)
  obtain ⟨d, hd⟩ := List.getElem?_of_mem ((hU _).mpr ⟨m2, _, h2, rfl⟩)
  have cl := (List.getElem?_eq_some_iff.mp hc).1
  have dl := (List.getElem?_eq_some_iff.mp hd).1
  have ncd : c ≠ d := fun z => by
    subst z
    rw [hc] at hd
    have := congrArg S.i (Option.some.inj hd)
    simp only at this
    omega
  have key : ¬ ltt ⟨SM.far l (k, m2), (k : Int), (m2 : Int)⟩ best := by
    rcases Nat.lt_or_gt_of_ne ncd with h | h
    · have := I.le c d _ _ h dl hc hd
      rw [prs hk h1 h2] at this
      exact this
    · have := I.le d c _ _ h cl hd hc
      rw [pr_swap, prs hk h1 h2] at this
      exact this
  rw [eb] at key
  unfold ltt at key
  simp only at key
  omega
/-- equal points: the smallest of the pairs of the first with each other one -/
theorem equal_end {l : List P} {best : T} {prs : List T} {fst : Nat → Nat} (hf : ∀ m, m < l.length → fst m ≤ m ∧ l[fst m]? = l[m]? ∧ ∀ k, k < m → l[k]? = l[m]? → fst m ≤ k)
    (hp : ∀ t, t ∈ prs ↔ ∃ m, m < l.length ∧ fst m < m ∧ t = ⟨0, (fst m : Int), (m : Int)⟩) (hb : best ∈ prs) (hmin : ∀ t ∈ prs, ¬ ltt t best) : ∃ i j : Nat, best = ⟨SM.far l (i, j), (i : Int), (j : Int)⟩ ∧ nearestOf l = some (i, j) := by
  obtain ⟨m, hm, hlt, e⟩ := (hp best).mp hb
  have same : ∀ {a b : Nat} {p q : P}, l[a]? = some p → l[b]? = some q → SM.far l (a, b) = square p q := fun {a b p q} ha hb => by
    unfold SM.far
    rw [List.getD_eq_getElem?_getD, ha, List.getD_eq_getElem?_getD, hb]
    rfl
  have hmm : l[m]? = some l[m] := List.getElem?_eq_getElem hm
  have zero : ∀ p : P, square p p = 0 := fun p => by
    unfold square
    rw [Int.sub_self, Int.sub_self]
    rfl
  have d0 : SM.far l (fst m, m) = 0 := by
    rw [same ((hf m hm).2.1.trans hmm) hmm]
    exact zero _
  refine ⟨fst m, m, by rw [e, d0], SM.nearest_eq hlt hm fun k m2 hk hm2 => ?_⟩
  rw [d0]
  have h1 : l[k]? = some l[k] := List.getElem?_eq_getElem (by omega)
  have h2 : l[m2]? = some l[m2] := List.getElem?_eq_getElem hm2
  rw [same h1 h2]
  have n1 := sq_nn (l[k].x - l[m2].x)
  have n2 := sq_nn (l[k].y - l[m2].y)
  by_cases c : square l[k] l[m2] = 0
  · refine .inr ⟨c.symm, ?_⟩
    unfold square at c
    have z1 : (l[k].x - l[m2].x) * (l[k].x - l[m2].x) = 0 := by omega
    have z2 : (l[k].y - l[m2].y) * (l[k].y - l[m2].y) = 0 := by omega
    have e1 : l[k].x = l[m2].x := by rcases Int.mul_eq_zero.mp z1 with z | z <;> omega
    have e2 : l[k].y = l[m2].y := by rcases Int.mul_eq_zero.mp z2 with z | z <;> omega
    have e3 : l[k]? = l[m2]? := by rw [h1, h2, HM.P_ext e1 e2]
    have fk := (hf m2 hm2).2.2 k hk e3
    have := hmin _ ((hp _).mpr ⟨m2, hm2, by omega, rfl⟩)
    rw [e] at this
    have this : ¬ ((0 : Int) < 0 ∨ ((0 : Int) = 0 ∧ ((fst m2 : Int) < (fst m : Int) ∨ ((fst m2 : Int) = (fst m : Int) ∧ (m2 : Int) < (m : Int))))) := this
    omega
  · refine .inl ?_
    unfold square at c ⊢
    omega
end NM

namespace TM
open PySem PySem.SetTable

/-! ### the leaps go through all places -/
def F : Nat → Nat → Nat
  | 0, i => i
  | n + 1, i => F n (5 * i + 1)
theorem F_add : ∀ (n m i : Nat), F (n + m) i = F m (F n i)
  | 0, m, i => by rw [Nat.zero_add]; rfl
  | n + 1, m, i => by
    rw [Nat.add_right_comm]
    exact F_add n m (5 * i + 1)
theorem F_pow : ∀ k : Nat, ∃ a c : Nat, ∀ i, F (2 ^ k) i = i * (1 + 4 * 2 ^ k * a) + 2 ^ k * (2 * c + 1)
  | 0 => ⟨1, 0, fun i => by show 5 * i + 1 = _; omega⟩
  | k + 1 => by
    obtain ⟨a, c, h⟩ := F_pow k
    refine ⟨a + 2 * 2 ^ k * (a * a), c + 2 ^ k * a * (2 * c + 1), fun i => ?_⟩
    have e : 2 ^ (k + 1) = 2 ^ k + 2 ^ k := by rw [Nat.pow_succ]; omega
    rw [e, F_add, h, h]
    generalize 2 ^ k = p
    grind
theorem F_all : ∀ (k i j : Nat), ∃ n, n < 2 ^ k ∧ F n i % 2 ^ k = j % 2 ^ k
  | 0, i, j => ⟨0, by decide, by rw [Nat.pow_zero, Nat.mod_one, Nat.mod_one]⟩
  | k + 1, i, j => by
    obtain ⟨n, hn, e⟩ := F_all k i j
    obtain ⟨a, c, h⟩ := F_pow k
    have e2 : 2 ^ (k + 1) = 2 ^ k * 2 := Nat.pow_succ ..
    have pp : 0 < 2 ^ k := Nat.two_pow_pos k
    by_cases q : F n i % 2 ^ (k + 1) = j % 2 ^ (k + 1)
    · exact ⟨n, by omega, q⟩
    · refine ⟨n + 2 ^ k, by omega, ?_⟩
      rw [F_add, h]
      generalize F n i = x at *
      rw [e2] at *
      generalize 2 ^ k = p at *
      have h1 : x % (p * 2) = x % p + p * (x / p % 2) := Nat.mod_mul
      have h2 : j % (p * 2) = j % p + p * (j / p % 2) := Nat.mod_mul
      rw [h1, h2, e] at q
      have q' : x / p % 2 ≠ j / p % 2 := fun z => q (by rw [z])
      have e3 : x * (1 + 4 * p * a) + p * (2 * c + 1) = (x + p) + p * 2 * (2 * (x * a) + c) := by grind
      rw [e3, Nat.add_mul_mod_self_left, h2, Nat.mod_mul (x := x + p), Nat.add_mod_right, e, Nat.add_div_right _ pp]
      congr 2
      omega

/-- i and perturb behind n leaps -/
def lp (mask : Nat) : Nat → Nat × Nat → Nat × Nat
  | 0, x => x
  | n + 1, x => lp mask n (leap mask x.1 x.2)
theorem lp_add (mask : Nat) : ∀ (n m : Nat) (x : Nat × Nat), lp mask (n + m) x = lp mask m (lp mask n x)
  | 0, m, x => by rw [Nat.zero_add]; rfl
  | n + 1, m, x => by
    rw [Nat.add_right_comm]
    exact lp_add mask n m _
theorem lp_snd (mask : Nat) : ∀ (n : Nat) (x : Nat × Nat), (lp mask n x).2 = x.2 / 32 ^ n
  | 0, x => by show x.2 = _; rw [Nat.pow_zero, Nat.div_one]
  | n + 1, x => by
    show (lp mask n (leap mask x.1 x.2)).2 = _
    rw [lp_snd mask n]
    show x.2 / 32 / 32 ^ n = _
    rw [Nat.div_div_eq_div_mul, Nat.pow_succ, Nat.mul_comm]
theorem lp_fst (mask : Nat) : ∀ (n i : Nat), (lp mask n (i, 0)).1 % (mask + 1) = F n i % (mask + 1)
  | 0, i => rfl
  | n + 1, i => by
    show (lp mask n ((i * 5 + 1 + 0 / 32) % (mask + 1), 0 / 32)).1 % (mask + 1) = F n (5 * i + 1) % (mask + 1)
    rw [Nat.zero_div, Nat.add_zero, lp_fst mask n]
    have F_mod : ∀ (n x y : Nat), x % (mask + 1) = y % (mask + 1) → F n x % (mask + 1) = F n y % (mask + 1) := by
      intro n
      induction n with
      | zero => intro x y e; exact e
      | succ n ih =>
        intro x y e
        refine ih _ _ ?_
        rw [Nat.add_mod, Nat.mul_mod, e, ← Nat.mul_mod, ← Nat.add_mod]
    exact F_mod n _ _ (by rw [Nat.mod_mod, Nat.mul_comm])
theorem lp_small {mask : Nat} : ∀ (n : Nat) (x : Nat × Nat), 0 < n → (lp mask n x).1 ≤ mask
  | 0, _, h => absurd h (by decide)
  | 1, x, _ => by
    show (x.1 * 5 + 1 + x.2 / 32) % (mask + 1) ≤ mask
    exact Nat.le_of_lt_succ (Nat.mod_lt _ (Nat.succ_pos _))
  | n + 2, x, _ => lp_small (n + 1) _ (Nat.succ_pos _)
/-- every place is the start of one of the first runs -/
theorem lp_all {mask k : Nat} (hk : mask + 1 = 2 ^ k) {x : Nat × Nat} (hx : x.2 < 2 ^ 64) {j : Nat} (hj : j ≤ mask) : ∃ n, 0 < n ∧ n ≤ mask + 13 ∧ (lp mask n x).1 = j := by
  have e0 : lp mask 13 x = ((lp mask 13 x).1, 0) := by
    refine Prod.ext rfl ?_
    rw [lp_snd]
    exact Nat.div_eq_of_lt (by omega)
  obtain ⟨n, hn, e⟩ := F_all k (lp mask 13 x).1 j
  refine ⟨13 + n, by omega, by omega, ?_⟩
  have s := lp_small (mask := mask) (13 + n) x (by omega)
  rw [lp_add, e0] at s ⊢
  have e1 := lp_fst mask n (lp mask 13 x).1
  rw [← hk] at e
  rw [e, Nat.mod_eq_of_lt (by omega), Nat.mod_eq_of_lt (by omega)] at e1
  exact e1

/-! ### the places that are looked at, one after another -/
def adv (mask : Nat) (p : Probe) : Probe :=
  if p.more > 0 then { p with j := p.j + 1, more := p.more - 1 } else
  let (i, perturb) := leap mask p.i p.perturb
  { p with j := i, more := runEnd mask i - i, i, perturb }
theorem advance_eq (t : SetTable) (p : Probe) : t.advance p = adv t.mask p := rfl
def nth (mask : Nat) : Nat → Probe → Probe
  | 0, p => p
  | n + 1, p => nth mask n (adv mask p)
theorem nth_add (mask : Nat) : ∀ (n m : Nat) (p : Probe), nth mask (n + m) p = nth mask m (nth mask n p)
  | 0, m, p => by rw [Nat.zero_add]; rfl
  | n + 1, m, p => by
    rw [Nat.add_right_comm]
    exact nth_add mask n m _
theorem nth_succ (mask n : Nat) (p : Probe) : nth mask (n + 1) p = adv mask (nth mask n p) := nth_add mask n 1 p
/-- the state at the start of a run -/
def run (mask : Nat) (x : Nat × Nat) (d : Option Nat) : Probe := ⟨x.1, runEnd mask x.1 - x.1, x.1, x.2, d⟩
theorem start_eq (t : SetTable) (h : Int) : t.probeStart h = run t.mask (bits h % (t.mask + 1), bits h) none := rfl
abbrev start (mask : Nat) (h : Int) : Probe := run mask (bits h % (mask + 1), bits h) none
structure Fine (mask : Nat) (p : Probe) : Prop where
  j : p.j + p.more ≤ mask
  m : p.more ≤ 9
  b : p.perturb < 2 ^ 64
  d : p.dummy = none
theorem run_fine {mask : Nat} {x : Nat × Nat} (h : x.1 ≤ mask) (b : x.2 < 2 ^ 64) : Fine mask (run mask x none) := by
  refine ⟨?_, ?_, b, rfl⟩
  · show x.1 + (runEnd mask x.1 - x.1) ≤ mask
    unfold runEnd
    split <;> omega
  · show runEnd mask x.1 - x.1 ≤ 9
    unfold runEnd
    split <;> omega
theorem bits_lt (h : Int) : bits h < 2 ^ 64 := by
  unfold bits
  have := Int.emod_lt_of_pos h (b := 2 ^ 64) (by decide)
  have := Int.emod_nonneg h (b := 2 ^ 64) (by decide)
  omega
theorem start_fine (mask : Nat) (h : Int) : Fine mask (start mask h) := run_fine (Nat.le_of_lt_succ (Nat.mod_lt _ (Nat.succ_pos _))) (bits_lt h)
theorem adv_end {mask : Nat} {p : Probe} (h : p.more = 0) (d : p.dummy = none) : adv mask p = run mask (leap mask p.i p.perturb) none := by
  unfold adv
  rw [if_neg (by omega)]
  obtain ⟨j, m, i, b, dd⟩ := p
  cases d
  rfl
theorem adv_fine {mask : Nat} {p : Probe} (h : Fine mask p) : Fine mask (adv mask p) := by
  by_cases e : p.more = 0
  · rw [adv_end e h.d]
    refine run_fine (Nat.le_of_lt_succ (Nat.mod_lt _ (Nat.succ_pos _))) ?_
    have := h.b
    show p.perturb / 32 < _
    omega
  · unfold adv
    rw [if_pos (by omega)]
    have h1 := h.j
    have h2 := h.m
    exact ⟨by show p.j + 1 + (p.more - 1) ≤ mask; omega, by show p.more - 1 ≤ 9; omega, h.b, h.d⟩
theorem nth_fine {mask : Nat} : ∀ (n : Nat) {p : Probe}, Fine mask p → Fine mask (nth mask n p)
  | 0, _, h => h
  | n + 1, _, h => nth_fine n (adv_fine h)
/-- within a run -/
theorem nth_run {mask : Nat} : ∀ (n : Nat) {p : Probe}, n ≤ p.more → nth mask n p = { p with j := p.j + n, more := p.more - n }
  | 0, _, _ => rfl
  | n + 1, p, h => by
    show nth mask n (adv mask p) = _
    have e : adv mask p = { p with j := p.j + 1, more := p.more - 1 } := by unfold adv; rw [if_pos (by omega)]
    rw [e, nth_run n (by show n ≤ p.more - 1; omega)]
    show (⟨p.j + 1 + n, p.more - 1 - n, p.i, p.perturb, p.dummy⟩ : Probe) = ⟨p.j + (n + 1), p.more - (n + 1), p.i, p.perturb, p.dummy⟩
    rw [show p.j + 1 + n = p.j + (n + 1) by omega, show p.more - 1 - n = p.more - (n + 1) by omega]
/-- to the start of the next run -/
theorem nth_leap {mask : Nat} {p : Probe} (h : Fine mask p) : nth mask (p.more + 1) p = run mask (leap mask p.i p.perturb) none := by
  rw [nth_succ, nth_run _ (Nat.le_refl _)]
  exact adv_end (by show p.more - p.more = 0; omega) h.d
theorem nth_lp {mask : Nat} : ∀ (n : Nat) {p : Probe}, Fine mask p → 0 < n → ∃ m, m ≤ 10 * n ∧ nth mask m p = run mask (lp mask n (p.i, p.perturb)) none
  | 0, _, _, h => absurd h (by decide)
  | 1, p, f, _ => ⟨p.more + 1, by have := f.m; omega, nth_leap f⟩
  | n + 2, p, f, _ => by
    have f2 : Fine mask (run mask (leap mask p.i p.perturb) none) := by rw [← nth_leap f]; exact nth_fine _ f
    obtain ⟨m, hm, e⟩ := nth_lp (n + 1) f2 (Nat.succ_pos _)
    refine ⟨p.more + 1 + m, by have := f.m; omega, ?_⟩
    rw [nth_add, nth_leap f, e]
    rfl
/-- every place is looked at -/
theorem nth_all {mask k : Nat} (hk : mask + 1 = 2 ^ k) {p : Probe} (h : Fine mask p) {j : Nat} (hj : j ≤ mask) : ∃ n, n < 10 * turns mask ∧ (nth mask n p).j = j := by
  obtain ⟨n, h0, h1, e⟩ := lp_all hk (x := (p.i, p.perturb)) h.b hj
  obtain ⟨m, hm, e2⟩ := nth_lp n h h0
  refine ⟨m, by unfold turns; omega, ?_⟩
  rw [e2]
  exact e

/-! ### the places taken, in their order -/
def Asc (l : List Nat) : Prop := l.Pairwise (· < ·)
theorem asc_at {l : List Nat} (h : Asc l) {i k u v : Nat} (hik : i < k) (hu : l[i]? = some u) (hv : l[k]? = some v) : u < v := by
  obtain ⟨h1, rfl⟩ := List.getElem?_eq_some_iff.mp hu
  obtain ⟨h2, rfl⟩ := List.getElem?_eq_some_iff.mp hv
  exact List.pairwise_iff_getElem.mp h i k h1 h2 hik
theorem below_go {xs : Array Nat} {j : Nat} (hs : Asc xs.toList) : ∀ (fuel lo hi : Nat), lo ≤ hi → hi ≤ xs.size → hi - lo ≤ fuel → (∀ i v : Nat, i < lo → xs.toList[i]? = some v → v < j) → (∀ i v : Nat, hi ≤ i → xs.toList[i]? = some v → j ≤ v) →
    lo ≤ below.go xs j fuel lo hi ∧ below.go xs j fuel lo hi ≤ hi ∧ (∀ i v : Nat, i < below.go xs j fuel lo hi → xs.toList[i]? = some v → v < j) ∧ (∀ i v : Nat, below.go xs j fuel lo hi ≤ i → xs.toList[i]? = some v → j ≤ v)
  | 0, lo, hi, h1, h2, h3, h4, h5 => by
    have e : lo = hi := by omega
    subst e
    exact ⟨Nat.le_refl _, Nat.le_refl _, h4, h5⟩
  | fuel + 1, lo, hi, h1, h2, h3, h4, h5 => by
    unfold below.go
    by_cases l : lo < hi
    · rw [if_pos l]
      have hm : (lo + hi) / 2 < xs.toList.length := by rw [Array.length_toList]; omega
      have em : xs.getD ((lo + hi) / 2) j = xs.toList[(lo + hi) / 2] := by
        rw [Array.getD_eq_getD_getElem?, ← Array.getElem?_toList, List.getElem?_eq_getElem hm]
        rfl
      have gm : xs.toList[(lo + hi) / 2]? = some xs.toList[(lo + hi) / 2] := List.getElem?_eq_getElem hm
      dsimp only
      rw [em]
      by_cases c : xs.toList[(lo + hi) / 2] < j
      · rw [if_pos c]
        obtain ⟨a, b, d, e⟩ := below_go hs fuel ((lo + hi) / 2 + 1) hi (by omega) h2 (by omega) (fun i v hi' hv => by
          by_cases q : i = (lo + hi) / 2
          · subst q
            rw [gm] at hv
            cases hv
            exact c
          · exact Nat.lt_trans (asc_at hs (show i < (lo + hi) / 2 by omega) hv gm) c) h5
        exact ⟨by omega, b, d, e⟩
      · rw [if_neg c]
        obtain ⟨a, b, d, e⟩ := below_go hs fuel lo ((lo + hi) / 2) (by omega) (by omega) (by omega) h4 (fun i v hi' hv => by
          by_cases q : i = (lo + hi) / 2
          · subst q
            rw [gm] at hv
            cases hv
            omega
          · have := asc_at hs (show (lo + hi) / 2 < i by omega) gm hv
            omega)
        exact ⟨a, by omega, d, e⟩
    · rw [if_neg l]
      have e : lo = hi := by omega
      subst e
      exact ⟨Nat.le_refl _, Nat.le_refl _, h4, h5⟩
theorem below_spec {xs : Array Nat} (hs : Asc xs.toList) (j : Nat) : below xs j ≤ xs.toList.length ∧ (∀ i v : Nat, i < below xs j → xs.toList[i]? = some v → v < j) ∧ (∀ i v : Nat, below xs j ≤ i → xs.toList[i]? = some v → j ≤ v) := by
  obtain ⟨_, b, c, d⟩ := below_go hs (j := j) xs.size 0 xs.size (Nat.zero_le _) (Nat.le_refl _) (by omega) (fun i v hi => absurd hi (Nat.not_lt_zero _)) (fun i v hi hv => by
    have := (List.getElem?_eq_some_iff.mp hv).1
    rw [Array.length_toList] at this
    omega)
  exact ⟨by rw [Array.length_toList]; exact b, c, d⟩
theorem below_at {xs : Array Nat} (hs : Asc xs.toList) {i j : Nat} (h : xs.toList[i]? = some j) : below xs j = i := by
  obtain ⟨_, b, c⟩ := below_spec hs j
  rcases Nat.lt_trichotomy (below xs j) i with l | l | l
  · obtain ⟨h1, _⟩ := List.getElem?_eq_some_iff.mp h
    have g : xs.toList[below xs j]? = some xs.toList[below xs j] := List.getElem?_eq_getElem (by omega)
    have q1 := c _ _ (Nat.le_refl _) g
    have q2 := asc_at hs l g h
    omega
  · exact l
  · have := b i j l h
    omega
/-- the place behind the i-th one taken -/
theorem below_next {xs : Array Nat} (hs : Asc xs.toList) {i j : Nat} (h : xs.toList[i]? = some j) : below xs (j + 1) = i + 1 := by
  obtain ⟨a, b, c⟩ := below_spec hs (j + 1)
  have hi := (List.getElem?_eq_some_iff.mp h).1
  rcases Nat.lt_trichotomy (below xs (j + 1)) (i + 1) with l | l | l
  · have := c i j (by omega) h
    omega
  · exact l
  · have g : xs.toList[i + 1]? = some xs.toList[i + 1] := List.getElem?_eq_getElem (by omega)
    have q1 := b (i + 1) _ l g
    have q2 := asc_at hs (Nat.lt_succ_self i) h g
    omega
theorem slot_live {t : SetTable} (hs : Asc t.place.toList) {i j : Nat} (h : t.place.toList[i]? = some j) : t.slot j = .live i := by
  unfold slot
  dsimp only
  rw [below_at hs h, ← Array.getElem?_toList, h]
  simp
theorem slot_empty {t : SetTable} (hd : t.dummies = #[]) {j : Nat} (h : j ∉ t.place.toList) : t.slot j = .empty := by
  unfold slot
  dsimp only
  have e1 : (t.place[below t.place j]? == some j) = false := by
    cases q : t.place[below t.place j]? == some j with
    | false => rfl
    | true =>
      have q2 := eq_of_beq q
      rw [← Array.getElem?_toList] at q2
      exact absurd (List.mem_of_getElem? q2) h
  have e2 : has t.dummies j = false := by
    rw [hd]
    unfold has
    simp
  rw [e1, e2]
  simp
theorem slot_cases {t : SetTable} (hs : Asc t.place.toList) (hd : t.dummies = #[]) (j : Nat) : (j ∉ t.place.toList ∧ t.slot j = .empty) ∨ ∃ i, t.place.toList[i]? = some j ∧ t.slot j = .live i := by
  by_cases h : j ∈ t.place.toList
  · obtain ⟨i, hi⟩ := List.getElem?_of_mem h
    exact .inr ⟨i, hi, slot_live hs hi⟩
  · exact .inl ⟨h, slot_empty hd h⟩

/-! ### one look through the table -/
/-- what is met: at the n-th place from p on; all before it hold another hash -/
inductive Meets (t : SetTable) (hashAt : Nat → Int) (h : Int) (p : Probe) (n : Nat) : Met → Prop
  | empty : (nth t.mask n p).j ∉ t.place.toList → Meets t hashAt h p n (.empty (nth t.mask n p).j none)
  | cand (i : Nat) : t.place.toList[i]? = some (nth t.mask n p).j → hashAt i = h → Meets t hashAt h p n (.candidate (nth t.mask n p).j i (nth t.mask (n + 1) p))
theorem go_meets {t : SetTable} (hs : Asc t.place.toList) (hd : t.dummies = #[]) {hashAt : Nat → Int} {h : Int} : ∀ (fuel : Nat) {p : Probe}, Fine t.mask p → (∃ n, n < fuel ∧ (nth t.mask n p).j ∉ t.place.toList) →
    ∃ n m, probe.go t hashAt h fuel p = some m ∧ Meets t hashAt h p n m ∧ ∀ k, k < n → ∃ i, t.place.toList[i]? = some (nth t.mask k p).j ∧ hashAt i ≠ h
  | 0, _, _, ⟨n, hn, _⟩ => absurd hn (Nat.not_lt_zero _)
  | fuel + 1, p, f, ⟨n, hn, e⟩ => by
    unfold probe.go
    rcases slot_cases hs hd p.j with ⟨h1, h2⟩ | ⟨i, h1, h2⟩
    · rw [h2]
      refine ⟨0, _, rfl, ?_, fun k hk => absurd hk (Nat.not_lt_zero _)⟩
      rw [f.d]
      exact .empty h1
    · rw [h2]
      dsimp only
      by_cases c : hashAt i = h
      · rw [if_pos (by simp [c])]
        exact ⟨0, _, rfl, .cand i h1 c, fun k hk => absurd hk (Nat.not_lt_zero _)⟩
      · rw [if_neg (by simp [c])]
        cases n with
        | zero => exact absurd (List.mem_of_getElem? h1) e
        | succ n =>
          obtain ⟨n2, m, g1, g2, g3⟩ := go_meets hs hd (hashAt := hashAt) (h := h) fuel (adv_fine f) ⟨n, by omega, e⟩
          refine ⟨n2 + 1, m, g1, ?_, fun k hk => ?_⟩
          · cases g2 with
            | empty a => exact .empty (p := p) (n := n2 + 1) a
            | cand i a b => exact .cand (p := p) (n := n2 + 1) i a b
          · cases k with
            | zero => exact ⟨i, h1, c⟩
            | succ k => exact g3 k (by omega)

/-! ### the table and the hashes -/
def onWay (mask : Nat) (l : List Nat) (h : Int) (j : Nat) : Prop := ∃ n, (nth mask n (start mask h)).j = j ∧ ∀ m, m < n → (nth mask m (start mask h)).j ∈ l
structure Tab (t : SetTable) (hs : List Int) : Prop where
  pow : ∃ k, t.mask + 1 = 2 ^ k
  dm : t.dummies = #[]
  asc : Asc t.place.toList
  top : ∀ j ∈ t.place.toList, j ≤ t.mask
  len : t.place.toList.length = hs.length
  way : ∀ x ∈ t.place.toList.zip hs, onWay t.mask t.place.toList x.2 x.1
theorem Tab.size {t : SetTable} {hs : List Int} (T : Tab t hs) : t.place.size = hs.length := by rw [← Array.length_toList]; exact T.len
theorem Tab.fill {t : SetTable} {hs : List Int} (T : Tab t hs) : t.fill = hs.length := by unfold SetTable.fill; rw [T.size, T.dm]; rfl
theorem nodup_len {α : Type} [DecidableEq α] : ∀ {h l : List α}, h.Nodup → (∀ x ∈ h, x ∈ l) → h.length ≤ l.length
  | [], _, _, _ => Nat.zero_le _
  | a :: h, l, nd, sub => by
    obtain ⟨n1, n2⟩ := List.nodup_cons.mp nd
    have ha : a ∈ l := sub a (List.mem_cons_self ..)
    have ih := nodup_len (h := h) (l := l.erase a) n2 fun x hx => (List.mem_erase_of_ne (fun e => n1 (by rw [← e]; exact hx))).mpr (sub x (List.mem_cons_of_mem _ hx))
    rw [List.length_erase_of_mem ha] at ih
    have := List.length_pos_of_mem ha
    simp only [List.length_cons]
    omega
theorem asc_nodup {l : List Nat} (h : Asc l) : l.Nodup := h.imp (fun a => Nat.ne_of_lt a)
theorem least {P : Nat → Prop} : ∀ (n : Nat), P n → ∃ m, m ≤ n ∧ P m ∧ ∀ k, k < m → ¬ P k := by
  intro n
  induction n using Nat.strongRecOn with
  | ind n ih =>
    intro h
    by_cases q : ∃ k, k < n ∧ P k
    · obtain ⟨k, hk, hp⟩ := q
      obtain ⟨m, a, b, c⟩ := ih k hk hp
      exact ⟨m, by omega, b, c⟩
    · exact ⟨n, Nat.le_refl _, h, fun k hk hp => q ⟨k, hk, hp⟩⟩
/-- not all places are taken -/
theorem free_place {l : List Nat} {mask : Nat} (hl : l.length ≤ mask) : ∃ j, j ≤ mask ∧ j ∉ l := by
  by_cases h : ∃ j, j ≤ mask ∧ j ∉ l
  · exact h
  · exfalso
    have h2 : ∀ j, j ≤ mask → j ∈ l := fun j hj => Classical.byContradiction fun z => h ⟨j, hj, z⟩
    have := nodup_len (h := List.range (mask + 1)) (l := l) List.nodup_range (fun j hj => h2 j (by have := List.mem_range.mp hj; omega))
    rw [List.length_range] at this
    omega
/-- the first free place on the way of a hash -/
structure FirstFree (mask : Nat) (l : List Nat) (h : Int) (e : Nat) : Prop where
  lt : e < 10 * turns mask
  free : (nth mask e (start mask h)).j ∉ l
  before : ∀ m, m < e → (nth mask m (start mask h)).j ∈ l
theorem firstFree {mask k : Nat} (hk : mask + 1 = 2 ^ k) {l : List Nat} (hl : l.length ≤ mask) (h : Int) : ∃ e, FirstFree mask l h e := by
  obtain ⟨j, hj, hn⟩ := free_place hl
  obtain ⟨n, h1, h2⟩ := nth_all hk (start_fine mask h) hj
  obtain ⟨m, a, b, c⟩ := least (P := fun n => (nth mask n (start mask h)).j ∉ l) n (by rw [h2]; exact hn)
  exact ⟨m, by omega, b, fun k hk => Classical.byContradiction fun z => c k hk z⟩
theorem FirstFree.place_le {mask : Nat} {h : Int} {e : Nat} : (nth mask e (start mask h)).j ≤ mask := by
  have := (nth_fine e (start_fine mask h)).j
  omega
/-- who is in the table with this hash stands ahead of the first free place -/
theorem onWay.lt {mask : Nat} {l : List Nat} {h : Int} {j e : Nat} (w : onWay mask l h j) (hj : j ∈ l) (f : FirstFree mask l h e) : ∃ n, n < e ∧ (nth mask n (start mask h)).j = j := by
  obtain ⟨n, h1, h2⟩ := w
  refine ⟨n, ?_, h1⟩
  rcases Nat.lt_trichotomy n e with q | q | q
  · exact q
  · subst q
    exact absurd (by rw [h1]; exact hj) f.free
  · exact absurd (h2 e q) f.free
theorem onWay.mono {mask : Nat} {l l' : List Nat} {h : Int} {j : Nat} (w : onWay mask l h j) (s : ∀ x ∈ l, x ∈ l') : onWay mask l' h j := by
  obtain ⟨n, h1, h2⟩ := w
  exact ⟨n, h1, fun m hm => s _ (h2 m hm)⟩
def ins {α : Type} (l : List α) (p : Nat) (x : α) : List α := l.take p ++ x :: l.drop p
theorem toList_ins {α : Type} (xs : Array α) (p : Nat) (x : α) : (insertAt xs p x).toList = ins xs.toList p x := by
  unfold ins
  simp [insertAt, List.extract_eq_take_drop, List.take_of_length_le]
theorem ins_perm {α : Type} (l : List α) (p : Nat) (x : α) : (ins l p x).Perm (x :: l) := by
  unfold ins
  refine List.perm_middle.trans ?_
  rw [List.take_append_drop]
theorem ins_map {α β : Type} (f : α → β) (l : List α) (p : Nat) (x : α) : (ins l p x).map f = ins (l.map f) p (f x) := by
  unfold ins
  simp
theorem ins_zip {α β : Type} {l : List α} {m : List β} (h : l.length = m.length) (p : Nat) (x : α) (y : β) : (ins l p x).zip (ins m p y) = ins (l.zip m) p (x, y) := by
  unfold ins
  rw [List.zip_append (by rw [List.length_take, List.length_take, h]), List.zip_cons_cons]
  show _ = List.take p (List.zipWith Prod.mk l m) ++ (x, y) :: List.drop p (List.zipWith Prod.mk l m)
  rw [List.take_zipWith, List.drop_zipWith]
  rfl
theorem asc_ins {l : List Nat} {p j : Nat} (h : Asc l) (h1 : ∀ i v : Nat, i < p → l[i]? = some v → v < j) (h2 : ∀ i v : Nat, p ≤ i → l[i]? = some v → j ≤ v) (hn : j ∉ l) : Asc (ins l p j) := by
  have a1 : ∀ x ∈ l.take p, x < j := fun x hx => by
    obtain ⟨i, hi⟩ := List.getElem?_of_mem hx
    rw [List.getElem?_take] at hi
    split at hi
    · exact h1 i x (by assumption) hi
    · cases hi
  have a2 : ∀ x ∈ l.drop p, j < x := fun x hx => by
    obtain ⟨i, hi⟩ := List.getElem?_of_mem hx
    rw [List.getElem?_drop] at hi
    have := h2 (p + i) x (Nat.le_add_right ..) hi
    have : x ≠ j := fun e => hn (by rw [← e]; exact List.mem_of_getElem? hi)
    omega
  have s : (l.take p ++ l.drop p).Pairwise (· < ·) := by rw [List.take_append_drop]; exact h
  rw [List.pairwise_append] at s
  show (l.take p ++ j :: l.drop p).Pairwise (· < ·)
  rw [List.pairwise_append, List.pairwise_cons]
  refine ⟨s.1, ⟨a2, s.2.1⟩, fun a ha b hb => ?_⟩
  rcases List.mem_cons.mp hb with rfl | hb
  · exact a1 a ha
  · exact s.2.2 a ha b hb
/-- one more, at the first free place -/
theorem Tab.put {t : SetTable} {hs : List Int} (T : Tab t hs) {h : Int} {e : Nat} (f : FirstFree t.mask t.place.toList h e) :
    Tab (t.put (nth t.mask e (start t.mask h)).j).1 (ins hs (t.put (nth t.mask e (start t.mask h)).j).2 h) ∧ (t.put (nth t.mask e (start t.mask h)).j).1.mask = t.mask := by
  have hj := FirstFree.place_le (mask := t.mask) (h := h) (e := e)
  have hf := f.free
  have hw : onWay t.mask t.place.toList h (nth t.mask e (start t.mask h)).j := ⟨e, rfl, f.before⟩
  generalize (nth t.mask e (start t.mask h)).j = j at *
  obtain ⟨b1, b2, b3⟩ := below_spec T.asc j
  have e1 : (t.put j).1 = { t with place := insertAt t.place (below t.place j) j } := by
    unfold SetTable.put
    have e2 : has t.dummies j = false := by
      rw [T.dm]
      unfold has
      simp
    rw [e2]
    rfl
  have e2 : (t.put j).2 = below t.place j := rfl
  rw [e1, e2]
  have el : ({ t with place := insertAt t.place (below t.place j) j } : SetTable).place.toList = ins t.place.toList (below t.place j) j := toList_ins ..
  refine ⟨⟨T.pow, T.dm, ?_, ?_, ?_, ?_⟩, rfl⟩
  · rw [el]
    exact asc_ins T.asc b2 b3 hf
  · intro x hx
    rw [el, (ins_perm ..).mem_iff] at hx
    rcases List.mem_cons.mp hx with rfl | hx
    · exact hj
    · exact T.top x hx
  · rw [el, (ins_perm ..).length_eq, (ins_perm ..).length_eq, List.length_cons, List.length_cons, T.len]
  · intro x hx
    rw [el, ins_zip T.len, (ins_perm ..).mem_iff] at hx
    rw [el]
    have sub : ∀ x ∈ t.place.toList, x ∈ ins t.place.toList (below t.place j) j := fun x hx => (ins_perm ..).mem_iff.mpr (List.mem_cons_of_mem _ hx)
    rcases List.mem_cons.mp hx with rfl | hx
    · exact hw.mono sub
    · exact (T.way x hx).mono sub

/-! ### a new, larger table -/
/-- what the laying of the hashes keeps: owner tells who stands where -/
structure Own (mask : Nat) (hs : List Int) (owner : Array (Option Nat)) : Prop where
  size : owner.size = mask + 1
  lt : ∀ j k : Nat, owner[j]? = some (some k) → k < hs.length
  one : ∀ i j k : Nat, owner[i]? = some (some k) → owner[j]? = some (some k) → i = j
  all : ∀ k : Nat, k < hs.length → ∃ j : Nat, owner[j]? = some (some k)
  way : ∀ (j k : Nat) (h : Int), owner[j]? = some (some k) → hs[k]? = some h → ∃ n, (nth mask n (start mask h)).j = j ∧ ∀ m, m < n → ∃ i, owner[(nth mask m (start mask h)).j]? = some (some i)
def taken (owner : Array (Option Nat)) : List Nat := (List.range owner.size).filter fun j => (owner.getD j none).isSome
theorem mem_taken {owner : Array (Option Nat)} {j : Nat} : j ∈ taken owner ↔ ∃ k, owner[j]? = some (some k) := by
  unfold taken
  rw [List.mem_filter, List.mem_range, Array.getD_eq_getD_getElem?]
  constructor
  · rintro ⟨h1, h2⟩
    rw [Array.getElem?_eq_getElem h1] at h2 ⊢
    rw [Option.getD_some] at h2
    obtain ⟨k, hk⟩ := Option.isSome_iff_exists.mp h2
    exact ⟨k, by rw [hk]⟩
  · rintro ⟨k, hk⟩
    rw [hk]
    exact ⟨(Array.getElem?_eq_some_iff.mp hk).1, rfl⟩
/-- a search through one run -/
theorem free_run {mask : Nat} {owner : Array (Option Nat)} (hz : owner.size = mask + 1) {x : Nat × Nat} (hx : x.1 ≤ mask) : ∀ {r : Option Nat}, (List.range (runEnd mask x.1 + 1 - x.1)).find? (fun k => (owner.getD (x.1 + k) (some 0)).isNone) = r →
    (∀ k, r = some k → k ≤ (run mask x none).more ∧ owner[x.1 + k]? = some none ∧ ∀ m, m < k → ∃ i, owner[x.1 + m]? = some (some i)) ∧ (r = none → ∀ m, m ≤ (run mask x none).more → ∃ i, owner[x.1 + m]? = some (some i)) := by
  have re : runEnd mask x.1 ≤ mask ∧ x.1 ≤ runEnd mask x.1 := by unfold runEnd; split <;> omega
  have em : (run mask x none).more = runEnd mask x.1 - x.1 := rfl
  have at_ : ∀ m, m ≤ (run mask x none).more → owner[x.1 + m]? = some none ∨ ∃ i, owner[x.1 + m]? = some (some i) := fun m hm => by
    rw [em] at hm
    rw [Array.getElem?_eq_getElem (by omega : x.1 + m < owner.size)]
    cases owner[x.1 + m]'(by omega) with
    | none => exact .inl rfl
    | some i => exact .inr ⟨i, rfl⟩
  have isn : ∀ m, owner[x.1 + m]? = some none → (owner.getD (x.1 + m) (some 0)).isNone = true := fun m h => by
    rw [Array.getD_eq_getD_getElem?, h]
    rfl
  have nis : ∀ m, m ≤ (run mask x none).more → (owner.getD (x.1 + m) (some 0)).isNone = true → owner[x.1 + m]? = some none := fun m hm h => by
    rcases at_ m hm with q | ⟨i, q⟩
    · exact q
    · rw [Array.getD_eq_getD_getElem?, q] at h
      cases h
  intro r hr
  constructor
  · intro k e
    subst e
    obtain ⟨h1, h2, h3⟩ := List.find?_range_eq_some.mp hr
    have hk : k ≤ (run mask x none).more := by rw [em]; have := List.mem_range.mp h2; omega
    refine ⟨hk, nis k hk h1, fun m hm => ?_⟩
    rcases at_ m (by omega) with q | q
    · have h4 := h3 m hm
      rw [isn m q] at h4
      cases h4
    · exact q
  · intro e m hm
    subst e
    rcases at_ m hm with q | q
    · have h4 := List.find?_eq_none.mp hr m (List.mem_range.mpr (by rw [em] at hm; omega))
      exact absurd (isn m q) h4
    · exact q
theorem free_spec {mask : Nat} {owner : Array (Option Nat)} (hz : owner.size = mask + 1) : ∀ (fuel : Nat) {x : Nat × Nat}, x.1 ≤ mask → x.2 < 2 ^ 64 → (∃ n, n < fuel ∧ owner[(lp mask n x).1]? = some none) →
    ∃ n, layClean.free mask owner fuel x.1 x.2 = some (nth mask n (run mask x none)).j ∧ owner[(nth mask n (run mask x none)).j]? = some none ∧ ∀ m, m < n → ∃ i, owner[(nth mask m (run mask x none)).j]? = some (some i)
  | 0, _, _, _, ⟨n, hn, _⟩ => absurd hn (Nat.not_lt_zero _)
  | fuel + 1, x, hx, hb, ⟨n, hn, e⟩ => by
    have fr := free_run hz hx (r := _) rfl
    have f0 : Fine mask (run mask x none) := run_fine hx hb
    have at_ : ∀ m, m ≤ (run mask x none).more → (nth mask m (run mask x none)).j = x.1 + m := fun m hm => by rw [nth_run m hm]; rfl
    unfold layClean.free
    generalize (List.range (runEnd mask x.1 + 1 - x.1)).find? (fun k => (owner.getD (x.1 + k) (some 0)).isNone) = r at fr
    cases r with
    | some k =>
      obtain ⟨h1, h2, h3⟩ := fr.1 k rfl
      refine ⟨k, ?_, ?_, fun m hm => ?_⟩
      · rw [at_ k h1]
      · rw [at_ k h1]
        exact h2
      · rw [at_ m (by omega)]
        exact h3 m hm
    | none =>
      have h3 := fr.2 rfl
      have l1 : (leap mask x.1 x.2).1 ≤ mask := Nat.le_of_lt_succ (Nat.mod_lt _ (Nat.succ_pos _))
      have l2 : (leap mask x.1 x.2).2 < 2 ^ 64 := by show x.2 / 32 < _; omega
      cases n with
      | zero =>
        obtain ⟨i, hi⟩ := h3 0 (Nat.zero_le _)
        rw [show owner[(lp mask 0 x).1]? = owner[x.1 + 0]? from rfl, hi] at e
        cases e
      | succ n =>
        obtain ⟨n2, g1, g2, g3⟩ := free_spec hz fuel l1 l2 ⟨n, by omega, e⟩
        have lk := nth_leap f0
        have sh : ∀ m, nth mask ((run mask x none).more + 1 + m) (run mask x none) = nth mask m (run mask (leap mask x.1 x.2) none) := fun m => by
          rw [nth_add, lk]
          rfl
        refine ⟨(run mask x none).more + 1 + n2, ?_, ?_, fun m hm => ?_⟩
        · rw [sh]
          exact g1
        · rw [sh]
          exact g2
        · by_cases q : m ≤ (run mask x none).more
          · rw [at_ m q]
            exact h3 m q
          · obtain ⟨d, rfl⟩ : ∃ d, m = (run mask x none).more + 1 + d := ⟨m - ((run mask x none).more + 1), by omega⟩
            rw [sh]
            exact g3 d (by omega)

theorem asc_taken (owner : Array (Option Nat)) : Asc (taken owner) := List.pairwise_lt_range.filter _
theorem Own.taken_len {mask : Nat} {hs : List Int} {owner : Array (Option Nat)} (O : Own mask hs owner) : (taken owner).length ≤ hs.length := by
  have h := nodup_len (h := (taken owner).map fun j => (owner.getD j none).getD 0) (l := List.range hs.length) ?_ ?_
  · rwa [List.length_map, List.length_range] at h
  · show List.Pairwise (· ≠ ·) _
    rw [List.pairwise_map]
    refine List.Pairwise.imp_of_mem ?_ (asc_nodup (asc_taken owner))
    intro a b ha hb hab e
    obtain ⟨k, hk⟩ := mem_taken.mp ha
    obtain ⟨m, hm⟩ := mem_taken.mp hb
    rw [Array.getD_eq_getD_getElem?, Array.getD_eq_getD_getElem?, hk, hm] at e
    have e' : k = m := e
    subst e'
    exact hab (O.one a b k hk hm)
  · intro x hx
    obtain ⟨j, hj, rfl⟩ := List.mem_map.mp hx
    obtain ⟨k, hk⟩ := mem_taken.mp hj
    rw [Array.getD_eq_getD_getElem?, hk]
    exact List.mem_range.mpr (O.lt j k hk)
def layStep (mask : Nat) (acc : Option (Array (Option Nat) × Nat)) (h : Int) : Option (Array (Option Nat) × Nat) := do
    let (owner, k) ← acc
    let j ← layClean.free mask owner (turns mask) (bits h % (mask + 1)) (bits h)
    pure (owner.setIfInBounds j (some k), k + 1)
theorem own_step {mask k : Nat} (hk : mask + 1 = 2 ^ k) {done : List Int} {owner : Array (Option Nat)} (O : Own mask done owner) (h : Int) (hl : done.length < mask + 1) :
    ∃ owner', layStep mask (some (owner, done.length)) h = some (owner', done.length + 1) ∧ Own mask (done ++ [h]) owner' := by
  have x1 : bits h % (mask + 1) ≤ mask := Nat.le_of_lt_succ (Nat.mod_lt _ (Nat.succ_pos _))
  have x2 := bits_lt h
  obtain ⟨j0, hj0, hn0⟩ := free_place (mask := mask) (l := taken owner) (Nat.le_trans O.taken_len (by omega))
  obtain ⟨n0, h0, h1, h2⟩ := lp_all hk (x := (bits h % (mask + 1), bits h)) x2 hj0
  have e0 : owner[j0]? = some none := by
    rw [Array.getElem?_eq_getElem (by rw [O.size]; omega)]
    cases e : owner[j0]'(by rw [O.size]; omega) with
    | none => rfl
    | some i => exact absurd (mem_taken.mpr ⟨i, by rw [Array.getElem?_eq_getElem (by rw [O.size]; omega), e]⟩) hn0
  obtain ⟨n, g1, g2, g3⟩ := free_spec O.size (turns mask) x1 x2 ⟨n0, by unfold turns; omega, by rw [h2]; exact e0⟩
  have es : run mask (bits h % (mask + 1), bits h) none = start mask h := rfl
  rw [es] at g1 g2 g3
  have hw : (nth mask n (start mask h)).j = (nth mask n (start mask h)).j := rfl
  refine ⟨owner.setIfInBounds (nth mask n (start mask h)).j (some done.length), ?_, ?_⟩
  · show (layClean.free mask owner (turns mask) (bits h % (mask + 1)) (bits h)).bind _ = _
    rw [g1]
    rfl
  · have hj : (nth mask n (start mask h)).j < owner.size := (Array.getElem?_eq_some_iff.mp g2).1
    have self : (owner.setIfInBounds (nth mask n (start mask h)).j (some done.length))[(nth mask n (start mask h)).j]? = some (some done.length) := by
      rw [Array.getElem?_setIfInBounds_self]
      rw [if_pos hj]
    have ne : ∀ i : Nat, i ≠ (nth mask n (start mask h)).j → (owner.setIfInBounds (nth mask n (start mask h)).j (some done.length))[i]? = owner[i]? := fun i hi => Array.getElem?_setIfInBounds_ne (fun z => hi z.symm)
    have keep : ∀ i k : Nat, owner[i]? = some (some k) → (owner.setIfInBounds (nth mask n (start mask h)).j (some done.length))[i]? = some (some k) := fun i k hi => by
      rw [ne i (fun z => by rw [z, g2] at hi; cases hi)]
      exact hi
    have back : ∀ i k : Nat, (owner.setIfInBounds (nth mask n (start mask h)).j (some done.length))[i]? = some (some k) → (i = (nth mask n (start mask h)).j ∧ k = done.length) ∨ owner[i]? = some (some k) := fun i k hi => by
      by_cases q : i = (nth mask n (start mask h)).j
      · subst q
        rw [self] at hi
        cases hi
        exact .inl ⟨rfl, rfl⟩
      · rw [ne i q] at hi
        exact .inr hi
    refine ⟨by rw [Array.size_setIfInBounds]; exact O.size, fun j k hjk => ?_, fun i j k hi hjk => ?_, fun k hkk => ?_, fun j k h' hjk hh => ?_⟩
    · rw [List.length_append, List.length_singleton]
      rcases back j k hjk with ⟨_, rfl⟩ | q
      · omega
      · have := O.lt j k q
        omega
    · rcases back i k hi with ⟨a, b⟩ | q <;> rcases back j k hjk with ⟨c, d⟩ | q'
      · rw [a, c]
      · have := O.lt j k q'
        omega
      · have := O.lt i k q
        omega
      · exact O.one i j k q q'
    · rw [List.length_append, List.length_singleton] at hkk
      by_cases q : k = done.length
      · subst q
        exact ⟨_, self⟩
      · obtain ⟨j, hj⟩ := O.all k (by omega)
        exact ⟨j, keep j k hj⟩
    · rcases back j k hjk with ⟨rfl, rfl⟩ | q
      · rw [List.getElem?_append_right (Nat.le_refl _), Nat.sub_self] at hh
        cases hh
        refine ⟨n, rfl, fun m hm => ?_⟩
        obtain ⟨i, hi⟩ := g3 m hm
        exact ⟨i, keep _ _ hi⟩
      · rw [List.getElem?_append_left (O.lt j k q)] at hh
        obtain ⟨n', a, b⟩ := O.way j k h' q hh
        refine ⟨n', a, fun m hm => ?_⟩
        obtain ⟨i, hi⟩ := b m hm
        exact ⟨i, keep _ _ hi⟩
theorem own_all {mask k : Nat} (hk : mask + 1 = 2 ^ k) : ∀ (rest done : List Int) (owner : Array (Option Nat)), Own mask done owner → (done ++ rest).length ≤ mask → ∃ owner', rest.foldl (layStep mask) (some (owner, done.length)) = some (owner', (done ++ rest).length) ∧ Own mask (done ++ rest) owner'
  | [], done, owner, O, _ => ⟨owner, by rw [List.append_nil]; rfl, by rw [List.append_nil]; exact O⟩
  | h :: rest, done, owner, O, hl => by
    rw [List.length_append, List.length_cons] at hl
    obtain ⟨o1, e1, O1⟩ := own_step hk O h (by omega)
    have el : (done ++ [h]).length = done.length + 1 := by simp
    obtain ⟨o2, e2, O2⟩ := own_all hk rest (done ++ [h]) o1 O1 (by rw [List.length_append, el]; omega)
    refine ⟨o2, ?_, ?_⟩
    · rw [List.foldl_cons, e1, ← el, e2]
      simp
    · rw [List.append_assoc] at O2
      exact O2
theorem own_nil (mask : Nat) : Own mask [] (Array.replicate (mask + 1) none) := by
  have z : ∀ j k : Nat, (Array.replicate (mask + 1) (none : Option Nat))[j]? = some (some k) → False := fun j k h => by
    rw [Array.getElem?_replicate] at h
    split at h <;> cases h
  exact ⟨by simp, fun j k h => (z j k h).elim, fun i j k h => (z i k h).elim, fun k h => absurd h (Nat.not_lt_zero _), fun j k _ h => (z j k h).elim⟩
theorem layClean_spec {mask k : Nat} (hk : mask + 1 = 2 ^ k) (hs : Array Int) (hl : hs.size ≤ mask) : ∃ owner, layClean mask hs = some owner ∧ Own mask hs.toList owner := by
  obtain ⟨o, e, O⟩ := own_all hk hs.toList [] _ (own_nil mask) (by simpa using hl)
  refine ⟨o, ?_, by simpa using O⟩
  unfold layClean
  rw [← Array.foldl_toList]
  show (List.foldl (layStep mask) (some (Array.replicate (mask + 1) none, 0)) hs.toList).map (·.1) = some o
  rw [show (0 : Nat) = ([] : List Int).length from rfl, e]
  rfl
/-! live: the places taken, and who stands there -/
def liveOf (mask : Nat) (owner : Array (Option Nat)) : List (Nat × Nat) := (List.range (mask + 1)).filterMap fun j => (owner.getD j none).map (j, ·)
theorem mem_live {mask : Nat} {owner : Array (Option Nat)} (hz : owner.size = mask + 1) {x : Nat × Nat} : x ∈ liveOf mask owner ↔ owner[x.1]? = some (some x.2) := by
  unfold liveOf
  rw [List.mem_filterMap]
  constructor
  · rintro ⟨j, hj, e⟩
    rw [List.mem_range] at hj
    rw [Array.getD_eq_getD_getElem?, Array.getElem?_eq_getElem (by omega), Option.getD_some, Option.map_eq_some_iff] at e
    obtain ⟨k, hk, rfl⟩ := e
    show owner[j]? = some (some k)
    rw [Array.getElem?_eq_getElem (by omega), hk]
  · intro h
    refine ⟨x.1, List.mem_range.mpr (by have := (Array.getElem?_eq_some_iff.mp h).1; omega), ?_⟩
    rw [Array.getD_eq_getD_getElem?, h]
    rfl
theorem live_asc {mask : Nat} {owner : Array (Option Nat)} : (liveOf mask owner).Pairwise fun a b => a.1 < b.1 := by
  unfold liveOf
  refine List.Pairwise.filterMap _ ?_ List.pairwise_lt_range
  intro a a' h b hb b' hb'
  rw [Option.map_eq_some_iff] at hb hb'
  obtain ⟨k, _, rfl⟩ := hb
  obtain ⟨k', _, rfl⟩ := hb'
  exact h
theorem zip_live {α : Type} {g : Nat → Option (Int × α)} : ∀ (l : List (Nat × Nat)), (∀ x ∈ l, ∃ y, g x.2 = some y) →
    ((l.map (·.2)).filterMap g).length = l.length ∧ ∀ z, z ∈ (l.map (·.1)).zip (((l.map (·.2)).filterMap g).map (·.1)) → ∃ x y, x ∈ l ∧ g x.2 = some y ∧ z = (x.1, y.1)
  | [], _ => ⟨rfl, fun z hz => by cases hz⟩
  | x :: l, h => by
    obtain ⟨y, hy⟩ := h x (List.mem_cons_self ..)
    obtain ⟨a, b⟩ := zip_live l fun x hx => h x (List.mem_cons_of_mem _ hx)
    rw [List.map_cons, List.filterMap_cons_some hy]
    refine ⟨by simp only [List.length_cons]; rw [a], fun z hz => ?_⟩
    rw [List.map_cons, List.map_cons, List.zip_cons_cons] at hz
    rcases List.mem_cons.mp hz with rfl | hz
    · exact ⟨x, y, List.mem_cons_self .., hy, rfl⟩
    · obtain ⟨x', y', h1, h2, h3⟩ := b z hz
      exact ⟨x', y', List.mem_cons_of_mem _ h1, h2, h3⟩
theorem laid_spec {α : Type} {mask k : Nat} (hk : mask + 1 = 2 ^ k) (es : Array (Int × α)) (hl : es.size ≤ mask) (finger moves : Nat) (led plain : Bool) :
    ∃ t order, laid mask finger moves led plain (es.map (·.1)) = some (t, order) ∧ t.mask = mask ∧ t.led = led ∧ t.plain = plain ∧ (order.filterMap (es[·]?)).toList.Perm es.toList ∧ Tab t ((order.filterMap (es[·]?)).toList.map (·.1)) := by
  obtain ⟨owner, e, O⟩ := layClean_spec hk (es.map (·.1)) (by rw [Array.size_map]; exact hl)
  have hsl : (es.map (·.1)).toList = es.toList.map (·.1) := by simp
  rw [hsl] at O
  have hlen : (es.toList.map (·.1)).length = es.size := by simp
  have ml := fun x => mem_live O.size (x := x)
  refine ⟨⟨mask, ((liveOf mask owner).map (·.1)).toArray, #[], finger, led, moves, plain⟩, ((liveOf mask owner).map (·.2)).toArray, ?_, rfl, rfl, rfl, ?_, ?_⟩
  · unfold laid
    rw [e]
    rfl
  · rw [Array.toList_filterMap]
    have nd : ((liveOf mask owner).map (·.2)).Nodup := by
      show List.Pairwise (· ≠ ·) _
      rw [List.pairwise_map]
      refine List.Pairwise.imp_of_mem ?_ live_asc
      intro a b ha hb hab z
      have h1 := (ml a).mp ha
      have h2 := (ml b).mp hb
      rw [← z] at h2
      have := O.one _ _ _ h1 h2
      omega
    have pm : ((liveOf mask owner).map (·.2)).Perm (List.range es.size) := by
      refine (List.perm_ext_iff_of_nodup nd List.nodup_range).mpr fun i => ?_
      rw [List.mem_map, List.mem_range]
      constructor
      · rintro ⟨x, hx, rfl⟩
        rw [← hlen]
        exact O.lt _ _ ((ml x).mp hx)
      · intro hi
        obtain ⟨j, hj⟩ := O.all i (by rw [hlen]; exact hi)
        exact ⟨(j, i), (ml (j, i)).mpr hj, rfl⟩
    exact (pm.filterMap _).trans (by rw [filterMap_getElem?_range])
  · have gs : ∀ x ∈ liveOf mask owner, ∃ y, es[x.2]? = some y := fun x hx => by
      have := O.lt _ _ ((ml x).mp hx)
      rw [hlen] at this
      exact ⟨_, Array.getElem?_eq_getElem this⟩
    obtain ⟨z1, z2⟩ := zip_live (g := fun i => es[i]?) (liveOf mask owner) gs
    refine ⟨⟨k, hk⟩, rfl, ?_, ?_, ?_, ?_⟩
    · show ((liveOf mask owner).map (·.1)).Pairwise (· < ·)
      rw [List.pairwise_map]
      exact live_asc
    · intro j hj
      obtain ⟨x, hx, rfl⟩ := List.mem_map.mp (show j ∈ (liveOf mask owner).map (·.1) from hj)
      have := (Array.getElem?_eq_some_iff.mp ((ml x).mp hx)).1
      show x.1 ≤ mask
      rw [O.size] at this
      omega
    · rw [Array.toList_filterMap]
      show ((liveOf mask owner).map (·.1)).length = ((((liveOf mask owner).map (·.2)).filterMap (es[·]?)).map (·.1)).length
      rw [List.length_map, List.length_map, z1]
    · rw [Array.toList_filterMap]
      intro z hz
      obtain ⟨x, y, h1, h2, rfl⟩ := z2 z hz
      have hx := (ml x).mp h1
      obtain ⟨n, a, b⟩ := O.way x.1 x.2 y.1 hx (by rw [List.getElem?_map, Array.getElem?_toList, h2]; rfl)
      refine ⟨n, a, fun m hm => ?_⟩
      obtain ⟨i, hi⟩ := b m hm
      exact List.mem_map.mpr ⟨(_, i), (ml (_, i)).mpr hi, rfl⟩

/-! ### how large the table grows -/
def Mk (m : Nat) : Prop := m = 7 ∨ m = 31 ∨ m = 127 ∨ m = 511 ∨ m = 2047 ∨ m = 8191
theorem Mk.le {m : Nat} (h : Mk m) : m ≤ 8191 := by unfold Mk at h; omega
theorem Mk.pow {m : Nat} (h : Mk m) : ∃ k, m + 1 = 2 ^ k := by
  rcases h with rfl | rfl | rfl | rfl | rfl | rfl
  · exact ⟨3, rfl⟩
  · exact ⟨5, rfl⟩
  · exact ⟨7, rfl⟩
  · exact ⟨9, rfl⟩
  · exact ⟨11, rfl⟩
  · exact ⟨13, rfl⟩
theorem Mk.grow {m n : Nat} (h : Mk m) (h1 : n * 5 < m * 3) (h2 : (n + 1) * 5 ≥ m * 3) (h3 : n < 4096) : ∃ m', Mk m' ∧ sizeAbove (grown (n + 1)) = m' + 1 ∧ (n + 1) * 5 < m' * 3 := by
  rcases h with rfl | rfl | rfl | rfl | rfl | rfl
  · have e : n = 4 := by omega
    subst e
    exact ⟨31, (by unfold Mk; omega), by decide +kernel, by decide⟩
  · have e : n = 18 := by omega
    subst e
    exact ⟨127, (by unfold Mk; omega), by decide +kernel, by decide⟩
  · have e : n = 76 := by omega
    subst e
    exact ⟨511, (by unfold Mk; omega), by decide +kernel, by decide⟩
  · have e : n = 306 := by omega
    subst e
    exact ⟨2047, (by unfold Mk; omega), by decide +kernel, by decide⟩
  · have e : n = 1228 := by omega
    subst e
    exact ⟨8191, (by unfold Mk; omega), by decide +kernel, by decide⟩
  · omega
end TM

namespace Ts
open PySem
theorem erase_perm {α : Type} {l : List α} {i : Nat} (h : i < l.length) : (l[i] :: l.eraseIdx i).Perm l := by
  rw [List.eraseIdx_eq_take_drop_succ]
  refine List.perm_middle.symm.trans ?_
  rw [List.getElem_cons_drop, List.take_append_drop]
theorem pick_go {α : Type} (next : Nat → Nat) : ∀ (fuel k : Nat) (left : List α) (out : Array α), left.length = fuel → (pickOrder.go next fuel k left out).toList.Perm (out.toList ++ left)
  | 0, _, left, out, h => by
    have e : left = [] := List.length_eq_zero_iff.mp h
    subst e
    unfold pickOrder.go
    rw [List.append_nil]
  | fuel + 1, k, left, out, h => by
    unfold pickOrder.go
    have lt : next k % left.length < left.length := Nat.mod_lt _ (by omega)
    rw [List.getElem?_eq_getElem lt]
    dsimp only
    refine (pick_go next fuel (k + 1) (left.eraseIdx (next k % left.length)) (out.push left[next k % left.length]) (by rw [List.length_eraseIdx_of_lt lt]; omega)).trans ?_
    rw [Array.toList_push, List.append_assoc]
    refine List.Perm.append_left _ ?_
    exact erase_perm lt
theorem pick_perm {α : Type} (next : Nat → Nat) (xs : Array α) : (pickOrder next xs).toList.Perm xs.toList := by
  have := pick_go next xs.size 0 xs.toList #[] (by simp)
  simpa [pickOrder] using this
theorem pick_go_map {α β : Type} (f : α → β) (next : Nat → Nat) : ∀ (fuel k : Nat) (left : List α) (out : Array α), pickOrder.go next fuel k (left.map f) (out.map f) = (pickOrder.go next fuel k left out).map f
  | 0, _, _, _ => by unfold pickOrder.go; rfl
  | fuel + 1, k, left, out => by
    unfold pickOrder.go
    rw [List.length_map, List.getElem?_map]
    cases e : left[next k % left.length]? with
    | none => rfl
    | some x =>
      show pickOrder.go next fuel (k + 1) ((left.map f).eraseIdx (next k % left.length)) ((out.map f).push (f x)) = _
      rw [← Array.map_push, List.eraseIdx_eq_take_drop_succ, ← List.map_take, ← List.map_drop, ← List.map_append, ← List.eraseIdx_eq_take_drop_succ]
      exact pick_go_map f next fuel (k + 1) _ _
theorem pick_map {α β : Type} (f : α → β) (next : Nat → Nat) (xs : List α) : pickOrder next (xs.map f).toArray = (pickOrder next xs.toArray).map f := by
  have := pick_go_map f next xs.length 0 xs #[]
  simpa [pickOrder] using this
end Ts

namespace Ts
open PySem PySem.SetTable TM
abbrev Z := Addr × List Int
section
variable (prog : Program) (w : World)
def hk (ks : List Int) : Int := tupleKeyHash (intKind prog w) ks
def cell (z : Z) : Int × Value := (hk prog w z.2, .ref z.1)
def cells (zs : List Z) : Array (Int × Value) := (zs.map (cell prog w)).toArray
/-- the table of a set of tuples -/
structure TabOf (t : SetTable) (zs : List Z) : Prop where
  tab : Tab t (zs.map fun z => hk prog w z.2)
  msk : Mk t.mask
  few : zs.length * 5 < t.mask * 3
  plain : t.plain = true
  led : t.led = !w.params.followText "set-order"
  nd : (zs.map (·.2)).Nodup
/-- the set at a holds these tuples -/
def SetAt (h : Heap) (a : Addr) (zs : List Z) (ep : Nat) (t : SetTable) : Prop := ∃ o, h.get? a = some o ∧ o.ExactSet ∧ o.data = .set (cells prog w zs) ep t ∧ TabOf prog w t zs
def Tups (h : Heap) (zs : List Z) : Prop := ∀ z ∈ zs, IsTupleKey (intKind prog w) h z.2 z.1
end
section
variable {prog : Program} {w : World} {A : Around} {E : Value → Shared → Prop} {s : Shared}
theorem cells_size (zs : List Z) : (cells prog w zs).size = zs.length := by unfold cells; simp
theorem cells_at (zs : List Z) (i : Nat) : (cells prog w zs)[i]? = (zs[i]?).map (cell prog w) := by
  unfold cells
  rw [List.getElem?_toArray, List.getElem?_map]
theorem TabOf.fits {t : SetTable} {zs : List Z} (T : TabOf prog w t zs) : t.fits (cells prog w zs).size = true := by
  have h1 := T.tab.size
  have h2 := T.tab.fill
  have h3 := T.few
  rw [List.length_map] at h1 h2
  unfold SetTable.fits
  rw [cells_size, h1, h2, Bool.and_eq_true]
  exact ⟨by simp, by simp; omega⟩
theorem TabOf.way {t : SetTable} {zs : List Z} (T : TabOf prog w t zs) : t.gaveWay = false := by
  unfold SetTable.gaveWay
  rcases T.msk with h | h | h | h | h | h <;> rw [h] <;> rfl
theorem TabOf.len {t : SetTable} {zs : List Z} (T : TabOf prog w t zs) : t.place.toList.length = zs.length := by rw [T.tab.len, List.length_map]
theorem probe_meets {t : SetTable} {hs : List Int} (T : Tab t hs) (hl : hs.length ≤ t.mask) {f : Nat → Int} {h : Int} {p : Probe} {r : Option Met} (hr : t.probe f h p = r) (fp : Fine t.mask p) :
    ∃ n m, r = some m ∧ Meets t f h p n m ∧ ∀ k, k < n → ∃ i, t.place.toList[i]? = some (nth t.mask k p).j ∧ f i ≠ h := by
  obtain ⟨k, hk⟩ := T.pow
  obtain ⟨j, hj, hn⟩ := free_place (l := t.place.toList) (mask := t.mask) (by rw [T.len]; exact hl)
  obtain ⟨n, h1, h2⟩ := nth_all hk fp hj
  obtain ⟨n, m, g1, g2, g3⟩ := go_meets T.asc T.dm (hashAt := f) (h := h) (10 * turns t.mask) fp ⟨n, h1, by rw [h2]; exact hn⟩
  exact ⟨n, m, by rw [← hr]; exact g1, g2, g3⟩
theorem int_inv {k : Int} {v : Value} (h : (intKind prog w).is k v = true) : ∃ t, v = .int k t := by
  have h : v.isInt k = true := h
  cases v with
  | int i t =>
    have e : i = k := by simpa [Value.isInt] using h
    exact ⟨t, by rw [e]⟩
  | _ => simp [Value.isInt] at h
theorem int_item {x : List Int} {vs : List Value} (h : ItemsAre (intKind prog w) x vs) : ∀ v ∈ vs, ∃ i t, v = .int i t := by
  induction h with
  | nil => intro v hv; cases hv
  | cons h1 _ ih =>
    intro v hv
    rcases List.mem_cons.mp hv with rfl | hv
    · exact ⟨_, int_inv h1⟩
    · exact ih v hv
/-- a tuple of ints is of no class statement -/
theorem noClass {ks : List Int} {x : Addr} {Q : Bool → Shared → Prop} (hx : IsTupleKey (intKind prog w) s.heap ks x) (h : Q false s) : wpAny (model prog w) A (ofAClassStatement 8 (.ref x)) Q E s := by
  have hT := hx.typeIs
  obtain ⟨o, items, n, ho, _, hd, hi⟩ := hx
  unfold ofAClassStatement
  refine wpAny_bind (wpAny_typeOf hT ?_)
  dsimp only
  rw [if_pos (by decide)]
  refine wpAny_bind (wpAny_pure ?_)
  simp only [Bool.not_true, Bool.false_eq_true, ↓reduceIte]
  refine wpAny_bind (wpAny_seqItems ho hd ?_)
  dsimp only
  refine wpAny_bind ?_
  rw [← Array.forIn_toList]
  refine wpAny_forIn_list _ (fun rest r s' => r.1 = none ∧ s' = s ∧ ∀ v ∈ rest, ∃ i t, v = Value.int i t) _ ?_ ?_ _ _ ⟨rfl, rfl, int_item hi⟩
  · rintro v rest r s' ⟨hr, rfl, hall⟩
    obtain ⟨i, t, rfl⟩ := hall v List.mem_cons_self
    refine wpAny_bind (m := ofAClassStatement 7 (.int i t)) (wpAny_pure ?_)
    simp only [Bool.false_eq_true, ↓reduceIte]
    exact wpAny_pure ⟨rfl, rfl, fun u hu' => hall u (List.mem_cons_of_mem _ hu')⟩
  · rintro ⟨r1, r2⟩ s' ⟨hr, rfl, _⟩
    simp only at hr
    subst hr
    exact wpAny_pure h
theorem seen_no {ks : List Int} {x : Addr} {zs : List Z} {Q : Bool → Shared → Prop} (hx : IsTupleKey (intKind prog w) s.heap ks x) : ∀ (l : List Value), (∀ v ∈ l, ∃ z ∈ zs, v = .ref z.1) → Tups prog w s.heap zs → Q false s → wpAny (model prog w) A (searchCouldBeSeen (.ref x) l) Q E s := by
  intro l hl tz h
  unfold searchCouldBeSeen
  refine wpAny_bind ?_
  refine wpAny_forIn_list _ (fun rest r s' => r.1 = none ∧ s' = s ∧ ∀ v ∈ rest, ∃ z ∈ zs, v = Value.ref z.1) _ ?_ ?_ _ _ ⟨rfl, rfl, hl⟩
  · rintro v rest r s' ⟨hr, rfl, hall⟩
    obtain ⟨z, hz, rfl⟩ := hall v List.mem_cons_self
    have fin : ∀ P : ForInStep (Option Bool × Unit) → Shared → Prop, P (.yield (none, ())) s' → wpAny (model prog w) A (pure (ForInStep.yield (none, ())) : Sem (ForInStep (Option Bool × Unit))) P E s' := fun P hp => wpAny_pure hp
    refine wpAny_ite_split (fun _ => wpAny_pure ⟨rfl, rfl, fun u hu' => hall u (List.mem_cons_of_mem _ hu')⟩) (fun _ => ?_)
    refine wpAny_bind (wpAny_eqIsQuiet_tuple hx ?_)
    simp only [Bool.not_true, Bool.false_eq_true, ↓reduceIte]
    refine wpAny_bind (wpAny_eqIsQuiet_tuple (tz z hz) ?_)
    simp only [Bool.not_true, Bool.false_eq_true, ↓reduceIte]
    refine wpAny_bind (noClass hx ?_)
    simp only [Bool.false_eq_true, ↓reduceIte]
    refine wpAny_bind (noClass (tz z hz) ?_)
    simp only [Bool.false_eq_true, ↓reduceIte]
    exact wpAny_pure ⟨rfl, rfl, fun u hu' => hall u (List.mem_cons_of_mem _ hu')⟩
  · rintro ⟨r1, r2⟩ s' ⟨hr, rfl, _⟩
    simp only at hr
    subst hr
    exact wpAny_pure h
theorem byValue {ks : List Int} {x : Addr} {Q : Bool → Shared → Prop} (hx : IsTupleKey (intKind prog w) s.heap ks x) (h : Q true s) : wpAny (model prog w) A (hashByValue 8 (.ref x)) Q E s := by
  have hT := hx.typeIs
  obtain ⟨o, items, n, ho, _, hd, hi⟩ := hx
  unfold hashByValue
  refine wpAny_bind (wpAny_specialOf hT F.slot_tuple_hash.lookup ?_)
  show wpAny _ _ (seqItems? (.ref x) >>= _) _ _ _
  refine wpAny_bind (wpAny_seqItems ho hd ?_)
  refine wpAny_bind ?_
  show wpAny _ _ (forIn items _ _) _ _ s
  rw [← Array.forIn_toList]
  refine wpAny_forIn_list _ (fun rest r s' => r.1 = none ∧ s' = s ∧ ∀ v ∈ rest, ∃ i t, v = Value.int i t) _ ?_ ?_ _ _ ⟨rfl, rfl, int_item hi⟩
  · rintro v rest r s' ⟨hr, rfl, hall⟩
    obtain ⟨i, t, rfl⟩ := hall v List.mem_cons_self
    refine wpAny_bind (m := hashByValue 7 (.int i t)) (wpAny_of_eq (a := true) rfl ?_)
    simp only [Bool.not_true, Bool.false_eq_true, ↓reduceIte]
    exact wpAny_pure ⟨rfl, rfl, fun u hu' => hall u (List.mem_cons_of_mem _ hu')⟩
  · rintro ⟨r1, r2⟩ s' ⟨hr, rfl, _⟩
    simp only at hr
    subst hr
    exact wpAny_pure h
theorem search {a x : Addr} {o : Obj} {zs : List Z} {ep : Nat} {t : SetTable} {ks : List Int} {e : Nat} {Q : SetFound → Shared → Prop} (ho : s.heap.get? a = some o) (hd : o.data = .set (cells prog w zs) ep t) (T : TabOf prog w t zs) (tz : Tups prog w s.heap zs)
    (hx : IsTupleKey (intKind prog w) s.heap ks x) (hu : A.units < cLine) (f : FirstFree t.mask t.place.toList (hk prog w ks) e) (Q1 : (∃ z ∈ zs, z.2 = ks) → Q (.there none) s) :
    ∀ (fuel N : Nat) (st : Option Probe), st.getD (t.probeStart (hk prog w ks)) = nth t.mask N (TM.start t.mask (hk prog w ks)) → N ≤ e → e - N < fuel →
      ((∀ (m i : Nat) (z : Z), N ≤ m → m < e → t.place.toList[i]? = some (nth t.mask m (TM.start t.mask (hk prog w ks))).j → zs[i]? = some z → z.2 ≠ ks) → Q (.free (nth t.mask e (TM.start t.mask (hk prog w ks))).j false) s) →
      wpAny (model prog w) A (setSearchFrom a (.ref x) (hk prog w ks) true fuel st) Q E s
  | 0, N, _, _, _, hf, _ => absurd hf (Nat.not_lt_zero _)
  | fuel + 1, N, st, es, hN, hf, Q2 => by
    unfold setSearchFrom
    refine wpAny_bind (wpAny_setState_of ho hd T.fits ?_)
    dsimp only
    rw [T.way]
    simp only [Bool.false_eq_true, ↓reduceIte]
    rw [es]
    have fN : Fine t.mask (nth t.mask N (TM.start t.mask (hk prog w ks))) := nth_fine N (start_fine _ _)
    have hlm : (zs.map fun z => hk prog w z.2).length ≤ t.mask := by rw [List.length_map]; have := T.few; omega
    have pm := fun {f : Nat → Int} {r : Option Met} (hr : t.probe f (hk prog w ks) (nth t.mask N (TM.start t.mask (hk prog w ks))) = r) => probe_meets T.tab hlm hr fN
    split
    · rename_i met hm
      have hat : ∀ {f : Nat → Int} {r : Option Met}, t.probe f (hk prog w ks) (nth t.mask N (TM.start t.mask (hk prog w ks))) = r → (∀ i z, zs[i]? = some z → f i = hk prog w z.2) → (∀ i z, zs[i]? = some z → f i = hk prog w z.2) := fun _ h => h
      have hfa := hat hm (fun i z hz => by
        show ((cells prog w zs)[i]?.map (·.1)).getD 0 = _
        rw [cells_at, hz]
        rfl)
      obtain ⟨n, m, e1, e2, e3⟩ := pm hm
      cases e1
      have sh : ∀ k, nth t.mask k (nth t.mask N (TM.start t.mask (hk prog w ks))) = nth t.mask (N + k) (TM.start t.mask (hk prog w ks)) := fun k => (nth_add ..).symm
      cases e2 with
      | empty h1 =>
        rw [sh] at h1 ⊢
        have eq : N + n = e := by
          rcases Nat.lt_trichotomy (N + n) e with l | l | l
          · exact absurd (f.before _ l) h1
          · exact l
          · obtain ⟨i, hi, _⟩ := e3 (e - N) (by omega)
            rw [sh, show N + (e - N) = e by omega] at hi
            exact absurd (List.mem_of_getElem? hi) f.free
        refine wpAny_pure ?_
        rw [eq]
        refine Q2 fun m i z h3 h4 h5 h6 h7 => ?_
        obtain ⟨i', hi, hne⟩ := e3 (m - N) (by omega)
        rw [sh, show N + (m - N) = m by omega] at hi
        have ei : i = i' := by rw [← below_at T.tab.asc h5, below_at T.tab.asc hi]
        subst ei
        exact hne (by rw [hfa i z h6, h7])
      | cand i h1 h2 =>
        have hlt : N + n < e := by
          rcases Nat.lt_trichotomy (N + n) e with l | l | l
          · exact l
          · rw [sh, l] at h1
            exact absurd (List.mem_of_getElem? h1) f.free
          · obtain ⟨i, hi, _⟩ := e3 (e - N) (by omega)
            rw [sh, show N + (e - N) = e by omega] at hi
            exact absurd (List.mem_of_getElem? hi) f.free
        obtain ⟨z, hz⟩ : ∃ z, zs[i]? = some z := by
          have := (List.getElem?_eq_some_iff.mp h1).1
          rw [T.len] at this
          exact ⟨_, List.getElem?_eq_getElem this⟩
        have hzm := List.mem_of_getElem? hz
        have sl := slot_live T.tab.asc h1
        have sm : t.sameMemory t.moves t.mask = some true := by simp [SetTable.sameMemory]
        dsimp only
        refine wpAny_ite_split (fun _ => wpAny_bind (seen_no hx (zs := zs) _ ?_ tz ?_)) (fun _ => ?_)
        · intro v hv
          obtain ⟨y, hy, rfl⟩ := List.mem_map.mp hv
          have hy := (Array.mem_filter.mp (Array.mem_toList_iff.mp hy)).1
          unfold cells at hy
          rw [List.mem_toArray] at hy
          obtain ⟨z, hz, rfl⟩ := List.mem_map.mp hy
          exact ⟨z, hz, rfl⟩
        all_goals
          try simp only [Bool.false_eq_true, ↓reduceIte]
          rw [cells_at, hz]
          show wpAny _ _ (holding [Value.ref z.1] (eqBool (.ref z.1) (.ref x)) >>= _) _ _ _
          refine wpAny_bind (wpAny_holding (wpAny_eqBool_tuple hu (tz z hzm) hx ?_))
          refine wpAny_bind (wpAny_setState_of ho hd T.fits ?_)
          by_cases q : z.2 = ks
          · rw [if_pos (by simp [q])]
            exact wpAny_pure (Q1 ⟨z, hzm, q⟩)
          · rw [if_neg (by simp [q])]
            dsimp only
            rw [sm]
            dsimp only
            rw [if_pos rfl, sl]
            dsimp only
            rw [cells_at, hz]
            show wpAny _ _ (isSame (Value.ref z.1) (Value.ref z.1) >>= _) _ _ _
            refine wpAny_bind ?_
            unfold isSame
            dsimp only
            rw [if_pos (by simp)]
            refine wpAny_pure ?_
            rw [if_pos rfl]
            refine wpAny_bind (wpAny_pure ?_)
            dsimp only
            rw [if_neg (by simp [q])]
            refine search ho hd T tz hx hu f Q1 fuel (N + n + 1) _ ?_ (by omega) (by omega) fun hall => Q2 fun m i' z' h3 h4 h5 h6 h7 => ?_
            · show nth t.mask (n + 1) _ = _
              rw [sh]
              rfl
            · by_cases c : N + n + 1 ≤ m
              · exact hall m i' z' c h4 h5 h6 h7
              · by_cases c2 : m = N + n
                · subst c2
                  rw [sh] at h1
                  have ei : i = i' := by rw [← below_at T.tab.asc h1, below_at T.tab.asc h5]
                  subst ei
                  rw [hz] at h6
                  cases h6
                  exact q h7
                · obtain ⟨i2, hi, hne⟩ := e3 (m - N) (by omega)
                  rw [sh, show N + (m - N) = m by omega] at hi
                  have ei : i' = i2 := by rw [← below_at T.tab.asc h5, below_at T.tab.asc hi]
                  subst ei
                  exact hne (by rw [hfa i' z' h6, h7])
    · rename_i hm
      obtain ⟨n, m, e1, _⟩ := pm rfl
      exact absurd e1 (by intro z; exact hm m z)
/-- what stands with these hashes -/
theorem cells_perm {zs : List Z} {es : Array (Int × Value)} (h : es.toList.Perm (zs.map (cell prog w))) : ∃ zs' : List Z, zs'.Perm zs ∧ es = cells prog w zs' := by
  have key : ∀ {l m : List (Int × Value)}, l.Perm m → ∀ zs : List Z, m = zs.map (cell prog w) → ∃ ws : List Z, ws.Perm zs ∧ l = ws.map (cell prog w) := by
    intro l m h
    induction h with
    | nil => intro zs e; exact ⟨zs, .refl _, e⟩
    | cons x _ ih =>
      intro zs e
      cases zs with
      | nil => cases e
      | cons z r =>
        rw [List.map_cons] at e
        injection e with e1 e2
        obtain ⟨ws, h1, h2⟩ := ih r e2
        exact ⟨z :: ws, h1.cons z, by rw [List.map_cons, ← h2, e1]⟩
    | swap x y l =>
      intro zs e
      cases zs with
      | nil => cases e
      | cons z r =>
        rw [List.map_cons] at e
        injection e with e1 e2
        cases r with
        | nil => cases e2
        | cons z2 r =>
          rw [List.map_cons] at e2
          injection e2 with e3 e4
          exact ⟨z2 :: z :: r, .swap z z2 r, by rw [List.map_cons, List.map_cons, ← e1, ← e3, ← e4]⟩
    | trans _ _ ih1 ih2 =>
      intro zs e
      obtain ⟨ws, h1, h2⟩ := ih2 zs e
      obtain ⟨vs, h3, h4⟩ := ih1 ws h2
      exact ⟨vs, h3.trans h1, h4⟩
  obtain ⟨ws, h1, h2⟩ := key h zs rfl
  exact ⟨ws, h1, by unfold cells; rw [← h2]⟩
theorem cells_hash (zs : List Z) : (cells prog w zs).toList.map (·.1) = zs.map fun z => hk prog w z.2 := by
  unfold cells
  rw [List.map_map]
  rfl
theorem cells_ins (zs : List Z) (p : Nat) (z : Z) : insertAt (cells prog w zs) p (cell prog w z) = cells prog w (ins zs p z) := by
  apply Array.toList_inj.mp
  rw [toList_ins]
  unfold cells
  rw [← ins_map]
theorem store_get {h : Heap} {a : Addr} {o : Obj} {es es' : Array (Int × Value)} {ep : Nat} {t t' : SetTable} (ho : h.get? a = some o) (hd : o.data = .set es ep t) : (h.update a (Obj.putSet es' t')).get? a = some { o with data := .set es' (ep + 1) t' } := by
  have := Heap.get?_update_self (Obj.putSet es' t') ho (by rw [putSet_of es' t' hd]; rfl)
  rw [putSet_of es' t' hd] at this
  exact this
theorem tab_fits {t : SetTable} {zs : List Z} (T : Tab t (zs.map fun z => hk prog w z.2)) (h : zs.length ≤ t.mask) : t.fits (cells prog w zs).size = true := by
  have h1 := T.size
  have h2 := T.fill
  rw [List.length_map] at h1 h2
  unfold SetTable.fits
  rw [cells_size, h1, h2, Bool.and_eq_true]
  exact ⟨by simp, by simp; omega⟩
theorem add {a x : Addr} {zs : List Z} {ep : Nat} {t : SetTable} {ks : List Int} {Q : Bool → Shared → Prop} (S : SetAt prog w s.heap a zs ep t) (tz : Tups prog w s.heap zs) (hx : IsTupleKey (intKind prog w) s.heap ks x) (hu : A.units < cLine) (hl : zs.length < 4096)
    (Q0 : ks ∈ zs.map (·.2) → Q false s) (Q1 : ks ∉ zs.map (·.2) → ∀ (h' : Heap) (zs' : List Z) (ep' : Nat) (t' : SetTable), Heap.SameBut a s.heap h' → zs'.Perm ((x, ks) :: zs) → SetAt prog w h' a zs' ep' t' → Q true { s with heap := h' }) :
    wpAny (model prog w) A (setAddHashed a (.ref x) (hk prog w ks)) Q E s := by
  obtain ⟨o, ho, hex, hd, T⟩ := S
  have few := T.few
  obtain ⟨k, hkp⟩ := T.tab.pow
  obtain ⟨e, ff⟩ := firstFree hkp (l := t.place.toList) (by rw [T.len]; omega) (hk prog w ks)
  have le := ff.lt
  have lm := T.msk.le
  unfold setAddHashed
  refine wpAny_holding ?_
  unfold setAddHashedIn
  refine wpAny_bind (wpAny_setState_of ho hd T.fits ?_)
  have nb : byScan (.ref x) (cells prog w zs) = false := rfl
  dsimp only
  rw [nb]
  simp only [Bool.false_eq_true, ↓reduceIte]
  unfold setSearch
  refine wpAny_bind (search ho hd T tz hx hu ff ?_ 100000 0 none rfl (Nat.zero_le _) (by unfold turns at le; omega) ?_)
  · rintro ⟨z, hz, e⟩
    exact wpAny_pure (Q0 (List.mem_map.mpr ⟨z, hz, e⟩))
  · intro hall
    have hno : ks ∉ zs.map (·.2) := fun hm => by
      obtain ⟨z, hz, ez⟩ := List.mem_map.mp hm
      obtain ⟨i, hi⟩ := List.getElem?_of_mem hz
      have hil := (List.getElem?_eq_some_iff.mp hi).1
      have hj : t.place.toList[i]? = some (t.place.toList[i]'(by rw [T.len]; exact hil)) := List.getElem?_eq_getElem _
      have hw := T.tab.way (t.place.toList[i]'(by rw [T.len]; exact hil), hk prog w z.2) (List.mem_of_getElem? (i := i) (by
        rw [List.getElem?_zip_eq_some]
        exact ⟨hj, by rw [List.getElem?_map, hi]; rfl⟩))
      rw [ez] at hw
      obtain ⟨n, hn, en⟩ := hw.lt (List.mem_of_getElem? hj) ff
      exact hall n i z (Nat.zero_le _) hn (by rw [en]; exact hj) hi ez
    have Q1 := Q1 hno
    dsimp only
    refine wpAny_bind (wpAny_setState_of ho hd T.fits ?_)
    dsimp only
    obtain ⟨Tp, em⟩ := T.tab.put ff
    generalize hj : (nth t.mask e (TM.start t.mask (hk prog w ks))).j = j at Tp em ⊢
    have pl : (t.put j).1.plain = true := T.plain
    have ld : (t.put j).1.led = !w.params.followText "set-order" := T.led
    rw [pl]
    simp only [↓reduceIte]
    refine wpAny_bind (byValue hx ?_)
    simp only [↓reduceIte]
    have hcell : (hk prog w ks, Value.ref x) = cell prog w (x, ks) := rfl
    rw [hcell, cells_ins]
    have Tp' : Tab (t.put j).1 ((ins zs (t.put j).2 (x, ks)).map fun z => hk prog w z.2) := by rw [ins_map]; exact Tp
    have len1 : (ins zs (t.put j).2 (x, ks)).length = zs.length + 1 := (ins_perm ..).length_eq
    have nd1 : ((ins zs (t.put j).2 (x, ks)).map (·.2)).Nodup := by
      refine (List.Perm.nodup_iff ((ins_perm ..).map _)).mpr ?_
      rw [List.map_cons]
      exact List.nodup_cons.mpr ⟨hno, T.nd⟩
    have fill1 : (t.put j).1.fill = zs.length + 1 := by rw [Tp'.fill, List.length_map, len1]
    have s4 : (4096 : Nat) ≤ sizeLine := by rw [sizeLine_eq]; decide
    have s5 : (8192 : Nat) ≤ sizeLine := by rw [sizeLine_eq]; decide
    have m7 : 7 ≤ t.mask := by have := T.msk; unfold Mk at this; omega
    have pm1 := ins_perm zs (t.put j).2 (x, ks)
    generalize (t.put j).1 = t1 at *
    generalize ins zs (t.put j).2 (x, ks) = zs1 at *
    refine wpAny_bind (wpAny_storeSet_of ho hd ?_ (by rw [cells_size, len1]; omega))
    have ho1 := store_get (es' := cells prog w zs1) (t' := t1) ho hd
    have hsb1 := Heap.SameBut.update s.heap a (Obj.putSet (cells prog w zs1) t1)
    refine wpAny_ite_split (fun full => ?_) (fun full => ?_)
    · have full : fill t1 * 5 ≥ t1.mask * 3 := by
        have f : (!false && t1.tooFull) = true := full
        rw [Bool.not_false, Bool.true_and] at f
        unfold SetTable.tooFull at f
        exact of_decide_eq_true f
      rw [fill1, em] at full
      obtain ⟨m', mk', sz, few'⟩ := T.msk.grow few full hl
      have lm' := mk'.le
      obtain ⟨k', hk'⟩ := mk'.pow
      obtain ⟨t2, order, el, e1, e2, e3, pm, Tl⟩ := laid_spec hk' (cells prog w zs1) (by rw [cells_size, len1]; omega) t1.finger (t1.movedTo m') t1.led t1.plain
      have elr : t1.relaid ((cells prog w zs1).map (·.1)) (grown ((cells prog w zs).size + 1)) = some (t2, order) := by
        rw [cells_size]
        unfold SetTable.relaid
        rw [sz]
        exact el
      have esz : (order.filterMap ((cells prog w zs1)[·]?)).size = (cells prog w zs1).size := by
        rw [← Array.length_toList, pm.length_eq, Array.length_toList]
      obtain ⟨zs2, pm2, ec⟩ := cells_perm (prog := prog) (w := w) (zs := zs1) (es := order.filterMap ((cells prog w zs1)[·]?)) pm
      refine wpAny_bind ?_
      unfold setRelay
      refine wpAny_bind (wpAny_setState_of ho1 rfl (tab_fits Tp' (by rw [len1]; omega)) ?_)
      dsimp only
      rw [if_neg (by rw [cells_size, sz]; omega)]
      refine wpAny_bind ?_
      rw [elr]
      show wpAny _ A (if (order.filterMap ((cells prog w zs1)[·]?)).size != (cells prog w zs1).size then _ else _) _ _ _
      rw [if_neg (by rw [esz]; simp)]
      refine wpAny_pure ?_
      dsimp only
      rw [ec]
      have len2 := pm2.length_eq
      refine wpAny_storeSet_of ho1 rfl ?_ (by rw [cells_size, len2, len1]; omega)
      refine wpAny_pure (Q1 _ zs2 _ t2 (hsb1.trans (Heap.SameBut.update _ a _)) (pm2.trans pm1) ⟨_, store_get ho1 rfl, hex, rfl, ?_⟩)
      refine ⟨?_, by rw [e1]; exact mk', by rw [e1, len2, len1]; exact few', by rw [e3]; exact pl, by rw [e2]; exact ld, (List.Perm.nodup_iff (pm2.map _)).mpr nd1⟩
      rw [ec, cells_hash] at Tl
      exact Tl
    · have full : ¬ (t1.fill * 5 ≥ t1.mask * 3) := fun z => full (by
        show (!false && t1.tooFull) = true
        rw [Bool.not_false, Bool.true_and]
        unfold SetTable.tooFull
        exact decide_eq_true z)
      rw [fill1, em] at full
      exact wpAny_pure (Q1 _ zs1 _ t1 hsb1 pm1 ⟨_, ho1, hex, rfl, ⟨Tp', by rw [em]; exact T.msk, by rw [len1, em]; omega, pl, ld, nd1⟩⟩)
end
end Ts

namespace Ts
open PySem PySem.SetTable TM
section
variable {prog : Program} {w : World} {A : Around} {E : Value → Shared → Prop} {s : Shared}
theorem key_at {h h' : Heap} {ks : List Int} {x : Addr} (q : IsTupleKey (intKind prog w) h ks x) (e : ∀ o, h.get? x = some o → h'.get? x = some o) : IsTupleKey (intKind prog w) h' ks x := by
  obtain ⟨o, items, n, ho, r⟩ := q
  exact ⟨o, items, n, e o ho, r⟩
theorem SetAt.typeIs {a : Addr} {zs : List Z} {ep : Nat} {t : SetTable} (S : SetAt prog w s.heap a zs ep t) : s.TypeIs (.ref a) "set" := by
  obtain ⟨o, ho, hex, _⟩ := S
  exact ⟨o, ho, hex.1⟩
theorem SetAt.at_ {h h' : Heap} {a : Addr} {zs : List Z} {ep : Nat} {t : SetTable} (S : SetAt prog w h a zs ep t) (e : ∀ o, h.get? a = some o → h'.get? a = some o) : SetAt prog w h' a zs ep t := by
  obtain ⟨o, ho, r⟩ := S
  exact ⟨o, e o ho, r⟩
/-- the set so far: of the first i tuples each one is there, and no others -/
structure Sofar (prog : Program) (w : World) (h : Heap) (a : Addr) (zl : List Z) (i : Nat) (zs : List Z) (ep : Nat) (t : SetTable) : Prop where
  set : SetAt prog w h a zs ep t
  sub : ∀ z ∈ zs, z ∈ zl.take i
  all : ∀ z ∈ zl.take i, z.2 ∈ zs.map (·.2)
theorem Sofar.len {h : Heap} {a : Addr} {zl : List Z} {i : Nat} {zs : List Z} {ep : Nat} {t : SetTable} (S : Sofar prog w h a zl i zs ep t) : zs.length ≤ i := by
  have nd : zs.Nodup := by
    obtain ⟨o, _, _, _, T⟩ := S.set
    have := T.nd
    unfold List.Nodup at this
    rw [List.pairwise_map] at this
    exact this.imp fun h e => h (by rw [e])
  have := nodup_len nd S.sub
  rw [List.length_take] at this
  omega
theorem take_next {zl : List Z} {i : Nat} {z : Z} (h : zl[i]? = some z) : zl.take (i + 1) = zl.take i ++ [z] := by
  rw [List.take_add_one, h]
  rfl
section
variable {R : Result → Shared → Prop} {I : Addr} {fp wr : List Addr} {G : Array GenState → Array GenState → Prop} {P : Nat → Value → Prop} {St : Nat → Shared → Prop}
theorem fill_set {zl : List Z} (W : WalksS prog w A.in1 I fp wr G zl.length P St) (a : Addr) (hf : a ∉ fp) (hP : ∀ i v, P i v → ∃ z, zl[i]? = some z ∧ v = .ref z.1) (hz : ∀ z ∈ zl, z.1 ∉ wr ∧ z.1 ≠ a) (hl : zl.length ≤ 4096) (hu : A.in1.units < cLine) :
    ∀ (k i : Nat) (s : Shared) (zs : List Z) (ep : Nat) (t : SetTable), zl.length - i = k → i ≤ zl.length → St i s → Tups prog w s.heap zl → Sofar prog w s.heap a zl i zs ep t →
      (∀ (s' : Shared) (zs' : List Z) (ep' : Nat) (t' : SetTable), Moved (a :: wr) G s s' → Sofar prog w s'.heap a zl zl.length zs' ep' t' → R (.ok (.ret .none)) s') →
      codeAny (model prog w) A (.builtin "set.update.loop" ⟨[.ref a, .ref I], []⟩) R s := by
  have haw : a ∉ wr := fun h => hf (W.sub _ h)
  have more : ∀ b ∈ wr, b ∈ a :: wr := fun b hb => List.mem_cons_of_mem _ hb
  intro k
  induction k with
  | zero =>
    intro i s zs ep t hk hi st tz S hR
    have ei : i = zl.length := by omega
    subst ei
    refine codeAny_builtin PyProof.Rows.F.entry_set_update_loop ?_
    rw [Around.under_plainId PyProof.Rows.F.plain_set_update_loop _]
    unfold Builtin.«set.update.loop»
    refine wpAny_bind (W.done s _ _ st fun s' mv => ?_)
    exact wpAny_pure (hR s' zs ep t (mv.mono more) ⟨S.set.at_ fun o e => mv.heap a o haw e, S.sub, S.all⟩)
  | succ k ih =>
    intro i s zs ep t hk hi st tz S hR
    have hlt : i < zl.length := by omega
    refine codeAny_builtin PyProof.Rows.F.entry_set_update_loop ?_
    rw [Around.under_plainId PyProof.Rows.F.plain_set_update_loop _]
    unfold Builtin.«set.update.loop»
    refine wpAny_bind (W.item i s _ _ hlt st fun v s1 pv st1 mv => ?_)
    obtain ⟨z, ez, rfl⟩ := hP i v pv
    have zm := List.mem_of_getElem? ez
    have S1 := S.set.at_ fun o e => mv.heap a o haw e
    have tz1 : Tups prog w s1.heap zl := fun y hy => key_at (tz y hy) fun o e => mv.heap y.1 o (hz y hy).1 e
    have sz : ∀ y ∈ zs, y ∈ zl := fun y hy => List.mem_of_mem_take (S.sub y hy)
    dsimp only
    refine wpAny_bind (wpAny_holding ?_)
    unfold setAdd
    refine wpAny_holding (wpAny_bind (wpAny_pyHash_tuple hu (tz1 z zm) ?_))
    have go : ∀ (h' : Heap) (zs' : List Z) (ep' : Nat) (t' : SetTable), Heap.SameBut a s1.heap h' → Sofar prog w h' a zl (i + 1) zs' ep' t' →
        codeAny (model prog w) A (.builtin "set.update.loop" ⟨[.ref a, .ref I], []⟩) R { s1 with heap := h', toks := s1.toks + (z.2.length + 1) } := fun h' zs' ep' t' sb S' => by
      have oth : ∀ b, b ≠ a → ∀ o, s1.heap.get? b = some o → h'.get? b = some o := fun b hb o e => (sb.2 b hb).trans e
      refine ih (i + 1) _ zs' ep' t' (by omega) hlt (W.frame _ s1 _ _ st1 (Nat.le_add_right ..) fun b hb o e => oth b (fun q => hf (by rw [← q]; exact hb)) o e) (fun y hy => key_at (tz1 y hy) fun o e => oth y.1 (hz y hy).2 o e) S' fun s2 zs2 ep2 t2 mv2 S2 => ?_
      refine hR s2 zs2 ep2 t2 (Moved.trans W.gtrans ((mv.mono more).then_heap (Nat.le_add_right ..) fun b o hb e => oth b (fun q => hb (by rw [q]; exact List.mem_cons_self)) o e) mv2) S2
    have tk := take_next ez
    refine add (s := { s1 with toks := s1.toks + (z.2.length + 1) }) S1 (fun y hy => tz1 y (sz y hy)) (tz1 z zm) hu (Nat.lt_of_le_of_lt S.len (by omega)) (fun old => ?_) (fun new h' zs' ep' t' sb pm S' => ?_)
    · refine wpAny_pure ⟨plainId_quiet PyProof.Rows.F.plain_set_update_loop _, go s1.heap zs ep t (Heap.SameBut.refl ..) ⟨S1, fun y hy => ?_, fun y hy => ?_⟩⟩
      · rw [tk]
        exact List.mem_append_left _ (S.sub y hy)
      · rw [tk] at hy
        rcases List.mem_append.mp hy with hy | hy
        · exact S.all y hy
        · rw [List.mem_singleton.mp hy]
          exact old
    · refine wpAny_pure ⟨plainId_quiet PyProof.Rows.F.plain_set_update_loop _, go h' zs' ep' t' sb ⟨S', fun y hy => ?_, fun y hy => ?_⟩⟩
      · rw [tk]
        rcases List.mem_cons.mp (pm.mem_iff.mp hy) with rfl | hy
        · exact List.mem_append_right _ (List.mem_singleton.mpr rfl)
        · exact List.mem_append_left _ (S.sub y hy)
      · rw [tk] at hy
        refine (pm.map _).mem_iff.mpr ?_
        rw [List.map_cons]
        rcases List.mem_append.mp hy with hy | hy
        · exact List.mem_cons_of_mem _ (S.all y hy)
        · rw [List.mem_singleton.mp hy]
          exact List.mem_cons_self
end
end
end Ts

namespace Ts
open PySem PySem.SetTable TM
section
variable {prog : Program} {w : World} {A : Around} {E : Value → Shared → Prop} {s : Shared}
/-- a new set, empty -/
def fresh0 (w : World) : Obj := { cls := .type "set", dict := none, data := .set #[] 0 (.fresh 0 0 (!w.params.followText "set-order")) }
theorem tab_fresh (b : Bool) : Tab (SetTable.fresh 0 0 b) [] := ⟨⟨3, rfl⟩, rfl, List.Pairwise.nil, (fun _ hj => nomatch hj), rfl, (fun _ hx => nomatch hx)⟩
theorem fresh_at {h : Heap} {a : Addr} (e : h.get? a = some (fresh0 w)) (zl : List Z) : Sofar prog w h a zl 0 [] 0 (.fresh 0 0 (!w.params.followText "set-order")) :=
  ⟨⟨_, e, ⟨rfl, rfl, rfl⟩, rfl, ⟨tab_fresh _, Or.inl rfl, (show 0 * 5 < 7 * 3 by decide), rfl, rfl, List.Pairwise.nil⟩⟩, (fun _ hz => nomatch hz), (fun _ hz => nomatch hz)⟩
theorem set_new (x : Value) {Q : Value → Shared → Prop} (h : Q (.ref s.heap.objs.size) { s with heap := s.heap.push (fresh0 w) }) :
    codeAny (model prog w) A (.call (.builtin "set.__new__") ⟨[.type "set", x], []⟩) (wants Q E) s := by
  refine codeAny_call_builtin F.plain_set_new F.entry_set_new (wpAny_of_eq (F.newCall_set_1 x) ?_)
  unfold Builtin.«set.__new__» Builtin.Frozenset.newClass
  have sub := sub_set_self
  obtain ⟨hp, g, d, tk, os⟩ := s
  dsimp only
  wp_walk
  refine wpAny_askSetting (wpAny_pure ?_)
  dsimp only
  simp only [newObj]
  exact wpAny_bind (wpAny_alloc (wpAny_pure (wpAny_pure h)))
set_option maxRecDepth 100000 in
set_option maxHeartbeats 3200000 in
/-- set(xs), a list of tuples -/
theorem set_of {l : Addr} {items : Array Value} {zl : List Z} {Q : Value → Shared → Prop} (hh : A.handled = none) (hu : A.units + 8 < cLine) (hl : s.heap.IsList l items) (hi : items.toList = zl.map fun z => Value.ref z.1) (tz : Tups prog w s.heap zl) (hb : zl.length ≤ 4096)
    (h : ∀ (h' : Heap) (tk : Nat) (zs : List Z) (ep : Nat) (t : SetTable), Sofar prog w h' s.heap.objs.size zl zl.length zs ep t → (∀ b o, s.heap.get? b = some o → h'.get? b = some o) → Q (.ref s.heap.objs.size) { s with heap := h', toks := tk }) :
    wpAny (model prog w) A (call (.type "set") [.ref l]) Q E s := by
  have isz : items.size = zl.length := by rw [← Array.length_toList, hi, List.length_map]
  obtain ⟨cm, tm, mro⟩ := F.called_set.mro
  have made := F.called_set.made
  have sub := F.called_set.sub
  refine wpAny_call (codeAny_of_tree ?_)
  show wpAny _ _ (callAny (.type "set") _) _ _ _
  refine wpAny_pure ⟨Code.quiet_builtin _ (by decide +kernel), codeAny_builtin F.entry_type_call ?_⟩
  rw [Around.under_plain (weight_type_call_type "set" [.ref l] []) rfl]
  have nt := F.called_set.notType
  have cc := F.called_set.canCreate
  have tc := F.typeCall_set_1 (.ref l)
  repeat (any_goals (first | assumption | wp_step))
  refine codeAny_mono (set_new (.ref l) (E := E) (Q := fun v s1 => v = .ref s.heap.objs.size ∧ s1 = { s with heap := s.heap.push (fresh0 w) }) ⟨rfl, rfl⟩) fun r s1 hr => ?_
  cases r with
  | error e => exact hr
  | ok fl =>
    cases fl with
    | ret v =>
      obtain ⟨rfl, rfl⟩ := hr
      have e0 : (s.heap.push (fresh0 w)).get? s.heap.objs.size = some (fresh0 w) := Heap.get?_push_size _ rfl
      have ty : Shared.TypeIs { s with heap := s.heap.push (fresh0 w) } (.ref s.heap.objs.size) "set" := ⟨_, e0, rfl⟩
      have li := F.called_set.init.lookup
      have bi := F.called_set.init.bind (.ref s.heap.objs.size)
      repeat (any_goals (first | assumption | wp_step))
      refine codeAny_mono (codeAny_call_builtin (R := wants (fun r s2 => r = .none ∧ ∃ (h' : Heap) (tk : Nat) (zs : List Z) (ep : Nat) (t : SetTable), s2 = { s with heap := h', toks := tk } ∧ Sofar prog w h' s.heap.objs.size zl zl.length zs ep t ∧ ∀ b o, s.heap.get? b = some o → h'.get? b = some o) E)
        F.called_set.init.plain F.entry_set_init (check_set_init_1 ty ?_)) fun r2 s2 h2 => ?_
      · obtain ⟨ol, hol, hcl, nl, hdl⟩ := hl
        obtain ⟨c1, d1, da, sl⟩ := ol
        simp only at hcl hdl
        subst hcl
        subst hdl
        have l1 : (s.heap.push (fresh0 w)).get? l = some { cls := .type "list", dict := d1, data := .seq items nl, slots := sl } := Heap.get?_push_of_some _ hol
        have f1 := F.sub_list_set
        have f2 := F.sub_list_frozenset
        have f3 : (Value.type "list" == Value.type "dict") = false := by decide
        have il : (s.heap.push (fresh0 w)).IsList l items := ⟨_, l1, rfl, nl, rfl⟩
        unfold Builtin.«set.__init__» noKeywords Builtin.Frozenset.updateFrom
        generalize hpi : pyIter = pit
        unfold fresh0 at *
        wp_walk
        subst hpi
        refine wpAny_pyIter_list il (wpAny_bind (wpAny_runValue ?_))
        have h3 : A.in1.in1.in1.handled = none := by simp [hh]
        have lS : l < s.heap.objs.size := Heap.lt_size hol
        have eI : (s.heap.push { cls := .type "set", dict := none, data := .set #[] 0 (.fresh 0 0 (!w.params.followText "set-order")) }).objs.size = s.heap.objs.size + 1 := Heap.size_push ..
        have W := (Walks.list (prog := prog) (w := w) h3 (s.heap.objs.size + 1) l (Nat.ne_of_lt (Nat.lt_succ_of_lt lS)) items).toS
        rw [isz] at W
        have tlt : ∀ z ∈ zl, z.1 < s.heap.objs.size := fun z hz => by
          obtain ⟨o, _, _, ho, _⟩ := tz z hz
          exact Heap.lt_size ho
        rw [eI]
        refine fill_set W s.heap.objs.size ?_ ?_ ?_ hb (by show A.units + 1 + 1 + 1 < cLine; omega) (zl.length - 0) 0 _ [] 0 _ rfl (Nat.zero_le _) ?_ ?_ (fresh_at ?_ zl) ?_
        · simp only [List.mem_cons, List.not_mem_nil, or_false, not_or]
          exact ⟨Nat.ne_of_lt (Nat.lt_succ_self _), Nat.ne_of_gt lS⟩
        · intro i v hv
          rw [← Array.getElem?_toList, hi, List.getElem?_map] at hv
          cases e : zl[i]? with
          | none => rw [e] at hv; cases hv
          | some z =>
            rw [e] at hv
            exact ⟨z, rfl, (Option.some.inj hv).symm⟩
        · intro z hz
          have lt := tlt z hz
          rw [List.mem_singleton]
          exact ⟨Nat.ne_of_lt (Nat.lt_succ_of_lt lt), Nat.ne_of_lt lt⟩
        · rw [← eI]
          exact ⟨⟨_, Heap.get?_push_size _ rfl, rfl, rfl⟩, il.push _⟩
        · exact fun z hz => key_at (tz z hz) fun o e => Heap.get?_push_of_some _ (Heap.get?_push_of_some _ e)
        · exact Heap.get?_push_of_some _ e0
        · intro s' zs ep t mv S
          refine wpAny_pure (wpAny_pure ⟨rfl, s'.heap, s'.toks, zs, ep, t, ?_, S, fun b o e => ?_⟩)
          · obtain ⟨h', g', d', tk', os'⟩ := s'
            have e1 : g' = s.gens := mv.gens
            have e2 : d' = s.drawn := mv.drawn
            have e3 : os' = s.os := mv.os
            rw [e1, e2, e3]
          · have lt := Heap.lt_size e
            refine mv.heap b o ?_ (Heap.get?_push_of_some _ (Heap.get?_push_of_some _ e))
            simp only [List.mem_cons, List.not_mem_nil, or_false, not_or]
            exact ⟨Nat.ne_of_lt lt, Nat.ne_of_lt (Nat.lt_succ_of_lt lt)⟩
      · cases r2 with
        | error e => exact h2
        | ok f2 =>
          cases f2 with
          | ret v =>
            obtain ⟨rfl, h', tk, zs, ep, t, rfl, S, kp⟩ := h2
            repeat (any_goals (first | assumption | wp_step))
            exact h _ _ _ _ _ S kp
          | _ => exact h2.elim
    | _ => exact hr.elim
end
end Ts

namespace Ts
open PySem PySem.SetTable TM
theorem entry_iter : entryFor table "set.__iter__" = some Builtin.«frozenset.__iter__» := entryFor_alias (id' := "frozenset.__iter__") (by kernel_rfl) rfl (by decide +kernel) (by kernel_rfl)
theorem slot_next : Slot "set_iterator" "__next__" "set_iterator.__next__" := .of (owner := "set_iterator") (n := "__next__") (by rw [typeLookup_type, builtinLookup_eq_fast]; kernel_rfl) (by decide +kernel) (by decide +kernel) (by decide +kernel) (by first | exact .inl (by decide +kernel) | exact .inr (by decide +kernel)) (by rw [isSubtype_type]; kernel_rfl)
theorem slot_self : Slot "set_iterator" "__iter__" "set_iterator.__iter__" := .of (owner := "set_iterator") (n := "__iter__") (by rw [typeLookup_type, builtinLookup_eq_fast]; kernel_rfl) (by decide +kernel) (by decide +kernel) (by decide +kernel) (by first | exact .inl (by decide +kernel) | exact .inr (by decide +kernel)) (by rw [isSubtype_type]; kernel_rfl)
theorem entry_next : entryFor table "set_iterator.__next__" = some Builtin.«set_iterator.__next__» := entryFor_of_tree (by kernel_rfl)
theorem entry_self : entryFor table "set_iterator.__iter__" = some Builtin.«dict_keyiterator.__iter__» := entryFor_alias (id' := "dict_keyiterator.__iter__") (by kernel_rfl) rfl (by decide +kernel) (by kernel_rfl)
theorem owner_sit : Manifest.owners.lookup (String.ofList ['r', 'o', 't', 'a', 'r', 'e', 't', 'i', '_', 't', 'e', 's'].reverse) = some Manifest.sig_set_iterator := by kernel_rfl
theorem args_next (a : Value) : argsOk "set_iterator.__next__" ⟨[a], []⟩ := by
  unfold argsOk; rw [signature?_of (id := "set_iterator.__next__") (n := ['_', '_', 't', 'x', 'e', 'n', '_', '_']) (o := ['r', 'o', 't', 'a', 'r', 'e', 't', 'i', '_', 't', 'e', 's']) (by kernel_rfl) owner_sit]; kernel_rfl
theorem args_self (a : Value) : argsOk "set_iterator.__iter__" ⟨[a], []⟩ := by
  unfold argsOk; rw [signature?_of (id := "set_iterator.__iter__") (n := ['_', '_', 'r', 'e', 't', 'i', '_', '_']) (o := ['r', 'o', 't', 'a', 'r', 'e', 't', 'i', '_', 't', 'e', 's']) (by kernel_rfl) owner_sit]; kernel_rfl
section
variable {prog : Program} {w : World} {A : Around} {E : Value → Shared → Prop} {s : Shared}
/-- the order in which a set is walked -/
def order (w : World) (a ep : Nat) (zs : List Z) : List Z := if w.params.followText "set-order" = true then (pickOrder (w.params.setOrder a ep) zs.toArray).toList else zs
theorem order_perm (a ep : Nat) (zs : List Z) : (order w a ep zs).Perm zs := by
  unfold order
  split
  · exact pick_perm _ _
  · exact .refl _
/-- the place from which the iterator goes on -/
def goOn (w : World) (t : SetTable) (i : Nat) : Nat := if w.params.followText "set-order" = true then 0 else if i = 0 then 0 else t.place.toList.getD (i - 1) 0 + 1
/-- the iterator in front of the i-th -/
def ItAt (w : World) (h : Heap) (it a : Addr) (t : SetTable) (n ep i : Nat) : Prop := ∃ o, h.get? it = some o ∧ o.cls = .type "set_iterator" ∧ o.data = .fields #[rawInt (goOn w t i : Int), rawInt (i : Int), .ref a, rawInt (n : Int), rawInt (ep : Int)]
theorem ItAt.typeIs {it a : Addr} {t : SetTable} {n ep i : Nat} (x : ItAt w s.heap it a t n ep i) : s.TypeIs (.ref it) "set_iterator" := by
  obtain ⟨o, ho, hc, _⟩ := x
  exact ⟨o, ho, hc⟩
theorem iter_set {a : Addr} {zs : List Z} {ep : Nat} {t : SetTable} {Q : Value → Shared → Prop} (S : SetAt prog w s.heap a zs ep t)
    (h : Q (.ref s.heap.objs.size) { s with heap := s.heap.push { cls := .type "set_iterator", data := .fields #[rawInt 0, rawInt 0, .ref a, rawInt (zs.length : Int), rawInt (ep : Int)] } }) : wpAny (model prog w) A (pyIter (.ref a)) Q E s := by
  have ty := S.typeIs
  obtain ⟨o, ho, hex, hd, T⟩ := S
  refine wpAny_pyIter_slot ty F.slot_set_iter (wpAny_call_entry F.slot_set_iter ty entry_iter ?_ (F.args_set_iter_1 _))
  unfold Builtin.«frozenset.__iter__»
  refine wpAny_bind (wpAny_of_eq (a := a) rfl ?_)
  unfold Builtin.Frozenset.sizeOf setEntries
  refine wpAny_bind (wpAny_bind (wpAny_bind (wpAny_setState_of ho hd T.fits (wpAny_pure (wpAny_pure ?_)))))
  unfold setDrawn setsByText
  refine wpAny_bind (wpAny_bind (wpAny_setState_of ho hd T.fits (wpAny_bind (wpAny_bind (wpAny_askSetting (wpAny_pure (wpAny_pure ?_)))))))
  dsimp only
  refine wpAny_ite_split (fun c => absurd c ?_) (fun _ => ?_)
  · show ¬ ((!w.params.followText "set-order" && (!t.plain && decide ((cells prog w zs).size > 1))) = true)
    rw [T.plain]
    simp
  · refine wpAny_bind (wpAny_pure (wpAny_bind (wpAny_setEpoch_of ho hd T.fits ?_)))
    refine wpAny_bind (wpAny_newObj_type (wpAny_pure ⟨_, rfl, "set_iterator", _, ⟨_, Heap.get?_push_size _ rfl, rfl⟩, slot_next.lookup, ?_⟩))
    rw [cells_size]
    exact h
theorem iter_self {it a : Addr} {t : SetTable} {n ep i : Nat} {Q : Value → Shared → Prop} (x : ItAt w s.heap it a t n ep i) (h : Q (.ref it) s) : wpAny (model prog w) A (pyIter (.ref it)) Q E s := by
  refine wpAny_pyIter_slot x.typeIs slot_self (wpAny_call_entry slot_self x.typeIs entry_self ?_ (args_self _))
  show wpAny _ _ (ret (.ref it)) _ _ s
  exact wpAny_pure ⟨_, rfl, "set_iterator", _, x.typeIs, slot_next.lookup, h⟩
theorem order_at (a ep : Nat) (zs : List Z) (hb : w.params.followText "set-order" = true) (i : Nat) : (pickOrder (w.params.setOrder a ep) (cells prog w zs))[i]? = ((order w a ep zs)[i]?).map (cell prog w) := by
  unfold order cells
  rw [if_pos hb, pick_map, Array.getElem?_map, Array.getElem?_toList]
theorem go_below {t : SetTable} (hs : Asc t.place.toList) {i : Nat} (hi : i ≤ t.place.toList.length) (hb : w.params.followText "set-order" = false) : below t.place (goOn w t i) = i := by
  unfold goOn
  rw [if_neg (by rw [hb]; exact Bool.false_ne_true)]
  by_cases z : i = 0
  · rw [if_pos z, z]
    obtain ⟨h1, h2, _⟩ := below_spec hs 0
    cases e : below t.place 0 with
    | zero => rfl
    | succ k =>
      rw [e] at h1 h2
      exact absurd (h2 0 _ (Nat.succ_pos _) (List.getElem?_eq_getElem (by omega))) (Nat.not_lt_zero _)
  · rw [if_neg z]
    have g : t.place.toList[i - 1]? = some (t.place.toList.getD (i - 1) 0) := by
      rw [List.getD_eq_getElem?_getD, List.getElem?_eq_getElem (by omega)]
      rfl
    rw [below_next hs g]
    omega
theorem set_next {a : Addr} {zs : List Z} {ep i : Nat} {t : SetTable} {Q : Option (Value × Nat) → Shared → Prop} (S : SetAt prog w s.heap a zs ep t) (hi : i ≤ zs.length) (h : Q (((order w a ep zs)[i]?).map fun z => (.ref z.1, goOn w t (i + 1))) s) :
    wpAny (model prog w) A (setNext a (goOn w t i) i ep) Q E s := by
  obtain ⟨o, ho, hex, hd, T⟩ := S
  unfold setNext
  refine wpAny_bind (wpAny_setState_of ho hd T.fits ?_)
  unfold setsByText
  refine wpAny_bind (wpAny_bind (wpAny_askSetting (wpAny_pure ?_)))
  dsimp only
  refine wpAny_ite_split (fun hb => ?_) (fun hb => ?_)
  · have hb : w.params.followText "set-order" = true := hb
    rw [if_neg (by simp)]
    refine wpAny_bind ?_
    unfold setWalk setsByText
    refine wpAny_bind (wpAny_setState_of ho hd T.fits (wpAny_bind (wpAny_bind (wpAny_askSetting (wpAny_pure ?_)))))
    dsimp only
    refine wpAny_ite_split (fun _ => ?_) (fun c => absurd hb c)
    refine wpAny_bind (wpAny_askSetting (wpAny_pure (wpAny_pure ?_)))
    show Q (((pickOrder (w.params.setOrder a ep) (cells prog w zs))[i]?).map _) s
    rw [order_at a ep zs hb, Option.map_map]
    have eg : goOn w t i = goOn w t (i + 1) := by unfold goOn; rw [if_pos hb, if_pos hb]
    rw [eg]
    exact h
  · have hb : w.params.followText "set-order" = false := Bool.eq_false_iff.mpr hb
    have ho2 : order w a ep zs = zs := by unfold order; rw [if_neg (by rw [hb]; exact Bool.false_ne_true)]
    refine wpAny_ite_split (fun c => absurd c ?_) (fun _ => ?_)
    · show ¬ ((!t.plain && decide ((cells prog w zs).size > 1)) = true)
      rw [T.plain]
      simp
    refine wpAny_bind ?_
    show wpAny _ _ (if (!t.led && !(cells prog w zs).isEmpty) = true then _ else _) _ _ _
    rw [if_neg (by rw [T.led, hb]; simp)]
    refine wpAny_pure (wpAny_pure ?_)
    rw [go_below T.tab.asc (by rw [T.len]; exact hi) hb, cells_at, ← Array.getElem?_toList]
    rw [ho2] at h
    cases e : zs[i]? with
    | none =>
      rw [e] at h
      exact h
    | some z =>
      rw [e] at h
      have hl := (List.getElem?_eq_some_iff.mp e).1
      have hj : t.place.toList[i]? = some (t.place.toList[i]'(by rw [T.len]; exact hl)) := List.getElem?_eq_getElem _
      have eg : goOn w t (i + 1) = t.place.toList[i]'(by rw [T.len]; exact hl) + 1 := by
        unfold goOn
        rw [if_neg (by rw [hb]; exact Bool.false_ne_true), if_neg (Nat.succ_ne_zero i), Nat.add_sub_cancel, List.getD_eq_getElem?_getD, hj]
        rfl
      rw [eg] at h
      rw [hj]
      exact h
theorem next_item {it a : Addr} {zs : List Z} {ep i : Nat} {t : SetTable} {z : Z} {Q : Option Value → Shared → Prop} (x : ItAt w s.heap it a t zs.length ep i) (S : SetAt prog w s.heap a zs ep t) (hz : (order w a ep zs)[i]? = some z)
    (h : ∀ h', ItAt w h' it a t zs.length ep (i + 1) → Heap.SameBut it s.heap h' → Q (some (.ref z.1)) { s with heap := h' }) : wpAny (model prog w) A (pyNext (.ref it)) Q E s := by
  have ty := x.typeIs
  obtain ⟨o, ho, hc, hd⟩ := x
  obtain ⟨os, hos, hex, hds, T⟩ := S
  unfold pyNext
  refine wpAny_bind (wpAny_attempt (wpAny_callSpecial?_slot (name := Str.ofString "__next__") ty slot_next (wpAny_call_entry slot_next ty entry_next ?_ (args_next _))))
  unfold Builtin.«set_iterator.__next__»
  refine wpAny_bind (wpAny_of_eq (a := (Value.ref it, [])) rfl ?_)
  dsimp only
  refine wpAny_bind (wpAny_fieldsOf ho hd ?_)
  show wpAny _ _ (setEntries a >>= _) _ _ _
  unfold setEntries
  refine wpAny_bind (wpAny_bind (wpAny_setState_of hos hds T.fits (wpAny_pure ?_)))
  dsimp only
  rw [if_neg (by rw [cells_size]; simp)]
  show wpAny _ _ (setNext a ((goOn w t i : Int)).toNat ((i : Int)).toNat ((ep : Int)).toNat >>= _) _ _ _
  rw [Int.toNat_natCast, Int.toNat_natCast, Int.toNat_natCast]
  have hlt : i < zs.length := by
    have := (List.getElem?_eq_some_iff.mp hz).1
    rwa [(order_perm a ep zs).length_eq] at this
  refine wpAny_bind (set_next ⟨os, hos, hex, hds, T⟩ (Nat.le_of_lt hlt) ?_)
  rw [hz]
  show wpAny _ _ (setField (.ref it) 0 (rawInt (goOn w t (i + 1) : Int)) >>= _) _ _ _
  refine wpAny_bind (wpAny_setField ho hd (by simp) ?_)
  have ho1 := Heap.get?_update_self (Obj.mapFields fun vs => vs.setIfInBounds 0 (rawInt (goOn w t (i + 1) : Int))) ho (Obj.isFreed_of_fields (Obj.data_mapFields hd _))
  have hd1 := Obj.data_mapFields hd (fun vs => vs.setIfInBounds 0 (rawInt (goOn w t (i + 1) : Int)))
  refine wpAny_bind (wpAny_setField ho1 hd1 (by simp) (wpAny_pure ⟨_, rfl, wpAny_pure (h _ ?_ ((Heap.SameBut.update ..).trans (Heap.SameBut.update ..)))⟩))
  refine ⟨_, Heap.get?_update_self _ ho1 (Obj.isFreed_of_fields (Obj.data_mapFields hd1 _)), (Obj.cls_mapFields ..).trans ((Obj.cls_mapFields ..).trans hc), ?_⟩
  rw [Obj.data_mapFields hd1]
  rfl
theorem next_end {it a : Addr} {zs : List Z} {ep : Nat} {t : SetTable} {Q : Option Value → Shared → Prop} (hh : A.handled = none) (x : ItAt w s.heap it a t zs.length ep zs.length) (S : SetAt prog w s.heap a zs ep t) (hne : a ≠ it)
    (h : ∀ h', Heap.ExtBut it s.heap h' → Q none { s with heap := h' }) : wpAny (model prog w) A (pyNext (.ref it)) Q E s := by
  have ty := x.typeIs
  obtain ⟨o, ho, hc, hd⟩ := x
  obtain ⟨os, hos, hex, hds, T⟩ := S
  unfold pyNext
  refine wpAny_bind (wpAny_attempt (wpAny_callSpecial?_slot (name := Str.ofString "__next__") ty slot_next (wpAny_call_entry slot_next ty entry_next ?_ (args_next _))))
  unfold Builtin.«set_iterator.__next__»
  refine wpAny_bind (wpAny_of_eq (a := (Value.ref it, [])) rfl ?_)
  dsimp only
  refine wpAny_bind (wpAny_fieldsOf ho hd ?_)
  show wpAny _ _ (setEntries a >>= _) _ _ _
  unfold setEntries
  refine wpAny_bind (wpAny_bind (wpAny_setState_of hos hds T.fits (wpAny_pure ?_)))
  dsimp only
  rw [if_neg (by rw [cells_size]; simp)]
  show wpAny _ _ (setNext a ((goOn w t zs.length : Int)).toNat ((zs.length : Int)).toNat ((ep : Int)).toNat >>= _) _ _ _
  rw [Int.toNat_natCast, Int.toNat_natCast, Int.toNat_natCast]
  refine wpAny_bind (set_next ⟨os, hos, hex, hds, T⟩ (Nat.le_refl _) ?_)
  rw [List.getElem?_eq_none (by rw [(order_perm a ep zs).length_eq]; exact Nat.le_refl _)]
  show wpAny _ _ (setField (.ref it) 2 .none >>= _) _ _ _
  refine wpAny_bind (wpAny_setField ho hd (by simp) ?_)
  refine wpAny_bind ?_
  simp only [newExc, newTuple]
  refine wpAny_bind (wpAny_newObj_type ?_ (by size_fits))
  refine wpAny_bind (m := firstArgMember _ _) (wpAny_of_eq (a := Value.none) (by simp only [firstArgMember]; rfl) ?_)
  refine wpAny_newObj_type ?_ (by size_fits)
  simp only [raiseNew]
  refine wpAny_bind (wpAny_handled ?_)
  rw [show A.in1.handled = none from hh]
  refine wpAny_bind (wpAny_pure (wpAny_throw ?_))
  refine wpAny_bind (wpAny_isInstance (T := "StopIteration") (b := true) ⟨_, Heap.get?_push_size _ rfl, rfl⟩ isSubtype_stop ?_)
  exact wpAny_pure (h _ (((Heap.SameBut.update ..).extBut.push _).push _))
/-- a walk over a set of tuples -/
theorem walk_set (hh : A.handled = none) (I a : Addr) (hne : a ≠ I) (zs : List Z) (ep : Nat) (t : SetTable) :
    Walks prog w A I [I, a] [I] zs.length (fun i v => ∃ z, (order w a ep zs)[i]? = some z ∧ v = .ref z.1) (fun i h => ItAt w h I a t zs.length ep i ∧ SetAt prog w h a zs ep t) where
  sub := fun b hb => by
    rw [List.mem_singleton.mp hb]
    exact List.mem_cons_self
  frame := fun i h h' st kp => by
    obtain ⟨⟨o, ho, r⟩, S⟩ := st
    exact ⟨⟨o, kp I (by simp) o ho, r⟩, S.at_ fun o e => kp a (by simp) o e⟩
  item := fun i s Q E hi st hQ => by
    obtain ⟨z, hz⟩ : ∃ z, (order w a ep zs)[i]? = some z := ⟨_, List.getElem?_eq_getElem (by rw [(order_perm a ep zs).length_eq]; exact hi)⟩
    refine next_item st.1 st.2 hz fun h' it' sb => hQ _ h' s.toks ⟨z, hz, rfl⟩ ⟨it', st.2.at_ fun o e => (sb.2 a hne).trans e⟩ fun b o hb e => (sb.2 b fun q => hb (by rw [q]; simp)).trans e
  done := fun s Q E st hQ => next_end hh st.1 st.2 hne fun h' eb => hQ h' s.toks fun b o hb e => eb b o (fun q => hb (by rw [q]; simp)) e
  self := fun i s Q E st hQ => iter_self st.1 hQ
end
end Ts

namespace Ts
open PySem PySem.SetTable TM PySem.W
section
variable {prog : Program} {w : World} {A : Around} {E : Value → Shared → Prop} {s : Shared}
theorem hint_set {r : Addr} {Q : Bool → Shared → Prop} (hT : s.TypeIs (.ref r) "set") (h : Q false s) : wpAny (model prog w) A (Builtin.List.listLengthHint (.ref r)) Q E s := by
  unfold Builtin.List.listLengthHint
  refine wpAny_bind (wpAny_specialOf hT F.slot_set_len.lookup ?_)
  generalize eid : ("set.__len__" : String) = id0
  wp_delta
  rw [show splitId id0 = some ("set", "__len__") from by subst eid; decide +kernel]
  subst eid
  refine wpAny_bind (wpAny_isInstance (T := "set") (b := true) hT sub_set_self ?_)
  refine wpAny_ite_split (fun c => absurd c (by decide)) fun _ => wpAny_ite_split (fun _ => ?_) fun c => absurd (by decide +kernel) c
  exact wpAny_bind (wpAny_typeOf hT (wpAny_pure h))
/-- a set of tuples as the source of a list -/
theorem src_set (a : Addr) (zs : List Z) (ep : Nat) (t : SetTable) : KdlSrc prog w "set" a a zs.length (fun i v => ∃ z, (order w a ep zs)[i]? = some z ∧ v = .ref z.1) (fun h => SetAt prog w h a zs ep t) where
  type := fun _ S => S.typeIs
  there := fun _ S => by
    obtain ⟨o, ho, _⟩ := S
    exact ⟨Heap.lt_size ho, Heap.lt_size ho⟩
  keep := fun _ _ S kp => S.at_ fun o e => kp a (.inl rfl) o e
  notList := by decide
  notTuple := by decide
  hint := fun _ _ _ _ S hq => hint_set S.typeIs hq
  iter := fun A s hh S => by
    have lt : a < s.heap.objs.size := by
      obtain ⟨o, ho, _⟩ := S
      exact Heap.lt_size ho
    refine ⟨_, _, fun E Q hq => iter_set S hq, walk_set hh _ a (Nat.ne_of_lt lt) zs ep t, ⟨⟨_, Heap.get?_push_size _ rfl, rfl, ?_⟩, S.at_ fun o e => Heap.get?_push_of_some _ e⟩⟩
    show Data.fields _ = Data.fields #[rawInt (goOn w t 0 : Int), rawInt ((0 : Nat) : Int), .ref a, rawInt (zs.length : Int), rawInt (ep : Int)]
    have e : goOn w t 0 = 0 := by unfold goOn; split <;> rfl
    rw [e]
    rfl
theorem items_order {acc : Array Value} {zs : List Z} {a ep : Nat} (h : ItemsOf (fun i v => ∃ z, (order w a ep zs)[i]? = some z ∧ v = .ref z.1) acc zs.length) : acc.toList = (order w a ep zs).map fun z => Value.ref z.1 := by
  have hl := (order_perm (w := w) a ep zs).length_eq
  apply List.ext_getElem?
  intro i
  rw [List.getElem?_map, Array.getElem?_toList]
  cases e : acc[i]? with
  | none =>
    have := Array.getElem?_eq_none_iff.mp e
    rw [h.1] at this
    rw [List.getElem?_eq_none (by omega)]
    rfl
  | some v =>
    obtain ⟨z, hz, rfl⟩ := h.2 i v e
    rw [hz]
    rfl
theorem collect_code {a : Addr} {zs : List Z} {ep : Nat} {t : SetTable} {R : Result → Shared → Prop} (hh : A.handled = none) (S : SetAt prog w s.heap a zs ep t) (hn : zs.length ≤ sizeLine)
    (h : ∀ (h' : Heap) (tk : Nat) (acc : Array Value) (c : Nat), (∀ b o, s.heap.get? b = some o → h'.get? b = some o) → h'.get? s.heap.objs.size = some { cls := .type "list", dict := none, data := .seq acc c, slots := #[] } → acc.toList = (order w a ep zs).map (fun z => Value.ref z.1) →
      R (.ok (.ret (.ref s.heap.objs.size))) { s with heap := h', toks := tk }) : codeAny (model prog w) A (.builtin "proto.collect" ⟨[.ref a], []⟩) R s := by
  have lt : a < s.heap.objs.size := by
    obtain ⟨o, ho, _⟩ := S
    exact Heap.lt_size ho
  refine codeAny_builtin F.entry_proto_collect ?_
  rw [Around.under_plainId F.plain_proto_collect _]
  show wpAny _ A.in1 (newList [] >>= fun l => again (.builtin "list.__iadd__" ⟨[l, .ref a], []⟩)) _ _ s
  refine wpAny_bind (wpAny_newObj_type (wpAny_pure ⟨plainId_quiet F.plain_list_iadd _, codeAny_builtin F.entry_list_iadd ?_⟩))
  rw [Around.under_plainId F.plain_list_iadd _]
  have e0 : (s.heap.push { cls := .type "list", data := .seq ([] : List Value).toArray }).get? s.heap.objs.size = some { cls := .type "list", data := .seq #[] 0 } := Heap.get?_push_size _ rfl
  refine kdl_extend (s := { s with heap := s.heap.push { cls := .type "list", data := .seq ([] : List Value).toArray } }) (src_set a zs ep t) hh (S.at_ fun o e => Heap.get?_push_of_some _ e) s.heap.objs.size (Nat.ne_of_gt lt) (Nat.ne_of_gt lt) _ 0 e0 (fun h' tk acc c kp hS hacc => ?_) hn
  exact h h' tk acc c (fun b o e => kp b o (Nat.ne_of_lt (Heap.lt_size e)) (Heap.get?_push_of_some _ e)) hS (items_order hacc)
/-- what a set of tuples holds, in a list -/
theorem collect_set {a : Addr} {zs : List Z} {ep : Nat} {t : SetTable} {Q : List Value → Shared → Prop} (hh : A.handled = none) (S : SetAt prog w s.heap a zs ep t) (hn : zs.length ≤ sizeLine)
    (h : ∀ (h' : Heap) (tk : Nat), (∀ b o, s.heap.get? b = some o → h'.get? b = some o) → s.heap.objs.size < h'.objs.size → Q ((order w a ep zs).map fun z => Value.ref z.1) { s with heap := h', toks := tk }) : wpAny (model prog w) A (collect (.ref a)) Q E s := by
  unfold collect
  refine wpAny_bind (wpAny_runValue (collect_code hh S hn fun h' tk acc c kp hS hacc => ?_))
  refine wpAny_bind (wpAny_load hS ?_)
  dsimp only
  rw [hacc]
  exact wpAny_pure (h h' tk kp (Heap.lt_size hS))
end
end Ts

namespace Ts
open PySem PySem.W
theorem nolen_rev : typeLookup (.type "list_reverseiterator") "__len__" = pure none := by rw [typeLookup_type, builtinLookup_eq_fast]; kernel_rfl
theorem hint_rev : typeLookup (.type "list_reverseiterator") "__length_hint__" = pure (some (.builtin "list_reverseiterator.__length_hint__")) := by rw [typeLookup_type, builtinLookup_eq_fast]; kernel_rfl
section
variable {prog : Program} {w : World} {A : Around} {E : Value → Shared → Prop} {s : Shared}
theorem no_hint {r : Addr} {Q : Bool → Shared → Prop} (hT : s.TypeIs (.ref r) "list_reverseiterator") (h : Q false s) : wpAny (model prog w) A (Builtin.List.listLengthHint (.ref r)) Q E s := by
  unfold Builtin.List.listLengthHint
  refine wpAny_bind (wpAny_specialOf hT nolen_rev ?_)
  show wpAny _ _ (specialOf (Value.ref r) (Str.ofString "__length_hint__") >>= _) _ _ _
  refine wpAny_bind (wpAny_specialOf hT hint_rev ?_)
  generalize eid : ("list_reverseiterator.__length_hint__" : String) = id0
  wp_delta
  rw [show splitId id0 = some ("list_reverseiterator", "__length_hint__") from by subst eid; decide +kernel]
  subst eid
  refine wpAny_bind (wpAny_isInstance (T := "list_reverseiterator") (b := true) hT (by rw [isSubtype_type]; kernel_rfl) ?_)
  exact wpAny_pure h
/-- list.extend by an iterator that goes back through a list -/
theorem extend_rev {R : Result → Shared → Prop} {I l S : Addr} {items : Array Value} {c0 : Nat} {res : Value} (hh : A.handled = none) (it : s.heap.IsRevIter I l ((items.size : Int) - 1)) (hl : s.heap.IsList l items) (hn : items.size ≤ sizeLine) (hne : l ≠ I) (hSI : S ≠ I) (hSl : S ≠ l)
    (hS : s.heap.get? S = some { cls := .type "list", data := .seq #[] c0 })
    (hR : ∀ (h' : Heap) (tk : Nat) (acc : Array Value) (c : Nat), (∀ b o, b ≠ S → b ≠ I → s.heap.get? b = some o → h'.get? b = some o) → h'.get? S = some { cls := .type "list", dict := none, data := .seq acc c, slots := #[] } → acc.toList = items.toList.reverse → R (.ok (.ret res)) { s with heap := h', toks := tk }) :
    wpAny (model prog w) A.in1 (Builtin.List.listExtendWith (.ref S) (.ref I) res) (fun fin s' => match fin with | .done f => R (.ok f) s' | .again c' => c'.quiet = true ∧ codeAny (model prog w) A c' R s') (fun e s' => R (.error e) s') s := by
  have hI : S ∉ [I, l] := by
    simp only [List.mem_cons, List.not_mem_nil, or_false, not_or]
    exact ⟨hSI, hSl⟩
  unfold Builtin.List.listExtendWith
  refine wpAny_bind (wpAny_typeOf it.typeIs ?_)
  have q1 : Builtin.List.listSameRef (.ref S) (.ref I) = false := by simp [Builtin.List.listSameRef, hSI]
  rw [if_neg (by rw [q1]; decide)]
  refine wpAny_bind (wpAny_pyIter_revIter it (wpAny_bind (wpAny_holding (no_hint it.typeIs ?_))))
  rw [if_neg (by decide)]
  have W := (Walks.listRev (prog := prog) (w := w) (A := A.in1) hh I l hne items).toS
  have e0 : (items.size : Int) - 1 - ((0 : Nat) : Int) = (items.size : Int) - 1 := by omega
  refine wpAny_pure ⟨plainId_quiet F.plain_extend_loop _, codeAny_extend_loopS W hn S hI res items.size 0 s #[] c0 rfl (Nat.zero_le _) ⟨Nat.zero_le _, by rw [e0]; exact it, hl⟩ hS (ItemsOf.nil _) fun s' acc c mv e2 ha => ?_⟩
  rw [Moved.eq_with mv]
  refine hR s'.heap s'.toks acc c (fun b o h1 h2 e => mv.heap b o ?_ e) e2 ?_
  · simp only [List.mem_cons, List.not_mem_nil, or_false, not_or]
    exact ⟨h1, h2⟩
  · apply List.ext_getElem?
    intro i
    have sz := ha.1
    rw [Array.getElem?_toList]
    by_cases lt : i < items.size
    · rw [List.getElem?_reverse (by rw [Array.length_toList]; exact lt), Array.length_toList, Array.getElem?_toList]
      have e : acc[i]? = some acc[i] := Array.getElem?_eq_getElem (by omega)
      rw [e]
      exact (ha.2 i _ e).symm
    · rw [Array.getElem?_eq_none (by omega), List.getElem?_eq_none (by rw [List.length_reverse, Array.length_toList]; omega)]
/-- list(reversed(xs)) -/
theorem list_reversed {l : Addr} {items : Array Value} {Q : Value → Shared → Prop} (hh : A.handled = none) (hl : s.heap.IsList l items) (hn : items.size ≤ sizeLine)
    (h : ∀ (h' : Heap) (tk : Nat) (p : Addr) (c : Nat), (∀ b o, s.heap.get? b = some o → h'.get? b = some o) → s.heap.objs.size ≤ p → h'.get? p = some { cls := .type "list", data := .seq items.toList.reverse.toArray c } → Q (.ref p) { s with heap := h', toks := tk }) :
    wpAny (model prog w) A (call (.type "reversed") [.ref l]) (fun u s1 => wpAny (model prog w) A (call (.type "list") [u]) Q E s1) E s := by
  obtain ⟨ol, hol, hr⟩ := id hl
  have lt : l < s.heap.objs.size := Heap.lt_size hol
  refine call_reversed_list hl ?_
  have sz1 : (s.heap.push (revObj l ((items.size : Int) - 1))).objs.size = s.heap.objs.size + 1 := Heap.size_push ..
  refine callType_codes (Q₁ := fun obj s1 => obj = .ref (s.heap.objs.size + 1) ∧ s1 = { s with heap := (s.heap.push (revObj l ((items.size : Int) - 1))).push { cls := .type "list", data := .seq #[] } }) F.called_list (F.typeCall_list_1 _) F.entry_list_init (code_list_new _ ⟨by rw [← sz1], rfl⟩) fun obj s1 h1 => ?_
  obtain ⟨rfl, rfl⟩ := h1
  have eS : ((s.heap.push (revObj l ((items.size : Int) - 1))).push { cls := .type "list", data := .seq #[] }).get? (s.heap.objs.size + 1) = some { cls := .type "list", data := .seq #[] } := by rw [← sz1]; exact Heap.get?_push_size _ rfl
  refine ⟨⟨_, eS, rfl⟩, F.args_list_init_2 _ _, ?_⟩
  show wpAny _ _ (do let old ← Builtin.List.listItems (.ref (s.heap.objs.size + 1)); Builtin.List.listUpdate (.ref (s.heap.objs.size + 1)) (fun _ => #[]); letGo old.toList.reverse; Builtin.List.listExtendWith (.ref (s.heap.objs.size + 1)) (.ref s.heap.objs.size) .none) _ _ _
  unfold Builtin.List.listItems
  refine wpAny_bind (wpAny_bind (wpAny_seqItems eS rfl (wpAny_pure ?_)))
  show wpAny _ _ (updateSeq (s.heap.objs.size + 1) (fun _ => #[]) >>= fun _ => letGo (#[] : Array Value).toList.reverse >>= fun _ => Builtin.List.listExtendWith (.ref (s.heap.objs.size + 1)) (.ref s.heap.objs.size) .none) _ _ _
  refine wpAny_bind (wpAny_updateSeq eS rfl (wpAny_bind (wpAny_letGo ?_)))
  have eS2 := Heap.get?_update_self (Obj.mapSeq (fun _ => (#[] : Array Value))) eS rfl
  have oth : ∀ b o, b ≠ s.heap.objs.size + 1 → (s.heap.push (revObj l ((items.size : Int) - 1))).get? b = some o → (((s.heap.push (revObj l ((items.size : Int) - 1))).push { cls := .type "list", data := .seq #[] }).update (s.heap.objs.size + 1) (Obj.mapSeq (fun _ => (#[] : Array Value)))).get? b = some o :=
    fun b o hb e => (Heap.get?_update_other _ _ (Ne.symm hb)).trans (Heap.get?_push_of_some _ e)
  refine extend_rev (A := A.in1) (I := s.heap.objs.size) (l := l) (S := s.heap.objs.size + 1) (items := items) hh ⟨_, oth _ _ (Nat.ne_of_lt (Nat.lt_succ_self _)) (Heap.get?_push_size _ rfl), rfl, rfl⟩ ⟨ol, oth _ _ (Nat.ne_of_lt (Nat.lt_succ_of_lt lt)) (Heap.get?_push_of_some _ hol), hr⟩ hn (Nat.ne_of_lt lt) (Nat.ne_of_gt (Nat.lt_succ_self _)) (Nat.ne_of_gt (Nat.lt_succ_of_lt lt)) eS2 fun h' tk acc c kp e2 ha => ?_
  refine ⟨rfl, h h' tk _ c (fun b o e => ?_) (Nat.le_succ _) (by rw [← ha]; exact e2)⟩
  have lb := Heap.lt_size e
  exact kp b o (Nat.ne_of_lt (Nat.lt_succ_of_lt lb)) (Nat.ne_of_lt lb) (oth b o (Nat.ne_of_lt (Nat.lt_succ_of_lt lb)) (Heap.get?_push_of_some _ e))
end
end Ts

set_option Elab.async false
set_option maxRecDepth 100000
set_option maxHeartbeats 2000000
namespace Best
open PySem PyProof.Rows HT
theorem lexLt_self : ∀ ns : List Int, HT.lexLt ns ns = false
  | [] => rfl
  | x :: r => by rw [lexLt_cons, if_pos rfl, lexLt_self r]
theorem tup_at {h h' : Heap} {a : Addr} {xs : Array Value} (k : ∀ o, h.get? a = some o → h'.get? a = some o) (t : IsTup h a xs) : IsTup h' a xs := by
  obtain ⟨o, e, c, n, d⟩ := t
  exact ⟨o, k o e, c, n, d⟩
/-- a comparison that the heap decides -/
def CmpIn (prog : Program) (w : World) (A : Around) (op : CmpOp) (Pi : Nat → Value → Prop) (bt : Nat → Nat → Bool) (Ch : Heap → Prop) : Prop :=
  ∀ i j vi vj (s : Shared) (Q : Value → Shared → Prop) (E : Value → Shared → Prop), Ch s.heap → Pi i vi → Pi j vj → Q (.bool (bt i j)) s → wpAny (model prog w) A (richCompare op vi vj) Q E s
section
open PySem.SeqAt
open PySem.AutoSeq1 (wpAny_loadPart')
open PySem.MeetsSeq PySem.MeetsSeq2 PySem.MeetsSeq3
theorem rcGt_int (A : Around) (s : Shared) (a : Int) (t : Tok) (c : Int) (u : Tok) (prog : Program) (w : World) (E : Value → Shared → Prop) (Q : Value → Shared → Prop) (h : Q (.bool (decide (c < a))) s) :
    wpAny (model prog w) A (richCompare .Gt (.int a t) (.int c u)) Q E s :=
  (PyProof.Rows.gt_int h : wpAny (model prog w) A (compareOp .Gt (.int a t) (.int c u)) Q E s)
theorem tuple_gt_ints (l b : Addr) (items items2 : Array Value) (n n2 : Nat) (dd dd2 : Option Addr) (sl sl2 : Array (Option Value)) (ns ms : List Int) (hi : IntsAre items.toList ns) (hj : IntsAre items2.toList ms) :
    Meets (Builtin.«tuple.__gt__» ⟨[.ref l, .ref b], []⟩)
      (fun _ R s => s.heap.get? l = some { cls := .type "tuple", dict := dd, data := .seq items n, slots := sl } ∧ s.heap.get? b = some { cls := .type "tuple", dict := dd2, data := .seq items2 n2, slots := sl2 } ∧
        R (.ok (.ret (.bool (HT.lexLt ms ns)))) s) :=
  .of_wp fun prog w A R s h => by
    obtain ⟨hp, g, d, tk, os⟩ := s; obtain ⟨hl, hb, h⟩ := h
    have f2 := AutoSeq1.sub_tuple_tuple
    have z1 : items.size = ns.length := by rw [← hi.length]; simp
    have z2 : items2.size = ms.length := by rw [← hj.length]; simp
    wp_walk using wpAny_loadPart' hl, wpAny_loadPart' hb, wpAny_forIn_list _ (fun rest b s' => b.1 = none ∧ s' = ⟨hp, g, d, tk, os⟩ ∧ ∃ (vs ws : List Value) (ns' ms' : List Int), rest = vs.zip ws ∧
      IntsAre vs ns' ∧ IntsAre ws ms' ∧ ns'.length + items2.size = ms'.length + items.size ∧ R (.ok (.ret (.bool (HT.lexLt ms' ns')))) ⟨hp, g, d, tk, os⟩) _
    case turn =>
      rintro ⟨y, x⟩ rest b s' ⟨hb', rfl, vs, ws, ns', ms', hz, hvi, hwi, hlen, hR⟩
      cases hvi with
      | nil => rw [List.zip_nil_left] at hz; cases hz
      | cons a t hvi' =>
        cases hwi with
        | nil => rw [List.zip_nil_right] at hz; cases hz
        | cons c u hwi' =>
          rw [List.zip_cons_cons] at hz
          injection hz with hyx hrest
          injection hyx with hy hx
          subst hy hx
          rw [lexLt_cons] at hR
          simp only [List.length_cons] at hlen
          obtain ⟨e, he, hiff⟩ := eqAt_int A.in1 ⟨hp, g, d, tk, os⟩ a t c u
          refine wpAny_bind (he prog w _ _ ?_)
          cases e with
          | true =>
            rw [if_pos (hiff.mp rfl).symm] at hR
            wp_walk
            exact ⟨rfl, rfl, _, _, _, _, hrest, hvi', hwi', by omega, hR⟩
          | false =>
            rw [if_neg (fun q => absurd (hiff.mpr q.symm) Bool.false_ne_true)] at hR
            have hri := rcGt_int A.in1 ⟨hp, g, d, tk, os⟩ a t c u prog w
            wp_walk using hri
            exact ⟨_, rfl, by simpa using hR⟩
    case fin =>
      rintro ⟨b1, b2⟩ s' ⟨hb', rfl, vs, ws, ns', ms', hz, hvi, hwi, hlen, hR⟩
      simp only at hb'
      subst hb'
      have hv : HT.lexLt ms' ns' = decide (items2.size < items.size) := by
        cases hvi with
        | nil =>
          cases hwi with
          | nil =>
            simp only [List.length_nil] at hlen
            rw [lexLt_nil_nil]
            exact (decide_eq_false (by omega)).symm
          | cons c u hw =>
            simp only [List.length_nil, List.length_cons] at hlen
            rw [lexLt_cons_nil]
            exact (decide_eq_false (by omega)).symm
        | cons a t hv =>
          cases hwi with
          | nil =>
            simp only [List.length_nil, List.length_cons] at hlen
            rw [lexLt_nil_cons]
            exact (decide_eq_true (by omega)).symm
          | cons c u hw =>
            rw [List.zip_cons_cons] at hz
            cases hz
      rw [hv] at hR
      wp_walk
      exact ⟨_, rfl, by simpa [Builtin.Tuple.tupleCompareSizes] using hR⟩
    case h =>
      exact ⟨rfl, rfl, items.toList, items2.toList, ns, ms, rfl, hi, hj, by omega, h⟩
end
section
variable {prog : Program} {w : World} {A : Around} {E : Value → Shared → Prop} {s : Shared}
theorem gt_tupInts {l b : Addr} {items items2 : Array Value} {ns ms : List Int} {Q : Value → Shared → Prop} (hl : IsTup s.heap l items) (hb : IsTup s.heap b items2) (hi : IntsAre items.toList ns) (hj : IntsAre items2.toList ms)
    (hu : A.units < cLine) (h : Q (.bool (HT.lexLt ms ns)) s) : wpAny (model prog w) A (compareOp .Gt (.ref l) (.ref b)) Q E s := by
  obtain ⟨⟨cls, dd, data, sl⟩, ho, hc, n, hd⟩ := id hl
  obtain ⟨⟨cls2, dd2, data2, sl2⟩, ho2, hc2, n2, hd2⟩ := id hb
  simp only at hc hd hc2 hd2
  subst hc hd hc2 hd2
  exact richCompare_meets_room (op := .Gt) ⟨_, ho, rfl⟩ ⟨_, ho2, rfl⟩ PySem.F.slot_tuple_gt PySem.F.entry_tuple_gt (PySem.F.args_tuple_gt_2 _ _) (tuple_gt_ints l b items items2 n n2 dd dd2 sl sl2 ns ms hi hj)
    ⟨ho, ho2, show Value.bool (HT.lexLt ms ns) ≠ Value.notImplemented ∧ Q (.bool (HT.lexLt ms ns)) s from ⟨(fun x => nomatch x), h⟩⟩ hu
end

section
variable {prog : Program} {w : World} {A : Around} {R : Result → Shared → Prop} {I : Addr} {fp wr : List Addr} {n : Nat} {Pi : Nat → Value → Prop} {St : Nat → Heap → Prop}
/-- the loop of max over values that the heap tells apart: Ch is what the heap must keep -/
theorem max_run (W : Walks prog w A.in1 I fp wr n Pi St) (bt : Nat → Nat → Bool) (Ch : Heap → Prop) (cmp : CmpIn prog w A.in1 .Gt Pi bt Ch) (S : Addr) (out : S ∉ fp)
    (keepC : ∀ h h', Ch h → (∀ b o, b ∉ wr → b ≠ S → h.get? b = some o → h'.get? b = some o) → Ch h') :
    ∀ (k j : Nat) (s : Shared) (vb : Value) (c : Nat), n - (j + 1) = k → j + 1 ≤ n → St (j + 1) s.heap → Ch s.heap → Pi (argBest bt j) vb → s.heap.get? S = some { cls := .type "list", dict := none, data := .seq #[vb, vb] c, slots := #[] } →
      (∀ v h' tk, Pi (argBest bt (n - 1)) v → (∀ b o, b ∉ wr → b ≠ S → s.heap.get? b = some o → h'.get? b = some o) → R (.ok (.ret v)) { s with heap := h', toks := tk }) →
      codeAny (model prog w) A (.builtin "max.loop" ⟨[.ref I, .none, .ref S], []⟩) R s := by
  have sw : S ∉ wr := fun q => out (W.sub _ q)
  have nm : (toString "max" ++ toString ".loop" : String) = "max.loop" := by decide
  intro k
  induction k with
  | zero =>
    intro j s vb c hk hj hst hch hb hS hR
    have jn : j + 1 = n := by omega
    refine codeAny_builtin PySem.F.entry_max_loop ?_
    rw [Around.under_plainId PySem.F.plain_max_loop _]
    show wpAny _ A.in1 (seqItems? (.ref S) >>= _) _ _ s
    refine wpAny_bind (wpAny_seqItems hS rfl ?_)
    show wpAny _ A.in1 (tryCatch (pyNext (.ref I)) _ >>= _) _ _ s
    refine wpAny_bind (wpAny_tryCatch (W.done s _ _ (jn ▸ hst) fun h' tk keep => ?_))
    have hS2 := keep S _ sw hS
    show wpAny _ A.in1 (updateSeq S (fun _ => #[]) >>= _) _ _ _
    refine wpAny_bind (wpAny_updateSeq hS2 rfl (wpAny_bind (wpAny_letGo (wpAny_pure ?_))))
    exact hR vb _ tk (by rw [← jn]; exact hb) fun b o h1 h2 e => (Heap.get?_update_other _ _ (Ne.symm h2)).trans (keep b o h1 e)
  | succ k ih =>
    intro j s vb c hk hj hst hch hb hS hR
    have jn : j + 1 < n := by omega
    refine codeAny_builtin PySem.F.entry_max_loop ?_
    rw [Around.under_plainId PySem.F.plain_max_loop _]
    show wpAny _ A.in1 (seqItems? (.ref S) >>= _) _ _ s
    refine wpAny_bind (wpAny_seqItems hS rfl ?_)
    show wpAny _ A.in1 (tryCatch (pyNext (.ref I)) _ >>= _) _ _ s
    refine wpAny_bind (wpAny_tryCatch (W.item (j + 1) s _ _ jn hst fun v h' tk hv hst2 keep => ?_))
    have hS2 := keep S _ sw hS
    have hch2 : Ch h' := keepC _ _ hch fun b o h1 _ e => keep b o h1 e
    show wpAny _ A.in1 (tryCatch (holding [v, v] (richCompare .Gt v vb >>= _)) _ >>= _) _ _ _
    refine wpAny_bind (wpAny_tryCatch (wpAny_holding (wpAny_bind (cmp (j + 1) (argBest bt j) v vb _ _ _ hch2 hv hb ?_))))
    refine wpAny_bind (wpAny_holding (wpAny_truthy_bool ?_))
    refine wpAny_bind (wpAny_letGo (wpAny_pure ?_))
    cases q : bt (j + 1) (argBest bt j) with
    | true =>
      simp only [if_true]
      refine wpAny_bind (wpAny_updateSeq hS2 rfl (wpAny_bind (wpAny_letGo ?_)))
      rw [nm]
      refine wpAny_pure ⟨plainId_quiet PySem.F.plain_max_loop _, ih (j + 1) _ v _ (by omega) jn (W.frame _ _ _ hst2 fun b hbf o e => ?_) ?_ (by simp only [argBest, q, if_true]; exact hv) (Heap.get?_update_self _ hS2 rfl) fun v2 h3 tk3 hv2 keep3 => ?_⟩
      · exact (Heap.get?_update_other _ _ (fun z : S = b => out (by rw [z]; exact hbf))).trans e
      · exact keepC _ _ hch2 fun b o _ h2 e => (Heap.get?_update_other _ _ (Ne.symm h2)).trans e
      · exact hR v2 h3 tk3 hv2 fun b o h1 h2 e => keep3 b o h1 h2 ((Heap.get?_update_other _ _ (Ne.symm h2)).trans (keep b o h1 e))
    | false =>
      simp only [Bool.false_eq_true, if_false]
      refine wpAny_bind (wpAny_letGo ?_)
      rw [nm]
      refine wpAny_pure ⟨plainId_quiet PySem.F.plain_max_loop _, ih (j + 1) _ vb c (by omega) jn hst2 hch2 (by simp only [argBest, q, Bool.false_eq_true, if_false]; exact hb) hS2 fun v2 h3 tk3 hv2 keep3 => ?_⟩
      exact hR v2 h3 tk3 hv2 fun b o h1 h2 e => keep3 b o h1 h2 (keep b o h1 e)
theorem max_run0 (W : Walks prog w A.in1 I fp wr n Pi St) (bt : Nat → Nat → Bool) (Ch : Heap → Prop) (cmp : CmpIn prog w A.in1 .Gt Pi bt Ch) (S : Addr) (out : S ∉ fp)
    (keepC : ∀ h h', Ch h → (∀ b o, b ∉ wr → b ≠ S → h.get? b = some o → h'.get? b = some o) → Ch h') (hn : 0 < n) {s : Shared} {c : Nat} (hst : St 0 s.heap) (hch : Ch s.heap)
    (hS : s.heap.get? S = some { cls := .type "list", dict := none, data := .seq #[] c, slots := #[] })
    (hR : ∀ v h' tk, Pi (argBest bt (n - 1)) v → (∀ b o, b ∉ wr → b ≠ S → s.heap.get? b = some o → h'.get? b = some o) → R (.ok (.ret v)) { s with heap := h', toks := tk }) :
    codeAny (model prog w) A (.builtin "max.loop" ⟨[.ref I, .none, .ref S], []⟩) R s := by
  have sw : S ∉ wr := fun q => out (W.sub _ q)
  have nm : (toString "max" ++ toString ".loop" : String) = "max.loop" := by decide
  refine codeAny_builtin PySem.F.entry_max_loop ?_
  rw [Around.under_plainId PySem.F.plain_max_loop _]
  show wpAny _ A.in1 (seqItems? (.ref S) >>= _) _ _ s
  refine wpAny_bind (wpAny_seqItems hS rfl ?_)
  show wpAny _ A.in1 (tryCatch (pyNext (.ref I)) _ >>= _) _ _ s
  refine wpAny_bind (wpAny_tryCatch (W.item 0 s _ _ hn hst fun v h' tk hv hst2 keep => ?_))
  have hS2 := keep S _ sw hS
  show wpAny _ A.in1 (updateSeq S (fun _ => #[v, v]) >>= _) _ _ _
  refine wpAny_bind (wpAny_updateSeq hS2 rfl ?_)
  rw [nm]
  refine wpAny_pure ⟨plainId_quiet PySem.F.plain_max_loop _, max_run W bt Ch cmp S out keepC _ 0 _ v _ rfl hn (W.frame _ _ _ hst2 fun b hbf o e => ?_) ?_ hv (Heap.get?_update_self _ hS2 rfl) fun v2 h3 tk3 hv2 keep3 => ?_⟩
  · exact (Heap.get?_update_other _ _ (fun z : S = b => out (by rw [z]; exact hbf))).trans e
  · exact keepC _ _ hch fun b o h1 h2 e => (Heap.get?_update_other _ _ (Ne.symm h2)).trans (keep b o h1 e)
  · exact hR v2 h3 tk3 hv2 fun b o h1 h2 e => keep3 b o h1 h2 ((Heap.get?_update_other _ _ (Ne.symm h2)).trans (keep b o h1 e))
end
section
variable {prog : Program} {w : World} {A : Around} {E : Value → Shared → Prop} {s : Shared}
/-- max of two tuples of ints -/
theorem max_tups {p q : Addr} {xs ys : Array Value} {ns ms : List Int} {Q : Value → Shared → Prop} (hh : A.handled = none) (hu : A.units + 1 < cLine) (hp : IsTup s.heap p xs) (hq : IsTup s.heap q ys) (ip : IntsAre xs.toList ns) (iq : IntsAre ys.toList ms)
    (h : ∀ h' tk, (∀ c o, s.heap.get? c = some o → h'.get? c = some o) → Q (.ref (if HT.lexLt ns ms then q else p)) { s with heap := h', toks := tk }) :
    wpAny (model prog w) A (call (.builtin "max") [.ref p, .ref q]) Q E s := by
  have nm : (toString "max" ++ toString ".loop" : String) = "max.loop" := by decide
  refine call_function_tree PySem.F.kind_max PySem.F.plain_max PySem.F.entry_max (PySem.F.args_max2 _ _) ?_
  show wpAny _ A.in1 (Builtin.Builtins.bindParams "max" ["key", "default"] 0 ⟨[], []⟩ >>= _) _ _ s
  refine wpAny_bind (wpAny_of_eq (show Builtin.Builtins.bindParams "max" ["key", "default"] 0 ⟨[], []⟩ = pure [none, none] from rfl) ?_)
  show wpAny _ A.in1 (newTuple [.ref p, .ref q] >>= _) _ _ s
  refine wpAny_bind (wpAny_newObj_type ?_)
  have hT : (s.heap.push { cls := .type "tuple", data := .seq #[.ref p, .ref q] }).IsTuple s.heap.objs.size #[.ref p, .ref q] := ⟨_, Heap.get?_push_size _ rfl, rfl, 0, rfl⟩
  have sz : (s.heap.push { cls := .type "tuple", data := .seq #[.ref p, .ref q] }).objs.size = s.heap.objs.size + 1 := Heap.size_push ..
  refine wpAny_bind (wpAny_pyIter_tuple hT ?_)
  refine wpAny_bind (wpAny_newObj_type ?_)
  rw [nm]
  have lp := hp.lt
  have lq := hq.lt
  have sz2 : ∀ o : Obj, ((s.heap.push { cls := .type "tuple", data := .seq #[.ref p, .ref q] }).push o).objs.size = s.heap.objs.size + 2 := fun o => by rw [Heap.size_push, sz]
  have old1 : ∀ a : Addr, a < s.heap.objs.size → a ∉ [(s.heap.push { cls := .type "tuple", data := .seq #[.ref p, .ref q] }).objs.size] := fun a la hm => by
    have e2 : a = s.heap.objs.size + 1 := (List.mem_singleton.mp hm).trans sz
    exact absurd la (by rw [e2]; exact Nat.not_lt.mpr (Nat.le_succ _))
  have old2 : ∀ a : Addr, a < s.heap.objs.size → ∀ {o : Obj}, a ≠ ((s.heap.push { cls := .type "tuple", data := .seq #[.ref p, .ref q] }).push o).objs.size := fun a la o z => by
    have e2 : a = s.heap.objs.size + 2 := z.trans (sz2 o)
    exact absurd la (by rw [e2]; exact Nat.not_lt.mpr (Nat.le_add_right _ _))
  refine wpAny_pure ⟨plainId_quiet PySem.F.plain_max_loop _, max_run0 (Walks.tuple (A := A.in1) hh _ s.heap.objs.size ?ne #[.ref p, .ref q]) (fun i j => (if i = 0 then (if j = 0 then false else HT.lexLt ms ns) else (if j = 0 then HT.lexLt ns ms else false)))
    (fun h => IsTup h p xs ∧ IsTup h q ys) ?cmp _ ?out ?keep (by simp) (c := 0) ?st ?ch (Heap.get?_push_size _ rfl) fun v h' tk hv keep => ?fin⟩
  case ne => exact fun z => absurd (z.trans sz) (Nat.ne_of_lt (Nat.lt_succ_self _))
  case out =>
    intro hm
    rcases List.mem_cons.mp hm with z | hm
    · exact absurd ((sz2 _).symm.trans (z.trans sz)) (Nat.succ_ne_self _)
    · exact absurd ((sz2 _).symm.trans (List.mem_singleton.mp hm)) (Nat.ne_of_gt (Nat.lt_add_of_pos_right (by decide)))
  case cmp =>
    intro i j vi vj s2 Q2 E2 hC hi hj hQ
    match i, j, hi, hj, hQ with
    | 0, 0, hi, hj, hQ =>
      cases (Option.some.inj hi : Value.ref p = vi)
      cases (Option.some.inj hj : Value.ref p = vj)
      exact gt_tupInts hC.1 hC.1 ip ip hu (by have e := lexLt_self ns; rw [e]; exact hQ)
    | 0, 1, hi, hj, hQ =>
      cases (Option.some.inj hi : Value.ref p = vi)
      cases (Option.some.inj hj : Value.ref q = vj)
      exact gt_tupInts hC.1 hC.2 ip iq hu hQ
    | 1, 0, hi, hj, hQ =>
      cases (Option.some.inj hi : Value.ref q = vi)
      cases (Option.some.inj hj : Value.ref p = vj)
      exact gt_tupInts hC.2 hC.1 iq ip hu hQ
    | 1, 1, hi, hj, hQ =>
      cases (Option.some.inj hi : Value.ref q = vi)
      cases (Option.some.inj hj : Value.ref q = vj)
      exact gt_tupInts hC.2 hC.2 iq iq hu (by have e := lexLt_self ms; rw [e]; exact hQ)
    | 0, j + 2, hi, hj, hQ => simp at hj
    | 1, j + 2, hi, hj, hQ => simp at hj
    | i + 2, j, hi, hj, hQ => simp at hi
  case keep =>
    intro h1 h2 hC k
    have np : ∀ a : Addr, a < s.heap.objs.size → ∀ o, h1.get? a = some o → h2.get? a = some o := fun a la o e => k a o (old1 a la) (old2 a la) e
    exact ⟨tup_at (np p lp) hC.1, tup_at (np q lq) hC.2⟩
  case st => exact ⟨⟨_, Heap.get?_push_of_some _ (Heap.get?_push_size _ rfl), rfl, rfl⟩, (hT.push _).push _⟩
  case ch => exact ⟨tup_at (fun o e => Heap.get?_push_of_some _ (Heap.get?_push_of_some _ (Heap.get?_push_of_some _ e))) hp, tup_at (fun o e => Heap.get?_push_of_some _ (Heap.get?_push_of_some _ (Heap.get?_push_of_some _ e))) hq⟩
  case fin =>
    have hold : ∀ c o, s.heap.get? c = some o → h'.get? c = some o := fun c o e => by
      have lc := Heap.lt_size e
      exact keep c o (old1 c lc) (old2 c lc) (Heap.get?_push_of_some _ (Heap.get?_push_of_some _ (Heap.get?_push_of_some _ e)))
    have e := h h' tk hold
    have ev : v = .ref (if HT.lexLt ns ms then q else p) := by
      cases hc : HT.lexLt ns ms <;> simp [argBest, hc] at hv <;> simp [hv]
    rw [ev]
    exact e
end

section
variable {prog : Program} {w : World} {A : Around} {R : Result → Shared → Prop} {I : Addr} {fp wr : List Addr} {n : Nat} {Pi : Nat → Value → Prop} {St : Nat → Heap → Prop}
/-- the loop of min over values that the heap tells apart: Ch is what the heap must keep -/
theorem min_run (W : Walks prog w A.in1 I fp wr n Pi St) (bt : Nat → Nat → Bool) (Ch : Heap → Prop) (cmp : CmpIn prog w A.in1 .Lt Pi bt Ch) (S : Addr) (out : S ∉ fp)
    (keepC : ∀ h h', Ch h → (∀ b o, b ∉ wr → b ≠ S → h.get? b = some o → h'.get? b = some o) → Ch h') :
    ∀ (k j : Nat) (s : Shared) (vb : Value) (c : Nat), n - (j + 1) = k → j + 1 ≤ n → St (j + 1) s.heap → Ch s.heap → Pi (argBest bt j) vb → s.heap.get? S = some { cls := .type "list", dict := none, data := .seq #[vb, vb] c, slots := #[] } →
      (∀ v h' tk, Pi (argBest bt (n - 1)) v → (∀ b o, b ∉ wr → b ≠ S → s.heap.get? b = some o → h'.get? b = some o) → R (.ok (.ret v)) { s with heap := h', toks := tk }) →
      codeAny (model prog w) A (.builtin "min.loop" ⟨[.ref I, .none, .ref S], []⟩) R s := by
  have sw : S ∉ wr := fun q => out (W.sub _ q)
  have nm : (toString "min" ++ toString ".loop" : String) = "min.loop" := by decide
  intro k
  induction k with
  | zero =>
    intro j s vb c hk hj hst hch hb hS hR
    have jn : j + 1 = n := by omega
    refine codeAny_builtin PySem.F.entry_min_loop ?_
    rw [Around.under_plainId PySem.F.plain_min_loop _]
    show wpAny _ A.in1 (seqItems? (.ref S) >>= _) _ _ s
    refine wpAny_bind (wpAny_seqItems hS rfl ?_)
    show wpAny _ A.in1 (tryCatch (pyNext (.ref I)) _ >>= _) _ _ s
    refine wpAny_bind (wpAny_tryCatch (W.done s _ _ (jn ▸ hst) fun h' tk keep => ?_))
    have hS2 := keep S _ sw hS
    show wpAny _ A.in1 (updateSeq S (fun _ => #[]) >>= _) _ _ _
    refine wpAny_bind (wpAny_updateSeq hS2 rfl (wpAny_bind (wpAny_letGo (wpAny_pure ?_))))
    exact hR vb _ tk (by rw [← jn]; exact hb) fun b o h1 h2 e => (Heap.get?_update_other _ _ (Ne.symm h2)).trans (keep b o h1 e)
  | succ k ih =>
    intro j s vb c hk hj hst hch hb hS hR
    have jn : j + 1 < n := by omega
    refine codeAny_builtin PySem.F.entry_min_loop ?_
    rw [Around.under_plainId PySem.F.plain_min_loop _]
    show wpAny _ A.in1 (seqItems? (.ref S) >>= _) _ _ s
    refine wpAny_bind (wpAny_seqItems hS rfl ?_)
    show wpAny _ A.in1 (tryCatch (pyNext (.ref I)) _ >>= _) _ _ s
    refine wpAny_bind (wpAny_tryCatch (W.item (j + 1) s _ _ jn hst fun v h' tk hv hst2 keep => ?_))
    have hS2 := keep S _ sw hS
    have hch2 : Ch h' := keepC _ _ hch fun b o h1 _ e => keep b o h1 e
    show wpAny _ A.in1 (tryCatch (holding [v, v] (richCompare .Lt v vb >>= _)) _ >>= _) _ _ _
    refine wpAny_bind (wpAny_tryCatch (wpAny_holding (wpAny_bind (cmp (j + 1) (argBest bt j) v vb _ _ _ hch2 hv hb ?_))))
    refine wpAny_bind (wpAny_holding (wpAny_truthy_bool ?_))
    refine wpAny_bind (wpAny_letGo (wpAny_pure ?_))
    cases q : bt (j + 1) (argBest bt j) with
    | true =>
      simp only [if_true]
      refine wpAny_bind (wpAny_updateSeq hS2 rfl (wpAny_bind (wpAny_letGo ?_)))
      rw [nm]
      refine wpAny_pure ⟨plainId_quiet PySem.F.plain_min_loop _, ih (j + 1) _ v _ (by omega) jn (W.frame _ _ _ hst2 fun b hbf o e => ?_) ?_ (by simp only [argBest, q, if_true]; exact hv) (Heap.get?_update_self _ hS2 rfl) fun v2 h3 tk3 hv2 keep3 => ?_⟩
      · exact (Heap.get?_update_other _ _ (fun z : S = b => out (by rw [z]; exact hbf))).trans e
      · exact keepC _ _ hch2 fun b o _ h2 e => (Heap.get?_update_other _ _ (Ne.symm h2)).trans e
      · exact hR v2 h3 tk3 hv2 fun b o h1 h2 e => keep3 b o h1 h2 ((Heap.get?_update_other _ _ (Ne.symm h2)).trans (keep b o h1 e))
    | false =>
      simp only [Bool.false_eq_true, if_false]
      refine wpAny_bind (wpAny_letGo ?_)
      rw [nm]
      refine wpAny_pure ⟨plainId_quiet PySem.F.plain_min_loop _, ih (j + 1) _ vb c (by omega) jn hst2 hch2 (by simp only [argBest, q, Bool.false_eq_true, if_false]; exact hb) hS2 fun v2 h3 tk3 hv2 keep3 => ?_⟩
      exact hR v2 h3 tk3 hv2 fun b o h1 h2 e => keep3 b o h1 h2 (keep b o h1 e)
theorem min_run0 (W : Walks prog w A.in1 I fp wr n Pi St) (bt : Nat → Nat → Bool) (Ch : Heap → Prop) (cmp : CmpIn prog w A.in1 .Lt Pi bt Ch) (S : Addr) (out : S ∉ fp)
    (keepC : ∀ h h', Ch h → (∀ b o, b ∉ wr → b ≠ S → h.get? b = some o → h'.get? b = some o) → Ch h') (hn : 0 < n) {s : Shared} {c : Nat} (hst : St 0 s.heap) (hch : Ch s.heap)
    (hS : s.heap.get? S = some { cls := .type "list", dict := none, data := .seq #[] c, slots := #[] })
    (hR : ∀ v h' tk, Pi (argBest bt (n - 1)) v → (∀ b o, b ∉ wr → b ≠ S → s.heap.get? b = some o → h'.get? b = some o) → R (.ok (.ret v)) { s with heap := h', toks := tk }) :
    codeAny (model prog w) A (.builtin "min.loop" ⟨[.ref I, .none, .ref S], []⟩) R s := by
  have sw : S ∉ wr := fun q => out (W.sub _ q)
  have nm : (toString "min" ++ toString ".loop" : String) = "min.loop" := by decide
  refine codeAny_builtin PySem.F.entry_min_loop ?_
  rw [Around.under_plainId PySem.F.plain_min_loop _]
  show wpAny _ A.in1 (seqItems? (.ref S) >>= _) _ _ s
  refine wpAny_bind (wpAny_seqItems hS rfl ?_)
  show wpAny _ A.in1 (tryCatch (pyNext (.ref I)) _ >>= _) _ _ s
  refine wpAny_bind (wpAny_tryCatch (W.item 0 s _ _ hn hst fun v h' tk hv hst2 keep => ?_))
  have hS2 := keep S _ sw hS
  show wpAny _ A.in1 (updateSeq S (fun _ => #[v, v]) >>= _) _ _ _
  refine wpAny_bind (wpAny_updateSeq hS2 rfl ?_)
  rw [nm]
  refine wpAny_pure ⟨plainId_quiet PySem.F.plain_min_loop _, min_run W bt Ch cmp S out keepC _ 0 _ v _ rfl hn (W.frame _ _ _ hst2 fun b hbf o e => ?_) ?_ hv (Heap.get?_update_self _ hS2 rfl) fun v2 h3 tk3 hv2 keep3 => ?_⟩
  · exact (Heap.get?_update_other _ _ (fun z : S = b => out (by rw [z]; exact hbf))).trans e
  · exact keepC _ _ hch fun b o h1 h2 e => (Heap.get?_update_other _ _ (Ne.symm h2)).trans (keep b o h1 e)
  · exact hR v2 h3 tk3 hv2 fun b o h1 h2 e => keep3 b o h1 h2 ((Heap.get?_update_other _ _ (Ne.symm h2)).trans (keep b o h1 e))
end
section
variable {prog : Program} {w : World} {A : Around} {E : Value → Shared → Prop} {s : Shared}
/-- min of two tuples of ints -/
theorem min_tups {p q : Addr} {xs ys : Array Value} {ns ms : List Int} {Q : Value → Shared → Prop} (hh : A.handled = none) (hu : A.units + 1 < cLine) (hp : IsTup s.heap p xs) (hq : IsTup s.heap q ys) (ip : IntsAre xs.toList ns) (iq : IntsAre ys.toList ms)
    (h : ∀ h' tk, (∀ c o, s.heap.get? c = some o → h'.get? c = some o) → Q (.ref (if HT.lexLt ms ns then q else p)) { s with heap := h', toks := tk }) :
    wpAny (model prog w) A (call (.builtin "min") [.ref p, .ref q]) Q E s := by
  have nm : (toString "min" ++ toString ".loop" : String) = "min.loop" := by decide
  refine call_function_tree PySem.F.kind_min PySem.F.plain_min PySem.F.entry_min (PySem.F.args_min2 _ _) ?_
  show wpAny _ A.in1 (Builtin.Builtins.bindParams "min" ["key", "default"] 0 ⟨[], []⟩ >>= _) _ _ s
  refine wpAny_bind (wpAny_of_eq (show Builtin.Builtins.bindParams "min" ["key", "default"] 0 ⟨[], []⟩ = pure [none, none] from rfl) ?_)
  show wpAny _ A.in1 (newTuple [.ref p, .ref q] >>= _) _ _ s
  refine wpAny_bind (wpAny_newObj_type ?_)
  have hT : (s.heap.push { cls := .type "tuple", data := .seq #[.ref p, .ref q] }).IsTuple s.heap.objs.size #[.ref p, .ref q] := ⟨_, Heap.get?_push_size _ rfl, rfl, 0, rfl⟩
  have sz : (s.heap.push { cls := .type "tuple", data := .seq #[.ref p, .ref q] }).objs.size = s.heap.objs.size + 1 := Heap.size_push ..
  refine wpAny_bind (wpAny_pyIter_tuple hT ?_)
  refine wpAny_bind (wpAny_newObj_type ?_)
  rw [nm]
  have lp := hp.lt
  have lq := hq.lt
  have sz2 : ∀ o : Obj, ((s.heap.push { cls := .type "tuple", data := .seq #[.ref p, .ref q] }).push o).objs.size = s.heap.objs.size + 2 := fun o => by rw [Heap.size_push, sz]
  have old1 : ∀ a : Addr, a < s.heap.objs.size → a ∉ [(s.heap.push { cls := .type "tuple", data := .seq #[.ref p, .ref q] }).objs.size] := fun a la hm => by
    have e2 : a = s.heap.objs.size + 1 := (List.mem_singleton.mp hm).trans sz
    exact absurd la (by rw [e2]; exact Nat.not_lt.mpr (Nat.le_succ _))
  have old2 : ∀ a : Addr, a < s.heap.objs.size → ∀ {o : Obj}, a ≠ ((s.heap.push { cls := .type "tuple", data := .seq #[.ref p, .ref q] }).push o).objs.size := fun a la o z => by
    have e2 : a = s.heap.objs.size + 2 := z.trans (sz2 o)
    exact absurd la (by rw [e2]; exact Nat.not_lt.mpr (Nat.le_add_right _ _))
  refine wpAny_pure ⟨plainId_quiet PySem.F.plain_min_loop _, min_run0 (Walks.tuple (A := A.in1) hh _ s.heap.objs.size ?ne #[.ref p, .ref q]) (fun i j => (if i = 0 then (if j = 0 then false else HT.lexLt ns ms) else (if j = 0 then HT.lexLt ms ns else false)))
    (fun h => IsTup h p xs ∧ IsTup h q ys) ?cmp _ ?out ?keep (by simp) (c := 0) ?st ?ch (Heap.get?_push_size _ rfl) fun v h' tk hv keep => ?fin⟩
  case ne => exact fun z => absurd (z.trans sz) (Nat.ne_of_lt (Nat.lt_succ_self _))
  case out =>
    intro hm
    rcases List.mem_cons.mp hm with z | hm
    · exact absurd ((sz2 _).symm.trans (z.trans sz)) (Nat.succ_ne_self _)
    · exact absurd ((sz2 _).symm.trans (List.mem_singleton.mp hm)) (Nat.ne_of_gt (Nat.lt_add_of_pos_right (by decide)))
  case cmp =>
    intro i j vi vj s2 Q2 E2 hC hi hj hQ
    match i, j, hi, hj, hQ with
    | 0, 0, hi, hj, hQ =>
      cases (Option.some.inj hi : Value.ref p = vi)
      cases (Option.some.inj hj : Value.ref p = vj)
      exact lt_tupInts hC.1 hC.1 ip ip hu (by have e := lexLt_self ns; rw [e]; exact hQ)
    | 0, 1, hi, hj, hQ =>
      cases (Option.some.inj hi : Value.ref p = vi)
      cases (Option.some.inj hj : Value.ref q = vj)
      exact lt_tupInts hC.1 hC.2 ip iq hu hQ
    | 1, 0, hi, hj, hQ =>
      cases (Option.some.inj hi : Value.ref q = vi)
      cases (Option.some.inj hj : Value.ref p = vj)
      exact lt_tupInts hC.2 hC.1 iq ip hu hQ
    | 1, 1, hi, hj, hQ =>
      cases (Option.some.inj hi : Value.ref q = vi)
      cases (Option.some.inj hj : Value.ref q = vj)
      exact lt_tupInts hC.2 hC.2 iq iq hu (by have e := lexLt_self ms; rw [e]; exact hQ)
    | 0, j + 2, hi, hj, hQ => simp at hj
    | 1, j + 2, hi, hj, hQ => simp at hj
    | i + 2, j, hi, hj, hQ => simp at hi
  case keep =>
    intro h1 h2 hC k
    have np : ∀ a : Addr, a < s.heap.objs.size → ∀ o, h1.get? a = some o → h2.get? a = some o := fun a la o e => k a o (old1 a la) (old2 a la) e
    exact ⟨tup_at (np p lp) hC.1, tup_at (np q lq) hC.2⟩
  case st => exact ⟨⟨_, Heap.get?_push_of_some _ (Heap.get?_push_size _ rfl), rfl, rfl⟩, (hT.push _).push _⟩
  case ch => exact ⟨tup_at (fun o e => Heap.get?_push_of_some _ (Heap.get?_push_of_some _ (Heap.get?_push_of_some _ e))) hp, tup_at (fun o e => Heap.get?_push_of_some _ (Heap.get?_push_of_some _ (Heap.get?_push_of_some _ e))) hq⟩
  case fin =>
    have hold : ∀ c o, s.heap.get? c = some o → h'.get? c = some o := fun c o e => by
      have lc := Heap.lt_size e
      exact keep c o (old1 c lc) (old2 c lc) (Heap.get?_push_of_some _ (Heap.get?_push_of_some _ (Heap.get?_push_of_some _ e)))
    have e := h h' tk hold
    have ev : v = .ref (if HT.lexLt ms ns then q else p) := by
      cases hc : HT.lexLt ms ns <;> simp [argBest, hc] at hv <;> simp [hv]
    rw [ev]
    exact e
end

section
open L2
variable {X : Cx}
def rGtT (K : PySem.W.Frag) : R2 := fun x y H Q => ∃ a b ns ms, x = .ref a ∧ y = .ref b ∧ SqT K H a (ns.map V.int) ∧ SqT K H b (ms.map V.int) ∧ Q (.bl (HT.lexLt ms ns)) H
theorem op_gtT (hu : X.A.units < cLine) : OpR X (compareOp .Gt) (rGtT X.K) := by
  intro pins s σ H x y v u Q I rx ry h
  obtain ⟨a, b, ns, ms, rfl, rfl, ha, hb, q⟩ := h
  cases rx
  cases ry
  obtain ⟨its, r1, p1, _⟩ := I.tuple ha
  obtain ⟨its2, r2, p2, _⟩ := I.tuple hb
  exact gt_tupInts p1 p2 (intsAre_of r1) (intsAre_of r2) hu ⟨.bl (HT.lexLt ms ns), H, I, rfl, q⟩
theorem call_maxT (hc : X.calm = true) (hu : X.A.units + 1 < cLine) : CallR X (.builtin "max") (fun xs H Q => ∃ a b ns ms, xs = [.ref a, .ref b] ∧ SqT X.K H a (ns.map V.int) ∧ SqT X.K H b (ms.map V.int) ∧ Q (.ref (if HT.lexLt ns ms then b else a)) H) := by
  intro pins s σ H xs us Q I r h
  obtain ⟨a, b, ns, ms, rfl, ha, hb, q⟩ := h
  obtain ⟨u, v, rfl, r1, r2⟩ := vals2 r
  cases r1
  cases r2
  obtain ⟨its, v1, p1, _⟩ := I.tuple ha
  obtain ⟨its2, v2, p2, _⟩ := I.tuple hb
  exact max_tups (I.ok.hd hc) hu p1 p2 (intsAre_of v1) (intsAre_of v2) fun h' tk k => ⟨.ref (if HT.lexLt ns ms then b else a), H, I.kept k, rfl, q⟩
theorem call_minT (hc : X.calm = true) (hu : X.A.units + 1 < cLine) : CallR X (.builtin "min") (fun xs H Q => ∃ a b ns ms, xs = [.ref a, .ref b] ∧ SqT X.K H a (ns.map V.int) ∧ SqT X.K H b (ms.map V.int) ∧ Q (.ref (if HT.lexLt ms ns then b else a)) H) := by
  intro pins s σ H xs us Q I r h
  obtain ⟨a, b, ns, ms, rfl, ha, hb, q⟩ := h
  obtain ⟨u, v, rfl, r1, r2⟩ := vals2 r
  cases r1
  cases r2
  obtain ⟨its, v1, p1, _⟩ := I.tuple ha
  obtain ⟨its2, v2, p2, _⟩ := I.tuple hb
  exact min_tups (I.ok.hd hc) hu p1 p2 (intsAre_of v1) (intsAre_of v2) fun h' tk k => ⟨.ref (if HT.lexLt ms ns then b else a), H, I.kept k, rfl, q⟩
end
end Best

namespace Srt
open PySem PyProof.Rows L2
/-- a list that is another's image, put in another order, is an image too -/
theorem perm_map {α β : Type} {f : α → β} {l m : List β} (h : l.Perm m) : ∀ zs : List α, m = zs.map f → ∃ ws : List α, ws.Perm zs ∧ l = ws.map f := by
  induction h with
  | nil => intro zs e; exact ⟨zs, .refl _, e⟩
  | cons x _ ih =>
    intro zs e
    cases zs with
    | nil => cases e
    | cons z r =>
      rw [List.map_cons] at e
      injection e with e1 e2
      obtain ⟨ws, h1, h2⟩ := ih r e2
      exact ⟨z :: ws, h1.cons z, by rw [List.map_cons, ← h2, e1]⟩
  | swap x y l =>
    intro zs e
    cases zs with
    | nil => cases e
    | cons z r =>
      rw [List.map_cons] at e
      injection e with e1 e2
      cases r with
      | nil => cases e2
      | cons z2 r =>
        rw [List.map_cons] at e2
        injection e2 with e3 e4
        exact ⟨z2 :: z :: r, .swap z z2 r, by rw [List.map_cons, List.map_cons, ← e1, ← e3, ← e4]⟩
  | trans _ _ ih1 ih2 =>
    intro zs e
    obtain ⟨ws, h1, h2⟩ := ih2 zs e
    obtain ⟨vs, h3, h4⟩ := ih1 ws h2
    exact ⟨vs, h3.trans h1, h4⟩
abbrev sh0 : Nat → Bool := fun _ => false
theorem items_ints : ∀ {vs : List Value} {ns : List Int} (i : Nat), IntsAre vs ns → PyProof.Rows.tupItems sh0 i vs = some (ns.map Sum.inl)
  | _, _, _, .nil => rfl
  | _, _, i, .cons a t r => by
    show (if sh0 i = true then none else (PyProof.Rows.tupItems sh0 (i + 1) _).map (Sum.inl a :: ·)) = _
    rw [if_neg (by simp), items_ints (i + 1) r]
    rfl
theorem key_of {h : Heap} {a : Addr} {xs : Array Value} {ns : List Int} (t : IsTup h a xs) (hi : IntsAre xs.toList ns) : PyProof.Rows.G.tupKeyC h sh0 (.ref a) = some (ns.map Sum.inl) := by
  obtain ⟨o, ho, hc, n, hd⟩ := t
  have e1 : PyProof.Rows.G.isTupObj h (.ref a) = true := by
    unfold PyProof.Rows.G.isTupObj
    simp only [ho, hc]
    rfl
  unfold PyProof.Rows.G.tupKeyC
  rw [if_pos e1]
  unfold PyProof.Rows.tupKey
  simp only [ho, hd]
  exact items_ints 0 hi
theorem lex_ints : ∀ ns ms : List Int, PyProof.Rows.lexLt PyProof.Rows.itemOrd (ns.map Sum.inl) (ms.map Sum.inl) = HT.lexLt ns ms
  | [], [] => rfl
  | [], _ :: _ => rfl
  | _ :: _, [] => rfl
  | x :: ns, y :: ms => by
    rw [List.map_cons, List.map_cons, PyProof.Rows.lex_cons, HT.lexLt_cons, lex_ints ns ms]
    show (decide (x < y) || (!decide (y < x) && HT.lexLt ns ms)) = _
    by_cases e : x = y
    · rw [if_pos e]
      subst e
      simp
    · rw [if_neg e]
      by_cases l : x < y
      · simp [l]
      · have : y < x := by omega
        simp [l, this]
theorem vals_refs : ∀ {zs : List (Addr × List Int)} {us : List Value}, Vals (zs.map fun z => V.ref z.1) us → us = zs.map fun z => Value.ref z.1
  | [], _, .nil => rfl
  | z :: zs, _, .cons r t => by
    have e : _ = Value.ref z.1 := r
    rw [List.map_cons, e, vals_refs t]
theorem refs_vals : ∀ (zs : List (Addr × List Int)), Vals (zs.map fun z => V.ref z.1) (zs.map fun z => Value.ref z.1)
  | [] => .nil
  | _ :: zs => .cons rfl (refs_vals zs)
section
variable {X : Cx}
theorem tups_of {pins : List (Addr × Obj)} {σ : L2.St} {H : Hp} {s : Shared} (I : Inv X pins σ H s) : ∀ (zs : List (Addr × List Int)), (∀ z ∈ zs, SqT X.K H z.1 (z.2.map V.int) ∧ z.2 ≠ []) → ∃ fs, PyProof.Rows.TupsOf s.heap sh0 (zs.map fun z => Value.ref z.1) fs
  | [], _ => ⟨[], .nil⟩
  | z :: zs, h => by
    obtain ⟨fs, hf⟩ := tups_of I zs fun y hy => h y (List.mem_cons_of_mem _ hy)
    obtain ⟨h1, h2⟩ := h z (List.mem_cons_self ..)
    obtain ⟨its, rv, ⟨o, ho, hc, n, hd⟩, _⟩ := I.tuple h1
    obtain ⟨y, ns⟩ := z
    cases ns with
    | nil => exact absurd rfl h2
    | cons a r =>
      cases rv with
      | cons r1 r2 =>
        obtain ⟨t, rfl⟩ := r1
        exact ⟨_ :: fs, .cons ⟨y, o, _, n, rfl, ho, hc, hd, rfl, fun _ => ⟨a, t, rfl⟩, fun z => absurd z (by simp)⟩ hf⟩
/-- sorted(xs), a list of tuples of ints, of any length -/
def rSortedT (K : PySem.W.Frag) : List V → Hp → VK → Prop := fun vs H Q => ∃ (a : Addr) (zs : List (Addr × List Int)), vs = [V.ref a] ∧ SqL K H a (zs.map fun z => V.ref z.1) ∧ (∀ z ∈ zs, SqT K H z.1 (z.2.map V.int) ∧ z.2 ≠ []) ∧
  ∀ (ws : List (Addr × List Int)) (p : Addr), ws.Perm zs → ws.Pairwise (fun x y => HT.lexLt y.2 x.2 = false) → H p = none → Q (.ref p) (upd H p (.lst (ws.map fun z => V.ref z.1)))
theorem cr_sortedT : CallR X (.builtin "sorted") (rSortedT X.K) := by
  intro pins s σ H vs us Q I r h
  obtain ⟨a, zs, rfl, hs, ht, q⟩ := h
  obtain ⟨its, rv, hl, hz⟩ := I.list hs
  rw [Vals.ref1 r]
  have e := vals_refs rv
  subst e
  rw [List.length_map] at hz
  have key : ∀ z ∈ zs, PyProof.Rows.G.tupKeyC s.heap sh0 (.ref z.1) = some (z.2.map Sum.inl) := fun z m => by
    obtain ⟨its, r1, t, _⟩ := I.tuple (ht z m).1
    exact key_of t (intsAre_of r1)
  obtain ⟨fs, hf⟩ := tups_of I zs ht
  refine PyProof.Rows.G.sorted_tups hl.isList hf (fun v hv => ?_) (by rw [List.length_map]; exact hz) fun st' h1 h2 _ => ?_
  · obtain ⟨z, m, rfl⟩ := List.mem_map.mp hv
    exact ⟨_, key z m⟩
  · have pm : (PyProof.Rows.arrOf st').toList.Perm ((zs.map fun z => Value.ref z.1).zip (zs.map fun z => Value.ref z.1)) := by
      have := Array.perm_iff_toList_perm.mp h1
      rw [PyProof.Rows.pairsOf_toList] at this
      exact this
    have ez : (zs.map fun z => Value.ref z.1).zip (zs.map fun z => Value.ref z.1) = zs.map fun z => (Value.ref z.1, Value.ref z.1) := by
      rw [List.zip_map']
    rw [ez] at pm
    obtain ⟨ws, w1, w2⟩ := perm_map pm zs rfl
    have out : ((PyProof.Rows.arrOf st').map (·.2)).toList = ws.map fun z => Value.ref z.1 := by
      rw [Array.toList_map, w2, List.map_map]
      rfl
    obtain ⟨ep, he'⟩ := PyProof.Rows.sortedAll_at s.heap (zs.map fun z => Value.ref z.1) ((PyProof.Rows.arrOf st').map (·.2))
    have hlen : (ws.map fun z => V.ref z.1).length ≤ sizeLine := by rw [List.length_map, w1.length_eq]; exact hz
    refine ⟨.ref _, upd H (s.heap.objs.size + 1) (.lst (ws.map fun z => V.ref z.1)), I.laid (t' := s.toks) (fun _ _ => PyProof.Rows.sortedAll_old) (Nat.le_succ _) ⟨hlen, ws.map fun z => Value.ref z.1, ep, refs_vals ws, ?_⟩, rfl, q ws _ w1 ?_ (I.hok.fresh (Nat.le_succ _))⟩
    · rw [← out, Array.toArray_toList]
      exact he'
    · rw [List.pairwise_iff_getElem]
      intro i j hi hj hij
      have sz : (PyProof.Rows.pairsOf (zs.map fun z => Value.ref z.1)).size = ws.length := by rw [PyProof.Rows.pairsOf_size, List.length_map, w1.length_eq]
      have k2 := h2 i j (Nat.le_of_lt hij) (by rw [sz]; exact hj)
      have at_ : ∀ (k : Nat) (hk : k < ws.length), PyProof.Rows.KK (PyProof.Rows.G.tupKindC s.heap sh0) (PyProof.Rows.arrOf st') k = ws[k].2.map Sum.inl := fun k hk => by
        unfold PyProof.Rows.KK
        rw [← Array.getElem?_toList, w2, List.getElem?_map, List.getElem?_eq_getElem hk]
        show (PyProof.Rows.G.tupKeyC s.heap sh0 (.ref ws[k].1)).getD [] = _
        rw [key ws[k] (w1.mem_iff.mp (List.getElem_mem hk))]
        rfl
      rw [at_ i hi, at_ j hj] at k2
      have k3 : PyProof.Rows.lexLt PyProof.Rows.itemOrd (ws[j].2.map Sum.inl) (ws[i].2.map Sum.inl) = false := k2
      rw [lex_ints] at k3
      exact k3
end
end Srt

namespace Two
open PySem PyProof.Rows L2
section
variable {X : Cx}
/-- f(g(e)): what the two calls, one in the other, make of the value of e -/
def TwoR (X : Cx) (f g : Value) (r : V → Hp → VK → Prop) : Prop := ∀ (pins : List (Addr × Obj)) (s : Shared) (σ : L2.St) (H : Hp) (x : V) (v : Value) (Q : VK), Inv X pins σ H s → RelV x v → r x H Q →
  wpAny (model X.prog X.w) X.A (call g [v]) (fun u s1 => wpAny (model X.prog X.w) X.A (call f [u]) (EP X pins σ Q) X.xe s1) X.xe s
def tTwo (r : V → Hp → VK → Prop) (te : TE) : TE := fun σ H Q => te σ H fun x H1 => r x H1 Q
theorem one_arg {e : Expr} {pos : Pos} {s : Shared} {Q : List Value → Shared → Prop} (hs : starEach [e] X.env = [(false, eval e X.env)]) (h : wpAny (model X.prog X.w) X.A (eval e X.env) (fun v s1 => Q [v] s1) X.xe s) :
    wpAny (model X.prog X.w) X.A (spliced (backTo pos (starEach [e] X.env))) Q X.xe s := by
  rw [hs]
  exact Calls.spliced_cons (thn h fun v s1 q => Calls.spliced_nil q)
theorem inner_call {y : Str} {p2 pos2 : Pos} {e : Expr} {te : TE} {T : String} {pins : List (Addr × Obj)} {s : Shared} {σ : L2.St} {H : Hp} {R : Value → Shared → Prop} {K : V → Hp → Prop} (hg2 : Gl X y) (hm2 : X.mg y = none) (hv2 : bootBuiltins y = some (.type T)) (he : PE X e te)
    (hn : y ≠ "__name__") (hdb : (y == ("__debug__" : Str)) = false) (hs : starEach [e] X.env = [(false, eval e X.env)]) (I : Inv X pins σ H s) (h : te σ H K)
    (k : ∀ (s1 : Shared) (H1 : Hp) (x : V) (v : Value), Inv X pins σ H1 s1 → RelV x v → K x H1 → wpAny (model X.prog X.w) X.A (call (.type T) [v]) R X.xe s1) : wpAny (model X.prog X.w) X.A (eval (.Call (.Name y p2) [e] [] pos2) X.env) R X.xe s := by
  refine wpAny_Call_Name_kw (ld_blt I hg2 hm2 hv2 ?_ hn hdb)
  exact PyProof.Rows.callWith_type1 (one_arg hs (thn (he pins s σ H _ I h) fun v s1 ⟨x, H1, I1, r1, q1⟩ => k s1 H1 x v I1 r1 q1)) hs rfl
theorem pe_twoB {x y : Str} {p p2 pos pos2 : Pos} {e : Expr} {te : TE} {id T : String} {r : V → Hp → VK → Prop} (h2 : TwoR X (.builtin id) (.type T) r) (hg : Gl X x) (hm : X.mg x = none) (hv : bootBuiltins x = some (.builtin id)) (hg2 : Gl X y) (hm2 : X.mg y = none) (hv2 : bootBuiltins y = some (.type T)) (he : PE X e te)
    (hn : x ≠ "__name__" := by decide) (hdb : (x == ("__debug__" : Str)) = false := by decide) (hn2 : y ≠ "__name__" := by decide) (hdb2 : (y == ("__debug__" : Str)) = false := by decide)
    (hs : starEach [e] X.env = [(false, eval e X.env)] := by rfl) (hs1 : starEach [.Call (.Name y p2) [e] [] pos2] X.env = [(false, eval (.Call (.Name y p2) [e] [] pos2) X.env)] := by rfl) :
    PE X (.Call (.Name x p) [.Call (.Name y p2) [e] [] pos2] [] pos) (tTwo r te) := by
  intro pins s σ H Q I h
  refine wpAny_Call_Name_kw (ld_blt I hg hm hv ?_ hn hdb)
  exact PyProof.Rows.callWith_builtin1 (one_arg hs1 (inner_call hg2 hm2 hv2 he hn2 hdb2 hs I h fun s1 H1 z v I1 r1 q1 => h2 pins s1 σ H1 z v Q I1 r1 q1)) hs1 rfl
theorem pe_twoT {x y : Str} {p p2 pos pos2 : Pos} {e : Expr} {te : TE} {U T : String} {r : V → Hp → VK → Prop} (h2 : TwoR X (.type U) (.type T) r) (hg : Gl X x) (hm : X.mg x = none) (hv : bootBuiltins x = some (.type U)) (hg2 : Gl X y) (hm2 : X.mg y = none) (hv2 : bootBuiltins y = some (.type T)) (he : PE X e te)
    (hn : x ≠ "__name__" := by decide) (hdb : (x == ("__debug__" : Str)) = false := by decide) (hn2 : y ≠ "__name__" := by decide) (hdb2 : (y == ("__debug__" : Str)) = false := by decide)
    (hs : starEach [e] X.env = [(false, eval e X.env)] := by rfl) (hs1 : starEach [.Call (.Name y p2) [e] [] pos2] X.env = [(false, eval (.Call (.Name y p2) [e] [] pos2) X.env)] := by rfl) :
    PE X (.Call (.Name x p) [.Call (.Name y p2) [e] [] pos2] [] pos) (tTwo r te) := by
  intro pins s σ H Q I h
  refine wpAny_Call_Name_kw (ld_blt I hg hm hv ?_ hn hdb)
  exact PyProof.Rows.callWith_type1 (one_arg hs1 (inner_call hg2 hm2 hv2 he hn2 hdb2 hs I h fun s1 H1 z v I1 r1 q1 => h2 pins s1 σ H1 z v Q I1 r1 q1)) hs1 rfl
end
/-! ### sorted(set(xs)) -/
section
variable {prog : Program} {w : World} {A : Around} {E : Value → Shared → Prop} {s : Shared}
theorem ints_items {ks : List Int} {vs : List Value} (h : ItemsAre (intKind prog w) ks vs) : IntsAre vs ks := by
  induction h with
  | nil => exact .nil
  | cons h1 _ ih =>
    obtain ⟨t, rfl⟩ := Ts.int_inv h1
    exact .cons _ t ih
theorem items_ints : ∀ {vs : List Value} {ks : List Int}, IntsAre vs ks → ItemsAre (intKind prog w) ks vs
  | _, _, .nil => .nil
  | _, _, .cons a t r => .cons (intKind_is prog w a t) (items_ints r)
theorem key_tup {h : Heap} {ks : List Int} {x : Addr} (q : IsTupleKey (intKind prog w) h ks x) : PyProof.Rows.G.tupKeyC h Srt.sh0 (.ref x) = some (ks.map Sum.inl) := by
  obtain ⟨o, items, n, ho, hc, hd, hi⟩ := q
  exact Srt.key_of (xs := items) ⟨o, ho, hc, n, hd⟩ (ints_items hi)
theorem tups_set {h : Heap} : ∀ (zs : List Ts.Z), Ts.Tups prog w h zs → (∀ z ∈ zs, z.2 ≠ []) → ∃ fs, PyProof.Rows.TupsOf h Srt.sh0 (zs.map fun z => Value.ref z.1) fs
  | [], _, _ => ⟨[], .nil⟩
  | z :: zs, tz, hn => by
    obtain ⟨fs, hf⟩ := tups_set zs (fun y hy => tz y (List.mem_cons_of_mem _ hy)) fun y hy => hn y (List.mem_cons_of_mem _ hy)
    obtain ⟨o, items, n, ho, hc, hd, hi⟩ := tz z (List.mem_cons_self ..)
    have hz := hn z (List.mem_cons_self ..)
    have hi2 := ints_items hi
    obtain ⟨y, ks⟩ := z
    cases ks with
    | nil => exact absurd rfl hz
    | cons k r =>
      generalize ei : items.toList = its at hi2
      cases hi2 with
      | cons _ t _ =>
        exact ⟨_ :: fs, .cons ⟨y, o, items, n, rfl, ho, hc, hd, (by rw [← Array.getElem?_toList, ei]; rfl), (fun _ => ⟨k, t, rfl⟩), (fun q => absurd q (by simp))⟩ hf⟩
theorem sorted_set {a : Addr} {zs : List Ts.Z} {ep : Nat} {t : SetTable} {Q : Value → Shared → Prop} (hh : A.handled = none) (S : Ts.SetAt prog w s.heap a zs ep t) (tz : Ts.Tups prog w s.heap zs) (hne : ∀ z ∈ zs, z.2 ≠ []) (hn : zs.length ≤ sizeLine)
    (h : ∀ (h' : Heap) (tk : Nat) (ws : List Ts.Z) (p : Addr) (c : Nat), ws.Perm zs → ws.Pairwise (fun x y => HT.lexLt y.2 x.2 = false) → (∀ b o, s.heap.get? b = some o → h'.get? b = some o) → s.heap.objs.size ≤ p →
      h'.get? p = some { cls := .type "list", data := .seq (ws.map fun z => Value.ref z.1).toArray c } → Q (.ref p) { s with heap := h', toks := tk }) :
    wpAny (model prog w) A (call (.builtin "sorted") [.ref a]) Q E s := by
  have op := Ts.order_perm (w := w) a ep zs
  refine Calls.call_function_entry kind_sorted plain_sorted entry_sorted (args_sorted1 _) ?_
  unfold Builtin.«sorted»
  refine wpAny_bind (m := checkCount "sorted" 1 1 _) (wpAny_pure ?_)
  refine wpAny_bind (Ts.collect_set (A := A.in1) hh S hn fun h1 tk kp lt => ?_)
  have tz1 : Ts.Tups prog w h1 (Ts.order w a ep zs) := fun z hz => Ts.key_at (tz z (op.mem_iff.mp hz)) fun o e => kp _ o e
  have hne1 : ∀ z ∈ Ts.order w a ep zs, z.2 ≠ [] := fun z hz => hne z (op.mem_iff.mp hz)
  have hn1 : (Ts.order w a ep zs).length ≤ sizeLine := by rw [op.length_eq]; exact hn
  generalize Ts.order w a ep zs = os at *
  refine wpAny_bind (wpAny_newList ?_)
  have e0 : (h1.push (seqObj "list" (os.map fun z => Value.ref z.1).toArray 0)).get? h1.objs.size = some (seqObj "list" (os.map fun z => Value.ref z.1).toArray 0) := Heap.get?_push_size _ rfl
  have tz2 : Ts.Tups prog w (h1.push (seqObj "list" (os.map fun z => Value.ref z.1).toArray 0)) os := fun z hz => Ts.key_at (tz1 z hz) fun o e => Heap.get?_push_of_some _ e
  obtain ⟨fs, hf⟩ := tups_set os tz2 hne1
  have key : ∀ z ∈ os, PyProof.Rows.G.tupKeyC (h1.push (seqObj "list" (os.map fun z => Value.ref z.1).toArray 0)) Srt.sh0 (.ref z.1) = some (z.2.map Sum.inl) := fun z hz => key_tup (tz2 z hz)
  refine wpAny_bind (wpAny_holding (wpAny_call_entry slot_list_sort ⟨_, e0, rfl⟩ entry_list_sort (PyProof.Rows.G.list_sort_tups (s := { s with heap := h1.push (seqObj "list" (os.map fun z => Value.ref z.1).toArray 0), toks := tk }) e0 hf (fun v hv => ?_) (by rw [List.length_map]; exact hn1) fun st' p1 p2 _ => ⟨_, rfl, ?_⟩) (args_list_sort _)))
  · obtain ⟨z, hz, rfl⟩ := List.mem_map.mp hv
    exact ⟨_, key z hz⟩
  · have pm : (PyProof.Rows.arrOf st').toList.Perm ((os.map fun z => Value.ref z.1).zip (os.map fun z => Value.ref z.1)) := by
      have q := Array.perm_iff_toList_perm.mp p1
      rw [PyProof.Rows.pairsOf_toList] at q
      exact q
    rw [List.zip_map'] at pm
    obtain ⟨ws, w1, w2⟩ := Srt.perm_map pm os rfl
    have out : (PyProof.Rows.arrOf st').map (·.2) = (ws.map fun z => Value.ref z.1).toArray := by
      apply Array.toList_inj.mp
      rw [Array.toList_map, w2, List.map_map]
      rfl
    obtain ⟨c, ec⟩ := sortedHeap_at (out := (PyProof.Rows.arrOf st').map (·.2)) e0
    rw [out] at ec
    refine wpAny_pure ⟨_, rfl, h _ tk ws h1.objs.size c (w1.trans op) ?_ (fun b o e => ?_) (Nat.le_of_lt lt) (by rw [out]; exact ec)⟩
    · rw [List.pairwise_iff_getElem]
      intro i j hi hj hij
      have sz : (PyProof.Rows.pairsOf (os.map fun z => Value.ref z.1)).size = ws.length := by rw [PyProof.Rows.pairsOf_size, List.length_map, w1.length_eq]
      have k2 := p2 i j (Nat.le_of_lt hij) (by rw [sz]; exact hj)
      have at_ : ∀ (k : Nat) (hk : k < ws.length), PyProof.Rows.KK (PyProof.Rows.G.tupKindC (h1.push (seqObj "list" (os.map fun z => Value.ref z.1).toArray 0)) Srt.sh0) (PyProof.Rows.arrOf st') k = ws[k].2.map Sum.inl := fun k hk => by
        unfold PyProof.Rows.KK
        rw [← Array.getElem?_toList, w2, List.getElem?_map, List.getElem?_eq_getElem hk]
        show (PyProof.Rows.G.tupKeyC _ Srt.sh0 (.ref ws[k].1)).getD [] = _
        rw [key ws[k] (w1.mem_iff.mp (List.getElem_mem hk))]
        rfl
      rw [at_ i hi, at_ j hj] at k2
      have k3 : PyProof.Rows.lexLt PyProof.Rows.itemOrd (ws[j].2.map Sum.inl) (ws[i].2.map Sum.inl) = false := k2
      rw [Srt.lex_ints] at k3
      exact k3
    · have lb := Heap.lt_size (kp b o e)
      rw [sortedHeap_old (Nat.ne_of_lt lb) (by rw [Heap.size_push]; exact Nat.lt_succ_of_lt lb)]
      exact Heap.get?_push_of_some _ (kp b o e)
end
theorem lex_total : ∀ x y : List Int, HT.lexLt x y = false → HT.lexLt y x = false → x = y
  | [], [], _, _ => rfl
  | [], _ :: _, h, _ => by cases h
  | _ :: _, [], _, h => by cases h
  | a :: x, b :: y, h, k => by
    rw [HT.lexLt_cons] at h k
    by_cases e : a = b
    · subst e
      rw [if_pos rfl] at h k
      rw [lex_total x y h k]
    · rw [if_neg e] at h
      rw [if_neg (fun z => e z.symm)] at k
      have h := of_decide_eq_false h
      have k := of_decide_eq_false k
      omega
section
variable {X : Cx}
/-- sorted(set(xs)), a list of tuples of ints: each one once, in their order -/
def rSortSet (K : PySem.W.Frag) : V → Hp → VK → Prop := fun x H Q => ∃ (a : Addr) (zs : List Ts.Z), x = .ref a ∧ SqL K H a (zs.map fun z => V.ref z.1) ∧ (∀ z ∈ zs, SqT K H z.1 (z.2.map V.int) ∧ z.2 ≠ []) ∧ zs.length ≤ 4096 ∧
  ∀ (ws : List Ts.Z) (p : Addr), (∀ z ∈ ws, z ∈ zs) → (∀ z ∈ zs, z.2 ∈ ws.map (·.2)) → ws.Pairwise (fun x y => HT.lexLt x.2 y.2 = true) → H p = none → Q (.ref p) (upd H p (.lst (ws.map fun z => V.ref z.1)))
theorem two_sortSet (hc : X.calm = true) (hu : X.A.units + 64 < cLine) : TwoR X (.builtin "sorted") (.type "set") (rSortSet X.K) := by
  intro pins s σ H x v Q I rx h
  obtain ⟨a, zs, rfl, hs, ht, hl, q⟩ := h
  cases rx
  obtain ⟨its, rv, pl, hz⟩ := I.list hs
  have e := Srt.vals_refs rv
  subst e
  have tz : Ts.Tups X.prog X.w s.heap zs := fun z hz => by
    obtain ⟨its, r1, ⟨o, ho, hc, n, hd⟩, _⟩ := I.tuple (ht z hz).1
    exact ⟨o, _, n, ho, hc, hd, items_ints (intsAre_of r1)⟩
  have hh := I.ok.hd hc
  refine Ts.set_of hh (by omega) pl.isList rfl tz hl fun h' tk zs' ep t S kp => ?_
  have sub : ∀ z ∈ zs', z ∈ zs := fun z hz => List.mem_of_mem_take (S.sub z hz)
  have lt : s.heap.objs.size < h'.objs.size := by
    obtain ⟨o, ho, _⟩ := S.set
    exact Heap.lt_size ho
  have nd : (zs'.map (·.2)).Nodup := by
    obtain ⟨o, _, _, _, T⟩ := S.set
    exact T.nd
  have ln := S.len
  have s4 : (4096 : Nat) ≤ sizeLine := by rw [sizeLine_eq]; decide
  refine sorted_set (s := { s with heap := h', toks := tk }) hh S.set (fun z hz => Ts.key_at (tz z (sub z hz)) fun o e => kp _ o e) (fun z hz => (ht z (sub z hz)).2) (by omega) fun h2 tk2 ws p c pm srt kp2 le e2 => ?_
  have lp : s.heap.objs.size ≤ p := Nat.le_trans (Nat.le_of_lt lt) le
  have hlen : (ws.map fun z => V.ref z.1).length ≤ sizeLine := by rw [List.length_map, pm.length_eq]; omega
  refine ⟨.ref p, upd H p (.lst (ws.map fun z => V.ref z.1)), I.laid (t' := tk2) (fun b o e => kp2 b o (kp b o e)) lp ⟨hlen, ws.map fun z => Value.ref z.1, c, Srt.refs_vals ws, e2⟩, rfl, q ws p (fun z hz => sub z (pm.mem_iff.mp hz)) (fun z hz => ?_) ?_ (I.hok.fresh lp)⟩
  · refine (pm.map _).mem_iff.mpr (S.all z ?_)
    rw [List.take_length]
    exact hz
  · have nd2 : (ws.map (·.2)).Nodup := (List.Perm.nodup_iff (pm.map _)).mpr nd
    unfold List.Nodup at nd2
    rw [List.pairwise_map] at nd2
    refine (List.Pairwise.and srt nd2).imp fun {x y} h => ?_
    cases e : HT.lexLt x.2 y.2 with
    | true => rfl
    | false => exact absurd (lex_total _ _ e h.1) h.2
/-! ### list(reversed(xs)) -/
def rListRev (K : PySem.W.Frag) : V → Hp → VK → Prop := fun x H Q => ∃ (a : Addr) (xs : List V), x = .ref a ∧ SqL K H a xs ∧ ∀ p, H p = none → Q (.ref p) (upd H p (.lst xs.reverse))
theorem two_listRev (hc : X.calm = true) : TwoR X (.type "list") (.type "reversed") (rListRev X.K) := by
  intro pins s σ H x v Q I rx h
  obtain ⟨a, xs, rfl, hs, q⟩ := h
  cases rx
  obtain ⟨its, rv, pl, hz⟩ := I.list hs
  refine Ts.list_reversed (I.ok.hd hc) pl.isList (by rw [List.size_toArray, ← rv.length]; exact hz) fun h' tk p c kp le e => ?_
  exact ⟨.ref p, upd H p (.lst xs.reverse), I.laid (t' := tk) kp le ⟨by rw [List.length_reverse]; exact hz, its.reverse, c, rv.reverse, e⟩, rfl, q p (I.hok.fresh le)⟩
/-! ### xs.extend(t), t a tuple -/
def rExtendT (K : PySem.W.Frag) : V → List V → Hp → VK → Prop := fun x vs H Q => ∃ l b xs zs, x = .ref l ∧ vs = [.ref b] ∧ H l = some (.lst xs) ∧ SqT K H b zs ∧ xs.length + zs.length ≤ sizeLine ∧ Q .non (upd H l (.lst (xs ++ zs)))
theorem mt_extendT : MtM X "list.extend" (rExtendT X.K) := by
  intro pins s σ H x vs v us Q I rx rv h
  obtain ⟨l, b, xs, zs, rfl, rfl, hH, hB, hz, q⟩ := h
  cases rx
  obtain ⟨u, rfl, ru⟩ := rv.one
  cases ru
  obtain ⟨z, its, n, r, hl, e⟩ := I.lstM hH
  obtain ⟨its2, r2, ⟨o2, e2, c2, n2, d2⟩, z2⟩ := I.tuple hB
  have hl2 := r2.length
  refine wpAny_call_entry F.slot_list_extend ⟨_, e, rfl⟩ F.entry_list_extend ?_ (F.args_list_extend_2 _ _)
  show wpAny _ _ (Builtin.List.listExtendWith (.ref l) (.ref b) .none) _ _ s
  unfold Builtin.List.listExtendWith
  refine wpAny_bind (wpAny_typeOf (T := "tuple") ⟨o2, e2, c2⟩ ?_)
  rw [if_pos (by rw [show (Value.type "tuple" == Value.type "tuple") = true from rfl]; simp)]
  refine wpAny_bind (listItems_at e2 d2 ?_)
  refine wpAny_bind (listItems_at e rfl ?_)
  have hsz : its.toArray.size + its2.toArray.size ≤ sizeLine := by rw [List.size_toArray, List.size_toArray]; omega
  rw [if_neg (by rw [notLongL hsz, Bool.and_false]; exact Bool.false_ne_true)]
  refine wpAny_bind (listUpdate_at e rfl ?_ (by rw [List.size_toArray]; omega) (by rw [Array.size_append]; omega))
  refine wpAny_pure ⟨_, rfl, ?_⟩
  refine ⟨.non, _, I.lset (its' := its ++ its2) hH e (by simp) (r.append r2) ?_, rfl, q⟩
  rw [List.length_append]
  omega
end
end Two

namespace Lm
open PySem PySem.Spec PyProof.Rows L2
theorem same_new {H : Hp} {p : Addr} {o : HO} (hp : H p = none) : Same H (upd H p o) := fun b u e => by
  rw [upd_ne (ne_of_none e hp)]
  exact e
theorem same_tp {K : PySem.W.Frag} {H H' : Hp} {a : Addr} {xs : List V} (e : Same H H') (h : SqT K H a xs) : SqT K H' a xs := by
  rcases h with (h | ⟨o, h⟩) | h
  · exact .inl (.inl (e _ _ h))
  · exact .inl (.inr ⟨o, e _ _ h⟩)
  · exact .inr h
/-! ### functions made on the way: what stands where -/
/-- just this object -/
def ExO (a : Addr) (o : Obj) : HO := .ext fun h => h.get? a = some o
/-- a code record of this name -/
def CodeO (c : Addr) (qual : Str) : HO := .ext fun h => h.CodeRec (.ref c) qual
def noTbl : HO → Bool
  | .tbl _ => false
  | _ => true
/-- all that was tracked is as it was, but for the tables of code -/
def SameT (H H' : Hp) : Prop := ∀ b o, H b = some o → noTbl o = true → H' b = some o
theorem SameT.refl (H : Hp) : SameT H H := fun _ _ h _ => h
theorem SameT.trans {H H1 H2 : Hp} (a : SameT H H1) (b : SameT H1 H2) : SameT H H2 := fun c o h n => b c o (a c o h n) n
theorem SameT.of {H H1 : Hp} (a : Same H H1) : SameT H H1 := fun c o h _ => a c o h
theorem SameT.tup {K : PySem.W.Frag} {H H' : Hp} {a : Addr} {xs : List V} (e : SameT H H') (h : SqT K H a xs) : SqT K H' a xs := by
  rcases h with (h | ⟨o, h⟩) | h
  · exact .inl (.inl (e _ _ h rfl))
  · exact .inl (.inr ⟨o, e _ _ h rfl⟩)
  · exact .inr h
theorem SameT.seq {K : PySem.W.Frag} {H H' : Hp} {a : Addr} {xs : List V} (e : SameT H H') (h : SqL K H a xs) : SqL K H' a xs := by
  rcases h with (h | ⟨o, h⟩) | h
  · exact .inl (.inl (e _ _ h rfl))
  · exact .inl (.inr ⟨o, e _ _ h rfl⟩)
  · exact .inr h
/-- the table of a def's code with one place in it where a function is made: not made yet, or once -/
def Tab (P : Addr) (pos : Pos) (qual : Str) (H : Hp) : Prop := H P = some (.tbl #[]) ∨ ∃ c, H P = some (.tbl #[rawInt pos.line, rawInt pos.col, .ref c]) ∧ H c = some (CodeO c qual)
theorem Tab.same {P : Addr} {pos : Pos} {qual : Str} {H H' : Hp} (s : Same H H') (t : Tab P pos qual H) : Tab P pos qual H' := by
  rcases t with t | ⟨c, t1, t2⟩
  · exact .inl (s _ _ t)
  · exact .inr ⟨c, s _ _ t1, s _ _ t2⟩
theorem Tab.but {P P2 : Addr} {pos : Pos} {qual : Str} {H H' : Hp} (s : ∀ b o, H b = some o → b ≠ P2 → H' b = some o) (hP : ∃ ps, H P2 = some (.tbl ps)) (ne : P ≠ P2) (t : Tab P pos qual H) : Tab P pos qual H' := by
  obtain ⟨ps, hP⟩ := hP
  rcases t with t | ⟨c, t1, t2⟩
  · exact .inl (s _ _ t ne)
  · exact .inr ⟨c, s _ _ t1 ne, s _ _ t2 fun z => by rw [z, hP] at t2; cases t2⟩
theorem Tab.is {P : Addr} {pos : Pos} {qual : Str} {H : Hp} (t : Tab P pos qual H) : ∃ ps, H P = some (.tbl ps) := by
  rcases t with t | ⟨c, t1, t2⟩
  · exact ⟨_, t⟩
  · exact ⟨_, t1⟩
/-- a list is written -/
theorem Tab.upd {P p : Addr} {pos : Pos} {qual : Str} {H : Hp} {l l' : List V} (hp : H p = some (.lst l)) (t : Tab P pos qual H) : Tab P pos qual (upd H p (.lst l')) := by
  rcases t with t | ⟨c, t1, t2⟩
  · exact .inl (by rw [upd_ne (fun z => by rw [z, hp] at t; cases t)]; exact t)
  · exact .inr ⟨c, by rw [upd_ne (fun z => by rw [z, hp] at t1; cases t1)]; exact t1, by rw [upd_ne (fun z => by rw [z, hp] at t2; cases t2)]; exact t2⟩
/-- what the making of a function asks of the module -/
def BMain (mg : Str → Option Value) (base : Heap) : Prop := ∃ bm ob, mg "__builtins__" = some (.ref bm) ∧ bm ≠ builtinsNs ∧ base.get? bm = some ob ∧ ob.cls = .type "module" ∧ ob.dict = some builtinsNs ∧ ob.data = .plain
section
variable {P : Program} {w : World} {H : Hp} {h : Heap} {a : Addr}
theorem ex_ok {o : Obj} (e : h.get? a = some o) : ObjOk P w H h a (ExO a o) := ⟨e, ⟨o, e⟩, fun _ _ p k => k _ p⟩
theorem code_ok {qual : Str} (e : h.CodeRec (.ref a) qual) : ObjOk P w H h a (CodeO a qual) := by
  refine ⟨e, ?_, fun h1 h2 p k => ?_⟩
  · obtain ⟨c, o, vs, t, e1, e2, _⟩ := e
    cases e1
    exact ⟨o, e2⟩
  · obtain ⟨c, o, vs, t, e1, e2, r⟩ := p
    cases e1
    exact ⟨_, o, vs, t, rfl, k _ e2, r⟩
end
section
variable {X : Cx} {params : Arguments} {body : Expr} {scope : Scope} {pos : Pos} {c P : Addr}
/-- lambda ..: a new function; the table of the def that makes it may have grown -/
def tLam (X : Cx) (P : Addr) (params : Arguments) (body : Expr) (scope : Scope) (pos : Pos) : TE := fun _ H Q => Tab P pos (X.env.qual ++ "<lambda>") H ∧
  ∀ (H' : Hp) (f c' : Addr) (pm ctv : Value), SameT H H' → Tab P pos (X.env.qual ++ "<lambda>") H' → H f = none →
    H' f = some (ExO f (PySem.W.kla_obj "<lambda>" (X.env.qual ++ "<lambda>") params body scope (cloFrom X.env.cells scope.names []) pm c' ctv)) → H' c' = some (CodeO c' (X.env.qual ++ "<lambda>")) →
    (∀ b o, H b = some o → b ≠ P → H' b = some o) → (∀ x cc, X.env.cells.lookup x = some cc → H' cc = none) → Q (.ref f) H'
theorem pe_lam (hcode : X.env.code = .ref c) (C : PySem.W.CodeHd X.base c P) (bm : BMain X.mg X.base) (hdef : defaultsOf params X.env = ([], []))
    (hfree : ∀ y ∈ scope.names, y.2 = .free → X.env.scope.names.lookup y.1 = some .cell ∨ X.env.scope.names.lookup y.1 = some .free) : PE X (.Lambda params body scope pos) (tLam X P params body scope pos) := by
  intro pins s σ H Q I hw
  obtain ⟨tb, h⟩ := hw
  have hcl : closureFor scope X.env = pure (cloFrom X.env.cells scope.names []) := closure_ok fun y hy e => by
    rcases hfree y hy e with k | k
    · exact I.ok.has _ (.inl k)
    · exact I.ok.has _ (.inr k)
  have trk : ∀ {b : Addr} {o : Obj} {u : HO}, X.base.get? b = some o → H b = some u → False := fun {b o u} e e2 => by
    have := (I.bs b o e).2
    rw [e2] at this
    cases this
  have hg : s.heap.Ns mainGlobals X.mg := I.mod.glob.keeps I.bk
  have bmP : ∀ u, H P = some u → s.heap.BuiltinsAt X.mg P := fun u hP => by
    obtain ⟨b, ob, b1, b2, b3, b4, b5, b6⟩ := bm
    refine ⟨b, ob, b1, b2, fun q => ?_, fun q => trk b3 (by rw [q]; exact hP), I.bk _ _ b3, b4, b5, b6⟩
    obtain ⟨o, es, ep, e, hd, _⟩ := I.mod.glob
    rw [q, e] at b3
    cases b3
    rw [hd] at b6
    cases b6
  refine PySem.W.kla_eval hdef ?_
  rcases tb with t0 | ⟨c0, t1, t2⟩
  · have hP : s.heap.get? P = some (PySem.W.tabObj #[]) := I.hok P _ t0
    have hgP : mainGlobals ≠ P := fun q => by
      obtain ⟨o, es, ep, e, _⟩ := I.mod.glob
      exact trk e (by rw [q]; exact t0)
    refine PySem.W.kla_makeFunction hcl I.ok.glob hg hcode (C.keeps I.bk) hP trivial rfl hgP (bmP _ t0) fun c' ctv h' tk hx hge hlt hrec htb => ?_
    generalize hob : PySem.W.kla_obj "<lambda>" (X.env.qual ++ "<lambda>") params body scope (cloFrom X.env.cells scope.names []) ((X.mg "__name__").getD .none) c' ctv = ob
    have pl : P < s.heap.objs.size := Heap.lt_size hP
    have ne1 : c' ≠ P := Nat.ne_of_gt (Nat.lt_of_lt_of_le pl hge)
    have ne2 : h'.objs.size ≠ c' := Nat.ne_of_gt hlt
    have ne3 : h'.objs.size ≠ P := Nat.ne_of_gt (Nat.lt_trans (Nat.lt_of_lt_of_le pl hge) hlt)
    have fr1 : H c' = none := I.hok.fresh hge
    have fr2 : H h'.objs.size = none := I.hok.fresh (Nat.le_of_lt (Nat.lt_of_le_of_lt hge hlt))
    generalize hH : upd (upd (upd H P (.tbl (#[] ++ #[rawInt pos.line, rawInt pos.col, .ref c']))) c' (CodeO c' (X.env.qual ++ "<lambda>"))) h'.objs.size (ExO h'.objs.size ob) = H'
    have aP : H' P = some (.tbl #[rawInt pos.line, rawInt pos.col, .ref c']) := by rw [← hH, upd_ne ne3.symm, upd_ne ne1.symm, upd_same]; rfl
    have ac : H' c' = some (CodeO c' (X.env.qual ++ "<lambda>")) := by rw [← hH, upd_ne ne2.symm, upd_same]
    have af : H' h'.objs.size = some (ExO h'.objs.size ob) := by rw [← hH, upd_same]
    have ao : ∀ b, b ≠ P → b ≠ c' → b ≠ h'.objs.size → H' b = H b := fun b z1 z2 z3 => by rw [← hH, upd_ne z3, upd_ne z2, upd_ne z1]
    have old : ∀ b o, H b = some o → b ≠ P → H' b = some o := fun b o e z => by rw [ao b z (ne_of_none e fr1) (ne_of_none e fr2)]; exact e
    have lts : ∀ b (o : Obj), s.heap.get? b = some o → b ≠ c' ∧ b ≠ h'.objs.size := fun b o e =>
      ⟨Nat.ne_of_lt (Nat.lt_of_lt_of_le (Heap.lt_size e) hge), Nat.ne_of_lt (Nat.lt_trans (Nat.lt_of_lt_of_le (Heap.lt_size e) hge) hlt)⟩
    have nP : ∀ b, H b = none → b ≠ P := fun b e z => by rw [z, t0] at e; cases e
    have un : Un X.fs [] H H' s.heap (h'.push ob) := by
      refine ⟨fun b o e n _ _ => Heap.get?_push_of_some _ (hx b o (nP b n) e), fun b o e n _ _ => ⟨o.slots, Heap.get?_push_of_some _ (hx b o (nP b n) e)⟩, fun b o e n _ => ?_, fun b o e _ => ?_, fun b xs e => ?_, fun b o u e => ?_, fun b ps e => ?_⟩
      · rw [ao b (nP b n) (lts b o e).1 (lts b o e).2]; exact n
      · by_cases z : b = P
        · rw [z]; exact ⟨_, Heap.get?_push_of_some _ htb⟩
        · exact ⟨o, Heap.get?_push_of_some _ (hx b o z e)⟩
      · exact old b _ e fun z => by rw [z, t0] at e; cases e
      · exact old b _ e fun z => by rw [z, t0] at e; cases e
      · by_cases z : b = P
        · rw [z] at e ⊢
          rw [t0] at e
          cases e
          exact ⟨#[rawInt pos.line, rawInt pos.col, .ref c'], by rw [aP]; rfl⟩
        · exact ⟨#[], by rw [old b _ e z]; simp⟩
    have hok : HOk X.prog X.w H' (h'.push ob) := fun b u e => by
      by_cases z3 : b = h'.objs.size
      · subst z3
        rw [af] at e
        cases e
        exact ex_ok (Heap.get?_push_size _ (by rw [← hob]; rfl))
      by_cases z2 : b = c'
      · subst z2
        rw [ac] at e
        cases e
        exact code_ok (hrec.push _)
      by_cases z1 : b = P
      · subst z1
        rw [aP] at e
        cases e
        exact Heap.get?_push_of_some _ htb
      rw [ao b z1 z2 z3] at e
      refine (I.hok b u e).stay (fun b' v hb' q => Heap.get?_push_of_some _ (hx b' v (fun z => ?_) q)) (fun b' q => old b' _ q fun z => by rw [z, t0] at q; cases q) fun b' xs q => old b' _ q fun z => by rw [z, t0] at q; cases q
      rcases hb' with y | y
      · exact z1 (y.symm.trans z)
      · rw [z, t0] at y; cases y
    have I2 : Inv X pins σ H' { s with heap := h'.push ob, toks := tk } := I.un un hok
    refine ⟨.ref h'.objs.size, H', I2, rfl, h H' _ c' ((X.mg "__name__").getD .none) ctv (fun b o e n => old b o e fun z => ?_) (.inr ⟨c', aP, ac⟩) fr2 ?_ ac (fun b o e z => old b o e z) I2.freeC⟩
    · rw [z, t0] at e
      cases e
      cases n
    · rw [af, ← hob]
  · have hP : s.heap.get? P = some (PySem.W.tabObj #[rawInt pos.line, rawInt pos.col, .ref c0]) := I.hok P _ t1
    refine PySem.W.kla_makeFunctionHit (cv := .ref c0) hcl I.ok.glob hg hcode (C.keeps I.bk) hP trivial (by simp [codeAmong, rawInt]) (bmP _ t1) fun ctv h' tk hx hsz => ?_
    have fr : H h'.objs.size = none := I.hok.fresh hsz
    have I2 : Inv X pins σ (upd H h'.objs.size (ExO h'.objs.size (PySem.W.kla_obj "<lambda>" (X.env.qual ++ "<lambda>") params body scope (cloFrom X.env.cells scope.names []) ((X.mg "__name__").getD .none) c0 ctv))) { s with heap := h'.push (PySem.W.kla_obj "<lambda>" (X.env.qual ++ "<lambda>") params body scope (cloFrom X.env.cells scope.names []) ((X.mg "__name__").getD .none) c0 ctv), toks := tk } :=
      I.laid (fun b o e => Heap.get?_push_of_some _ (hx b o e)) hsz (ex_ok (Heap.get?_push_size _ rfl))
    have sm := same_new (o := ExO h'.objs.size (PySem.W.kla_obj "<lambda>" (X.env.qual ++ "<lambda>") params body scope (cloFrom X.env.cells scope.names []) ((X.mg "__name__").getD .none) c0 ctv)) fr
    refine ⟨.ref h'.objs.size, _, I2, rfl, h _ _ c0 ((X.mg "__name__").getD .none) ctv (.of sm) (.inr ⟨c0, sm _ _ t1, sm _ _ t2⟩) fr upd_same (sm _ _ t2) (fun b o e _ => sm b o e) I2.freeC⟩
end
/-! ### cells that are tracked for a while -/
def tr (C : Addr → Option Obj) (H : Hp) : Hp := fun b => match C b with
  | some o => some (ExO b o)
  | none => H b
def ut (C : Addr → Option Obj) (H : Hp) : Hp := fun b => match C b with
  | some _ => none
  | none => H b
section
variable {C : Addr → Option Obj} {H : Hp} {b : Addr} {o : Obj}
theorem tr_in (h : C b = some o) : tr C H b = some (ExO b o) := by unfold tr; rw [h]
theorem tr_out (h : C b = none) : tr C H b = H b := by unfold tr; rw [h]
theorem ut_in (h : C b = some o) : ut C H b = none := by unfold ut; rw [h]
theorem ut_out (h : C b = none) : ut C H b = H b := by unfold ut; rw [h]
theorem ut_tr (h : ∀ b o, C b = some o → H b = none) : ut C (tr C H) = H := by
  funext b
  cases e : C b with
  | none => rw [ut_out e, tr_out e]
  | some o => rw [ut_in e, h b o e]
theorem tr_ut (h : ∀ b o, C b = some o → H b = some (ExO b o)) : tr C (ut C H) = H := by
  funext b
  cases e : C b with
  | none => rw [tr_out e, ut_out e]
  | some o => rw [tr_in e, h b o e]
theorem same_tr (h : ∀ b o, C b = some o → H b = none) : Same H (tr C H) := fun b u e => by
  cases q : C b with
  | none => rw [tr_out q]; exact e
  | some o => rw [h b o q] at e; cases e
variable {P : Program} {w : World} {hp hp' : Heap} {H1 : Hp} {fs : List Addr}
theorem out_of {u : HO} (hC : ∀ b o, C b = some o → H b = some (ExO b o)) (e : H b = some u) (n : ∀ φ, u ≠ .ext φ) : C b = none := by
  cases q : C b with
  | none => rfl
  | some o =>
    rw [hC b o q] at e
    exact absurd (Option.some.inj e).symm (n _)
theorem ut_hok (hC : ∀ b o, C b = some o → H b = some (ExO b o)) (hok : HOk P w H hp) : HOk P w (ut C H) hp := fun b u e => by
  have q : C b = none := by
    cases q : C b with
    | none => rfl
    | some o => rw [ut_in q] at e; cases e
  rw [ut_out q] at e
  refine (hok b u e).stay (fun _ _ _ q => q) (fun b' q => ?_) fun b' xs q => ?_
  · rw [ut_out (out_of hC q fun _ z => nomatch z)]; exact q
  · rw [ut_out (out_of hC q fun _ z => nomatch z)]; exact q
/-- behind a lambda's body: the cells are tracked again -/
theorem tr_un (hC : ∀ b o, C b = some o → H b = some (ExO b o)) (U : Un fs [] (ut C H) H1 hp hp') : Un fs [] H (tr C H1) hp hp' := by
  have no : ∀ b, H b = none → C b = none := fun b e => by
    cases q : C b with
    | none => rfl
    | some o => rw [hC b o q] at e; cases e
  refine ⟨fun b o e n => U.keep b o e (by rw [ut_out (no b n)]; exact n), fun b o e n => U.slot b o e (by rw [ut_out (no b n)]; exact n), fun b o e n hx => ?_, U.there, fun b xs e => ?_, fun b o u e => ?_, fun b ps e => ?_⟩
  · rw [tr_out (no b n)]; exact U.free b o e (by rw [ut_out (no b n)]; exact n) hx
  · have q := out_of hC e fun _ z => nomatch z
    rw [tr_out q]; exact U.tups b xs (by rw [ut_out q]; exact e)
  · have q := out_of hC e fun _ z => nomatch z
    rw [tr_out q]; exact U.frzs b o u (by rw [ut_out q]; exact e)
  · have q := out_of hC e fun _ z => nomatch z
    rw [tr_out q]; exact U.tbls b ps (by rw [ut_out q]; exact e)
theorem tr_hok (hC : ∀ b o, C b = some o → hp.get? b = some o ∧ b ∉ fs) (U : Un fs [] (ut C H) H1 hp hp') (hok : HOk P w H1 hp') : HOk P w (tr C H1) hp' := fun b u e => by
  have fr : ∀ b o, C b = some o → H1 b = none := fun b o q => U.free b o (hC b o q).1 (ut_in q) (by simp)
  cases q : C b with
  | some o =>
    rw [tr_in q] at e
    cases e
    exact ex_ok (U.keep b o (hC b o q).1 (ut_in q) (hC b o q).2 (by simp))
  | none =>
    rw [tr_out q] at e
    refine (hok b u e).stay (fun _ _ _ q => q) (fun b' q => ?_) fun b' xs q => ?_
    · exact same_tr fr _ _ q
    · exact same_tr fr _ _ q
/-- behind the call that was made with the cells tracked -/
theorem ut_un {H2 : Hp} (hC : ∀ b o, C b = some o → H b = none ∧ hp.get? b = some o ∧ b ∉ fs) (hC2 : ∀ b o, C b = some o → H2 b = some (ExO b o)) (U : Un fs [] (tr C H) H2 hp hp') (hok : HOk P w H2 hp') : Un fs [] H (ut C H2) hp hp' := by
  have no : ∀ {b u}, H b = some u → C b = none := fun {b u} e => by
    cases q : C b with
    | none => rfl
    | some o => rw [(hC b o q).1] at e; cases e
  refine ⟨fun b o e n hb hx => ?_, fun b o e n hb hx => ?_, fun b o e n hx => ?_, U.there, fun b xs e => ?_, fun b o u e => ?_, fun b ps e => ?_⟩
  · cases q : C b with
    | none => exact U.keep b o e (by rw [tr_out q]; exact n) hb hx
    | some o' =>
      have e2 := (hC b o' q).2.1
      rw [e] at e2
      cases e2
      exact (hok b _ (hC2 b o q)).1
  · cases q : C b with
    | none => exact U.slot b o e (by rw [tr_out q]; exact n) hb hx
    | some o' => exact absurd hb (hC b o' q).2.2
  · cases q : C b with
    | none => rw [ut_out q]; exact U.free b o e (by rw [tr_out q]; exact n) hx
    | some o' => exact ut_in q
  · rw [ut_out (no e)]; exact U.tups b xs (by rw [tr_out (no e)]; exact e)
  · rw [ut_out (no e)]; exact U.frzs b o u (by rw [tr_out (no e)]; exact e)
  · rw [ut_out (no e)]; exact U.tbls b ps (by rw [tr_out (no e)]; exact e)
end
/-! ### a lambda of one parameter is called -/
/-- the context of its body -/
def cxLam (P : Program) (w : World) (K : PySem.W.Frag) (mg : Str → Option Value) (base : Heap) (N : List Str) (qual : Str) (scope : Scope) (f : Addr) (cdv : Value) (cl : List (Str × Addr)) (A : Around) (outer : List Env) (s : Shared) (H : Hp) : Cx where
  prog := P
  w := w
  K := K
  mg := mg
  base := base
  A := A.deeper (PySem.W.envX qual scope s.heap.objs.size f cdv cl)
  N := N
  s_0 := s
  H_0 := H
  env := PySem.W.envX qual scope s.heap.objs.size f cdv cl
  outer := outer
  stack := PySem.W.envX qual scope s.heap.objs.size f cdv cl :: outer
  ex := []
  calm := true
  fn := fun _ => false
  pn := []
  xe := fun _ _ => False
/-- a thing that may be called with x: what the call comes to -/
structure Cal (P : Program) (w : World) (K : PySem.W.Frag) (mg : Str → Option Value) (base : Heap) (k : Nat) (H : Hp) (f : Addr) (x : V) (R : VK) : Prop where
  fn : ∃ o : Obj, H f = some (ExO f o) ∧ ∃ oc od fd sl, o = ⟨oc, od, .func fd, sl⟩
  run : ∀ (A : Around) (outer : List Env) (s : Shared) (u : Value), Room k A → Env0 P w K mg base A outer s H → RelV x u → codeAny (model P w) A (.call (.ref f) ⟨[u], []⟩) (CR CX0 outer P w H s R E0) s
theorem Cal.at {P : Program} {w : World} {K : PySem.W.Frag} {mg : Str → Option Value} {base : Heap} {k : Nat} {H : Hp} {f : Addr} {x : V} {R : VK} {h : Heap} (c : Cal P w K mg base k H f x R) (hok : HOk P w H h) : PySem.W.FnAt f h := by
  obtain ⟨o, e, oc, od, fd, sl, rfl⟩ := c.fn
  exact ⟨oc, od, fd, sl, (hok f _ e).1⟩
theorem Cal.mono {P : Program} {w : World} {K : PySem.W.Frag} {mg : Str → Option Value} {base : Heap} {j k : Nat} {H : Hp} {f : Addr} {x : V} {R : VK} (c : Cal P w K mg base j H f x R) (h : j ≤ k) : Cal P w K mg base k H f x R :=
  ⟨c.fn, fun A outer s u hr => c.run A outer s u (hr.mono h)⟩
structure LamOk (x0 : Str) (rn : List Str) (rest : List (Option V)) (scope : Scope) (cl : List (Str × Addr)) (C : Addr → Option Obj) : Prop where
  kind : scope.kind = .function
  co : scope.isCoroutine = false
  gen : scope.isGenerator = false
  nocell : ∀ y ∈ scope.names, y.2 ≠ .cell
  par : scope.names.lookup x0 = some .local
  inj : ∀ x y c, cl.lookup x = some c → cl.lookup y = some c → x = y
  has : ∀ x, scope.names.lookup x = some .free → ∃ c, cl.lookup x = some c
  cell : ∀ x c, cl.lookup x = some c → ∃ o v, C c = some o ∧ o.data = .cell v
  capt : ∀ (i : Nat) (x : Str) (v : V), rn[i]? = some x → rest[i]? = some (some v) → scope.names.lookup x = some .free ∧ ∃ c o u, cl.lookup x = some c ∧ C c = some o ∧ o.data = .cell (some u) ∧ RelV v u
  len : rest.length = rn.length
theorem lamOk1 {x0 y : Str} {v : V} {scope : Scope} {C : Addr → Option Obj} {cc : Addr} {o : Obj} {u : Value} (kind : scope.kind = .function) (co : scope.isCoroutine = false) (gen : scope.isGenerator = false) (nocell : ∀ y ∈ scope.names, y.2 ≠ .cell) (par : scope.names.lookup x0 = some .local)
    (fy : scope.names.lookup y = some .free) (only : ∀ p ∈ scope.names, p.2 = .free → p.1 = y) (Cc : C cc = some o) (hd : o.data = .cell (some u)) (rv : RelV v u) : LamOk x0 [y] [some v] scope [(y, cc)] C := by
  have look : ∀ {x : Str} {c : Addr}, ([(y, cc)] : List (Str × Addr)).lookup x = some c → x = y ∧ c = cc := fun {x c} e => by
    have := PySem.mem_of_lookup e
    rw [List.mem_singleton] at this
    exact ⟨congrArg Prod.fst this, congrArg Prod.snd this⟩
  have here : ([(y, cc)] : List (Str × Addr)).lookup y = some cc := by simp [List.lookup]
  refine ⟨kind, co, gen, nocell, par, fun a b c h1 h2 => ?_, fun a h => ?_, fun a c h => ?_, fun i a b h1 h2 => ?_, rfl⟩
  · rw [(look h1).1, (look h2).1]
  · have e : a = y := only _ (PySem.mem_of_lookup h) rfl
    rw [e]
    exact ⟨cc, here⟩
  · rw [(look h).2]
    exact ⟨o, _, Cc, hd⟩
  · cases i with
    | zero =>
      have e1 : y = a := Option.some.inj h1
      have e2 : v = b := Option.some.inj (Option.some.inj h2)
      subst e1
      subst e2
      exact ⟨fy, cc, o, u, here, Cc, hd, rv⟩
    | succ i => cases h1
theorem lamOk0 {x0 : Str} {scope : Scope} (kind : scope.kind = .function) (co : scope.isCoroutine = false) (gen : scope.isGenerator = false) (nocell : ∀ y ∈ scope.names, y.2 ≠ .cell) (par : scope.names.lookup x0 = some .local) (only : ∀ p ∈ scope.names, p.2 ≠ .free) : LamOk x0 [] [] scope [] (fun _ => none) :=
  ⟨kind, co, gen, nocell, par, (fun a b c h1 _ => by cases h1), (fun a h => absurd rfl (only _ (PySem.mem_of_lookup h))), (fun a c h => by cases h), (fun i a b h1 _ => by simp at h1), rfl⟩
section
variable {P : Program} {w : World} {K : PySem.W.Frag} {mg : Str → Option Value} {base : Heap} {k : Nat} {H : Hp} {f c' : Addr} {x : V} {R : VK} {qual x0 : Str} {rn : List Str} {rest : List (Option V)} {params : Arguments} {body : Expr} {scope : Scope} {cl : List (Str × Addr)} {pm ctv : Value} {C : Addr → Option Obj}
theorem cal_lam (hf : H f = some (ExO f (PySem.W.kla_obj "<lambda>" qual params body scope cl pm c' ctv))) (hc : H c' = some (CodeO c' qual)) (hC : ∀ c o, C c = some o → H c = some (ExO c o)) (S : LamOk x0 rn rest scope cl C)
    (hb : ∀ u : Value, bindArgs (PySem.W.kla_fn "<lambda>" qual params body scope cl pm (.ref c') ctv) ⟨[u], []⟩ = pure [(x0, u)])
    (hbody : ∀ (A : Around) (outer : List Env) (s : Shared), Room k (A.deeper (PySem.W.envX qual scope s.heap.objs.size f (.ref c') cl)) →
      ∃ t, PE (cxLam P w K mg base (x0 :: rn) qual scope f (.ref c') cl A outer s (ut C H)) body t ∧ t (some x :: rest) (ut C H) (fun v H1 => (∀ b o, C b = some o → H1 b = none) → R v (tr C H1))) : Cal P w K mg base (k + 1) H f x R := by
  refine ⟨⟨_, hf, _, _, _, _, rfl⟩, fun A outer s u hr e0 rv => ?_⟩
  have of : s.heap.get? f = some (PySem.W.kla_obj "<lambda>" qual params body scope cl pm c' ctv) := (e0.hok f _ hf).1
  have oc : s.heap.CodeRec (.ref c') qual := (e0.hok c' _ hc).1
  have lim : s.heap.NoLimit := e0.mod.nolimit.keeps fun b o e => (e0.bs b o e).1
  have no : ∀ b, H b = none → C b = none := fun b e => by
    cases q : C b with
    | none => rfl
    | some o => rw [hC b o q] at e; cases e
  have cfs : ∀ b o, C b = some o → s.heap.get? b = some o ∧ b ∉ frs outer := fun b o q => ⟨(e0.hok b _ (hC b o q)).1, fun z => by
    have := e0.frf b z
    rw [hC b o q] at this
    cases this⟩
  refine PySem.W.kla_callFunE hr.depth of rfl S.co S.gen rfl oc ?_
  rw [hb]
  refine wpAny_pure (wpAny_newFunctionEnv S.nocell (fun y hy => ?_) (fun h₁ hns hsb => ⟨lim.fresh _ hsb, ?_⟩) S.kind)
  · rw [List.mem_singleton] at hy
    rw [hy]
    exact S.par
  show codeAny _ _ (.expr body (PySem.W.envX qual scope s.heap.objs.size f (.ref c') cl)) _ _
  have hk₁ : ∀ b o, s.heap.get? b = some o → h₁.get? b = some o := fun b o e => hsb.extBut b o (Nat.ne_of_lt (Heap.lt_size e)) (Heap.get?_push_of_some _ e)
  obtain ⟨t, ht, hq⟩ := hbody A outer s (hr.deeper _)
  have noA : ∀ b : Addr, b ∉ (cxLam P w K mg base (x0 :: rn) qual scope f (.ref c') cl A outer s (ut C H)).ex := fun b z => absurd (show b ∈ ([] : List Addr) from z) (by simp)
  have fr : ut C H s.heap.objs.size = none := by rw [ut_out (no _ (e0.hok.fresh (Nat.le_refl _)))]; exact e0.hok.fresh (Nat.le_refl _)
  have I : Inv (cxLam P w K mg base (x0 :: rn) qual scope f (.ref c') cl A outer s (ut C H)) [] (some x :: rest) (ut C H) { s with heap := h₁, toks := s.toks + 1 } := by
    refine ⟨⟨e0.mod, S.kind, rfl, rfl, Nat.le_refl _, S.inj, fun y hy => ?_, (fun y c z _ => nomatch z), fun _ => hr.hd, Around.frames_deeper e0.frames, .inr ⟨rfl, rfl⟩, fun b z => absurd z (noA b), fun b o e => ⟨(e0.bs b o e).1, ?_⟩, e0.bsz, fun b _ _ => noA b, fun b z => absurd z (noA b), e0.funs, fun b hb => ?_⟩,
      rfl, e0.bare, Un.kept hk₁, ⟨_, hns, fun i y v h1 h2 h3 => ?_⟩, fun y cc h => ?_, fr, fun y cc h => ?_, fun p hp => absurd (show p ∈ ([] : List (Addr × Obj)) from hp) (by simp), (ut_hok hC e0.hok).kept hk₁, ?_⟩
    · have hy : scope.names.lookup y = some .cell ∨ scope.names.lookup y = some .free := hy
      rcases hy with hy | hy
      · exact absurd rfl (S.nocell _ (PySem.mem_of_lookup hy))
      · exact S.has y hy
    · have n := (e0.bs b o e).2
      show ut C H b = none
      rw [ut_out (no b n)]
      exact n
    · have n := e0.frf b hb
      show ut C H b = none
      rw [ut_out (no b n)]
      exact n
    · cases i with
      | zero =>
        have e1 : x0 = y := Option.some.inj h1
        have e2 : x = v := Option.some.inj (Option.some.inj h2)
        subst e1
        subst e2
        refine ⟨u, rv, .inl ⟨S.par, ?_⟩⟩
        show ([(x0, u)] : List (Str × Value)).reverse.lookup x0 = some u
        simp [List.lookup]
      | succ i =>
        obtain ⟨k1, cc, o, u', e1, e2, e3, e4⟩ := S.capt i y v h1 h2
        exact ⟨u', e4, .inr ⟨.inr k1, cc, e1, o, hk₁ _ _ (cfs cc o e2).1, e3⟩⟩
    · obtain ⟨o, v, e1, e2⟩ := S.cell y cc h
      exact ⟨v, o, hk₁ _ _ (cfs cc o e1).1, e2⟩
    · obtain ⟨o, v, e1, e2⟩ := S.cell y cc h
      exact ut_in e1
    · show (some x :: rest).length = (x0 :: rn).length
      rw [List.length_cons, List.length_cons, S.len]
  refine PySem.W.kla_codeExpr (wpAny_mono (ht [] _ _ _ _ I hq) (fun uv s' z => ?_) (fun _ _ z => z.elim))
  obtain ⟨v, H1, J, r, q⟩ := z
  exact ⟨v, tr C H1, J.os, J.bare, tr_un hC J.base, tr_hok cfs J.base J.hok, r, q fun b o e => J.base.free b o (cfs b o e).1 (ut_in e) (by intro z; exact noA b z)⟩
end
section
variable {X : Cx} {k : Nat} {x : Str} {p pos : Pos} {e : Expr} {te : TE}
/-- f(e), f a name of the def's own that bears a function -/
def tCallV (X : Cx) (k : Nat) (i : Nat) (te : TE) : TE := fun σ H Q => ∃ f, σ[i]? = some (some (.ref f)) ∧ te σ H fun y H1 => ∃ R, Cal X.prog X.w X.K X.mg X.base k H1 f y R ∧ ∀ v H2, R v H2 → Q v H2
theorem pe_callV {i : Nat} (hr : Room k X.A) (ha : PE X e te) (hN : X.N[i]? = some x := by rfl) (hv : Vis X.env.scope x := by first | exact Or.inl rfl | exact Or.inr (Or.inl rfl) | exact Or.inr (Or.inr rfl)) (hd : (x == ("__debug__" : Str)) = false := by decide) (hcd : (x == ("__classdict__" : Str)) = false := by decide)
    (he : starEach [e] X.env = (false, eval e X.env) :: starEach [] X.env := by rfl) (hpl : (backTo pos (starEach [] X.env)).any (·.1) = false := by rfl) : PE X (.Call (.Name x p) [e] [] pos) (tCallV X k i te) := by
  intro pins s σ H Q I h
  obtain ⟨f, hf, h⟩ := h
  refine wpAny_Call_Name_kw (thn (pe_var (i := i) (pos := p) hN hv hd hcd pins s σ H (fun v H' => v = .ref f ∧ H' = H) I ⟨_, hf, rfl, rfl⟩) fun u s1 z => ?_)
  obtain ⟨v, H1, I1, r1, rfl, rfl⟩ := z
  have e1 : u = Value.ref f := r1
  subst e1
  have key : wpAny (model X.prog X.w) X.A (spliced (backTo pos (starEach [e] X.env))) (fun us s₁ => PySem.W.FnAt f s₁.heap ∧ wpAny (model X.prog X.w) X.A (call (.ref f) ([] ++ us)) (EP X pins σ Q) X.xe s₁) X.xe s1 := by
    refine thn ((pa_cons ha pa_nil he) pos pins s1 σ H1 (fun vs H2 => match vs with | [y] => ∃ R, Cal X.prog X.w X.K X.mg X.base k H2 f y R ∧ ∀ v H3, R v H3 → Q v H3 | _ => False) I1 h) fun us s2 z => ?_
    obtain ⟨vs, H2, I2, rv, q⟩ := z
    match vs, rv, q with
    | [y], .cons (b := u') ru .nil, ⟨R, c, hQ⟩ =>
      refine ⟨c.at I2.hok, wpAny_call (codeAny_mono (c.run X.A X.stack s2 u' hr I2.env0 ru) fun r s' hq => ?_)⟩
      cases r with
      | error e => exact False.elim hq
      | ok fl =>
        cases fl with
        | ret u => exact I2.after (let ⟨v, H', a, b, c, d, r, q⟩ := hq; ⟨v, H', a, b, c, d, r, hQ v H' q⟩)
        | next => exact False.elim hq
        | brk => exact False.elim hq
        | cont => exact False.elim hq
  show wpAny _ _ (callWith pos (.ref f) [] (backTo pos (starEach [e] X.env)) []) _ _ s1
  rw [he] at key ⊢
  exact PySem.W.callWith_of (by show ((false || (backTo pos (starEach [] X.env)).any (·.1)) || false) = false; rw [hpl]; rfl) PySem.W.keeps_F (Calls.evalArgs_plain key)
/-- g(e, ..), with the cell of a name of this def's tracked while it runs -/
def tCallC (X : Cx) (sp : Sp) (cn : Str) (i : Nat) (t : TA) : TE := fun σ H Q => t σ H fun vs H1 => ∃ v, σ[i]? = some (some v) ∧ ∀ (C : Addr → Option Obj) (c : Addr) (o : Obj) (u : Value), X.env.cells.lookup cn = some c → C c = some o → (∀ b, b ≠ c → C b = none) → o.data = .cell (some u) → RelV v u → H1 c = none →
  sp vs (tr C H1) (fun r H2 => (∀ b o, C b = some o → H2 b = some (ExO b o)) ∧ Q r (ut C H2)) E0
theorem pe_callC {f : Addr} {fd : FuncData} {ps : List Str} {sp : Sp} {es : List Expr} {t : TA} (cn : Str) (i : Nat) (F : FnOk X.prog X.w X.K X.mg X.base CX0 k f fd ps sp) (hr : Room k X.A) (hg : Gl X x) (hm : X.mg x = some (.ref f)) (hk : PySem.W.keepIn X.K (.ref f) = true) (hb : Binds X.K fd ps []) (ha : PA X (e :: es) t)
    (hfn : X.fn cn = true := by rfl) (hN : X.N[i]? = some cn := by rfl) (hcell : X.env.scope.names.lookup cn = some .cell := by rfl) (hdb : (x == ("__debug__" : Str)) = false := by decide) (he : starEach (e :: es) X.env = (false, eval e X.env) :: starEach es X.env := by rfl) (hpl : (backTo pos (starEach es X.env)).any (·.1) = false := by rfl) :
    PE X (.Call (.Name x p) (e :: es) [] pos) (tCallC X sp cn i t) := by
  intro pins s σ H Q I h
  refine wpAny_Call_Name_kw (ld_glob I hg hm ?_ hdb)
  refine PySem.W.callWith_K (h₀ := X.base) I.ok.mod.kin hk (thn (ha pos pins s σ H _ I h) fun us s1 z => ?_) he hpl
  obtain ⟨vs, H1, I1, r, v, hv, q⟩ := z
  refine ⟨I1.kIn, ?_⟩
  obtain ⟨m, hn, hl⟩ := I1.loc
  obtain ⟨u, rv, lk⟩ := hl i cn v hN hv (.inr (.inl hcell))
  rcases lk with ⟨kl, _⟩ | ⟨_, c, ec, o, ho, hd⟩
  · have kl : X.env.scope.names.lookup cn = some .local := kl
    rw [hcell] at kl
    cases kl
  have fc : H1 c = none := I1.freeC cn c ec
  have bc : X.base.get? c = none := Heap.get?_none_of_le (Nat.le_trans I1.ok.bsz (I1.ok.cab cn c hfn ec))
  have sc : c ∉ frs X.stack := fun z => by
    rcases List.mem_cons.mp (I1.stkSub c z) with z | z
    · exact I1.cne cn c ec z
    · obtain ⟨_, o', ho', _⟩ := I1.ok.funs.mem z
      exact absurd (Heap.lt_size ho') (Nat.not_lt.mpr (I1.ok.cab cn c hfn ec))
  have Cc : (fun b => if b = c then some o else none : Addr → Option Obj) c = some o := if_pos rfl
  have Co : ∀ b, b ≠ c → (fun b => if b = c then some o else none : Addr → Option Obj) b = none := fun b z => if_neg z
  generalize (fun b => if b = c then some o else none : Addr → Option Obj) = C at Cc Co
  have Ci : ∀ {b o'}, C b = some o' → b = c ∧ o' = o := fun {b o'} e => by
    by_cases z : b = c
    · subst z
      rw [Cc] at e
      exact ⟨rfl, (Option.some.inj e).symm⟩
    · rw [Co b z] at e
      cases e
  have hq := q C c o u ec Cc Co hd rv fc
  have C1 : ∀ b o', C b = some o' → H1 b = none ∧ s1.heap.get? b = some o' ∧ b ∉ frs X.stack := fun b o' e => by
    obtain ⟨rfl, rfl⟩ := Ci e
    exact ⟨fc, ho, sc⟩
  have e0 : Env0 X.prog X.w X.K X.mg X.base X.A X.stack s1 (tr C H1) := by
    have z := I1.env0
    refine ⟨z.frames, z.mod, fun b ob e => ⟨(z.bs b ob e).1, ?_⟩, z.bsz, z.funs, fun b hb => ?_, fun b ob e => ?_, z.bare⟩
    · rw [tr_out (Co b fun y => by rw [y, bc] at e; cases e)]
      exact (z.bs b ob e).2
    · rw [tr_out (Co b fun y => sc (y ▸ hb))]
      exact z.frf b hb
    · cases qq : C b with
      | some o' =>
        rw [tr_in qq] at e
        cases e
        exact ex_ok (C1 b o' qq).2.1
      | none =>
        rw [tr_out qq] at e
        have sm := same_tr fun b o' e => (C1 b o' e).1
        exact (I1.hok b ob e).stay (fun _ _ _ q => q) (fun _ q => sm _ _ q) fun _ _ q => sm _ _ q
  have hlen : us.length = ps.length := by rw [← r.length]; exact F.len _ _ _ _ hq
  have bd := hb s1 us I1.kIn (by rw [List.append_nil]; exact hlen)
  rw [List.append_nil] at bd
  refine wpAny_call (codeAny_mono (F.run X.A X.stack s1 (tr C H1) ⟨us, []⟩ us vs _ E0 hr e0 bd r hq) fun r' s' hq => ?_)
  cases r' with
  | error e => exact False.elim hq
  | ok fl =>
    cases fl with
    | ret u =>
      obtain ⟨v, H2, os, bare, un, hok, rv, c2, q⟩ := hq
      exact I1.after ⟨v, ut C H2, os, bare, ut_un C1 c2 un hok, ut_hok c2 hok, rv, q⟩
    | next => exact False.elim hq
    | brk => exact False.elim hq
    | cont => exact False.elim hq
end
section
variable {P : Program} {w : World} {K : PySem.W.Frag} {mg : Str → Option Value} {base : Heap}
/-- a def whose code is known by its address -/
theorem okC {x qual : Str} {st : Stmt} {f c : Addr} {fd : FuncData} {N ps : List Str} {k : Nat} {sp : Sp} (F : Fun K x qual st f fd) (hc : fd.code = .ref c) (S : FnScope N ps (defScope st)) (len : ∀ vs H Q E, sp vs H Q E → vs.length = ps.length)
    (hbody : ∀ (A : Around) (outer : List Env) (s : Shared) (H : Hp) (vs : List V) (Q : VK) (E : XK), Room k (A.deeper (envOfC qual (defScope st) s.heap.objs.size f (.ref c))) → sp vs H Q E →
      ∃ t, PSs (cxOf CX0 P w K mg base N qual (defScope st) f (.ref c) A outer s H E).nox (defBody st) t ∧ t { nx := fun _ H' => Q .non H', rt := Q } (start N vs) H) : FnOk P w K mg base CX0 (k + 1) f fd ps sp := by
  obtain ⟨oc, od, kV, doc, pm, an, cdv, ct, osl, rfl, lk, hcd⟩ := F.ex
  have hc : cdv = .ref c := hc
  subst hc
  refine fn_of lk hcd S len fun A outer s H vs Q E hr hsp => ?_
  obtain ⟨t, h, q⟩ := hbody A outer s H vs Q E hr hsp
  exact ⟨t, h.nox, q⟩
end
/-! ### the first of the things, by halves -/
def bs (g : Nat → Bool) (l m : Nat) : Nat := if l < m then (if g ((l + m) / 2) = true then bs g ((l + m) / 2 + 1) m else bs g l ((l + m) / 2)) else l
termination_by m - l
theorem bs_up {g : Nat → Bool} {l m : Nat} (h : l < m) (q : g ((l + m) / 2) = true) : bs g l m = bs g ((l + m) / 2 + 1) m := by rw [bs, if_pos h, if_pos q]
theorem bs_down {g : Nat → Bool} {l m : Nat} (h : l < m) (q : ¬ g ((l + m) / 2) = true) : bs g l m = bs g l ((l + m) / 2) := by rw [bs, if_pos h, if_neg q]
theorem bs_stop {g : Nat → Bool} {l m : Nat} (h : ¬ l < m) : bs g l m = l := by rw [bs, if_neg h]
end Lm

namespace Lm
open PySem PySem.Spec PyProof.Rows L2 PySem.W
/-! ### the call, where some defs make functions: the tables of their code are tracked -/
mutual
theorem dw_same {K : PySem.W.Frag} {H H' : Hp} (s : Same H H') : ∀ {v : V} {d : WData}, Dw K H v d → Dw K H' v d := fun {v d} h => by
  cases h with
  | lst a b => exact .lst (s.seq a) (dws_same s b)
  | tup a b => exact .tup (same_tp s a) (dws_same s b)
  | _ => constructor
theorem dws_same {K : PySem.W.Frag} {H H' : Hp} (s : Same H H') : ∀ {vs : List V} {ds : List WData}, DwAll K H vs ds → DwAll K H' vs ds := fun {vs ds} h => by
  cases h with
  | nil => exact .nil
  | cons a b => exact .cons (dw_same s a) (dws_same s b)
end
/-- what is tracked at the entry: what was handed in, and the tables -/
def withT (ts : List Addr) (H : Hp) : Hp := fun b => if b ∈ ts then some (.tbl #[]) else H b
theorem spec_callT {P : Program} {w : World} {K : PySem.W.Frag} {mg mb : Str → Option Value} {CX : CXT} {k : Nat} {fa : Addr} {fd : FuncData} {ps : List Str} {sp : Sp} {s₁ : Shared} {vals : List Value} {ds : List WData} {R : PySem.W.WRecords} {cl : Str → Option Addr} {d0 : WData} {tabs : List (Addr × Addr)}
    (KX : K.In s₁.heap) (hns : s₁.heap.Ns mainGlobals mg) (hb : s₁.heap.Ns builtinsNs mb) (hbb : ∀ x : Str, x ≠ "__name__" → mb x = bootBuiltins x) (hlim : s₁.heap.NoLimit) (hg : s₁.gens = #[]) (hT : TabsAt tabs s₁.heap) (hnt : noTabs K = true) (hbm : BMain mg s₁.heap)
    (hwl : WellAll w.params s₁.heap vals ds) (hpl : plWs ds = true) (hwt : ∀ d ∈ ds, d.weight ≤ 1048576) (hr : Room k callerA)
    (F : ∀ base : Heap, K.In base → base.Ns mainGlobals mg → BMain mg base → FnOk P w K mg base CX k fa fd ps sp) (hbind : ∀ (s : Shared) (us : List Value), us.length = ps.length → BindsTo s fd ⟨us, []⟩ (ps.zip us)) (hlen : ds.length = ps.length)
    (hsp : ∀ (H : Hp) (xs : List V), (∀ q ∈ tabs, H q.2 = some (.tbl #[])) → DwAll K H xs ds → sp xs H (fun v H' => Dw K H' v d0) fun _ _ _ => False)
    (hCX : ∀ H e s', CX [] H s₁ (fun _ _ _ => False) e s' → False) :
    codeAny (model P w) callerA (.call (.ref fa) ⟨vals, []⟩) (fun r s' => ∃ u as, r = .ok (.ret u) ∧ ReadsW R cl s'.heap u d0 as ∧ OldK s₁.heap s'.heap ∧ s'.os = s₁.os ∧ AllBare s'.gens) s₁ := by
  obtain ⟨A, ho, ar⟩ := area_all ds vals hwl hpl hwt
  have hO : OnlyF (argH K s₁.heap A) := argH_only ar
  have hok : HOk P w (argH K s₁.heap A) s₁.heap := argH_ok ar
  have hS := dw_all KX ar ds vals hwl hpl ho
  have hV := vals_toV ho
  have hK : ∀ b u, argH K s₁.heap A b = some u → K.lookup b = none := fun b u q => (argH_is ar q).1
  have noD : ∀ {b : Addr} {o : Obj}, s₁.heap.get? b = some o → (∀ vs n, o.data ≠ .seq vs n) → argH K s₁.heap A b = none := fun {b o} e d => by
    cases q : argH K s₁.heap A b with
    | none => rfl
    | some u =>
      obtain ⟨_, vs, _, _, ⟨e2, _⟩ | ⟨e2, _⟩⟩ := argH_is ar q
      · rw [e2] at e
        cases e
        exact absurd rfl (d _ _)
      · rw [e2] at e
        cases e
        exact absurd rfl (d _ _)
  generalize argH K s₁.heap A = H0 at hO hok hS hK noD
  have tabN : ∀ b ∈ tabs.map (·.2), s₁.heap.get? b = some (tabObj #[]) ∧ H0 b = none := fun b hb => by
    obtain ⟨q, hq, rfl⟩ := List.mem_map.mp hb
    exact ⟨(hT q hq).2, noD (hT q hq).2 fun _ _ z => nomatch z⟩
  have hin : ∀ b ∈ tabs.map (·.2), withT (tabs.map (·.2)) H0 b = some (.tbl #[]) := fun b hb => if_pos hb
  have hout : ∀ b, b ∉ tabs.map (·.2) → withT (tabs.map (·.2)) H0 b = H0 b := fun b hb => if_neg hb
  generalize withT (tabs.map (·.2)) H0 = H at hin hout
  have sm : Same H0 H := fun b o e => by
    by_cases hb : b ∈ tabs.map (·.2)
    · rw [(tabN b hb).2] at e
      cases e
    · rw [hout b hb]
      exact e
  have hok : HOk P w H s₁.heap := fun b u e => by
    by_cases hb : b ∈ tabs.map (·.2)
    · rw [hin b hb] at e
      cases e
      exact (tabN b hb).1
    · rw [hout b hb] at e
      exact (hok b u e).stay (fun _ _ _ q => q) (fun _ q => sm _ _ q) fun _ _ q => sm _ _ q
  have cases3 : ∀ b, H b = none ∨ (∃ ob u, H b = some (.frz ob u)) ∨ b ∈ tabs.map (·.2) := fun b => by
    by_cases hb : b ∈ tabs.map (·.2)
    · exact .inr (.inr hb)
    · rcases hO b with z | ⟨ob, u, z⟩
      · exact .inl (by rw [hout b hb]; exact z)
      · exact .inr (.inl ⟨ob, _, by rw [hout b hb]; exact z⟩)
  have base_of : ∀ {b : Addr} {o : Obj}, s₁.heap.get? b = some o → H b = none → (hidT s₁.heap H).get? b = some o := fun e n => hidT_get e n
  have noT : ∀ {b : Addr} {o : Obj}, s₁.heap.get? b = some o → o ≠ tabObj #[] → b ∉ tabs.map (·.2) := fun {b o} e n hb => by
    rw [(tabN b hb).1] at e
    exact n (Option.some.inj e).symm
  have nsK : ∀ {b : Addr} {m : Str → Option Value}, s₁.heap.Ns b m → (hidT s₁.heap H).Ns b m := fun {b m} ⟨o, es, ep, e, d, r⟩ => ⟨o, es, ep, base_of e (by
    rw [hout b (noT e fun z => by rw [z] at d; cases d)]
    exact noD e fun _ _ z => by rw [d] at z; cases z), d, r⟩
  have nK : ∀ b o, K.lookup b = some o → H b = none := fun b o e => by
    have ne : o ≠ tabObj #[] := fun q => by
      have h2 := List.all_eq_true.mp hnt (b, o) (mem_of_lookupK e)
      subst q
      exact absurd (show false = true from h2) Bool.false_ne_true
    rw [hout b (noT (KX b o e) ne)]
    cases q : H0 b with
    | none => rfl
    | some u =>
      rw [hK b u q] at e
      cases e
  have hKb : K.In (hidT s₁.heap H) := fun b o e => base_of (KX b o e) (nK b o e)
  have hM : Mod K mg (hidT s₁.heap H) := ⟨hKb, nsK hns, ⟨mb, nsK hb, hbb⟩, let ⟨mc, h1, h2⟩ := hlim; ⟨mc, nsK h1, h2⟩⟩
  have hbmB : BMain mg (hidT s₁.heap H) := by
    obtain ⟨bm, ob, b1, b2, b3, b4, b5, b6⟩ := hbm
    refine ⟨bm, ob, b1, b2, base_of b3 ?_, b4, b5, b6⟩
    rw [hout bm (noT b3 fun z => by rw [z] at b6; cases b6)]
    exact noD b3 fun _ _ z => by rw [b6] at z; cases z
  have e0 : Env0 P w K mg (hidT s₁.heap H) callerA [] s₁ H := ⟨rfl, hM, fun b o e => of_hidT e, Nat.le_of_eq (hidT_size _ _), trivial, fun b hb => absurd (show b ∈ ([] : List Addr) from hb) (by simp), hok, .of_eq hg⟩
  have hl : vals.length = ps.length := by rw [wellAll_len hwl]; exact hlen
  refine codeAny_mono ((F _ hKb (nsK hns) hbmB).run callerA [] s₁ H ⟨vals, []⟩ vals (vals.map toV) _ _ hr e0 (hbind s₁ vals hl) hV (hsp H _ (fun q hq => hin _ (List.mem_map_of_mem hq)) (dws_same sm hS))) fun r s' x => ?_
  cases r with
  | error e => exact (hCX H e s' x).elim
  | ok fl =>
    cases fl with
    | next => exact False.elim x
    | brk => exact False.elim x
    | cont => exact False.elim x
    | ret u =>
      obtain ⟨v, H', os, bare, un, hok', r', q⟩ := x
      have kept : ∀ b o, b ∉ tabs.map (·.2) → s₁.heap.get? b = some o → s'.heap.get? b = some o := fun b o nb e => by
        rcases cases3 b with z | ⟨ob, u3, z⟩ | z
        · exact un.keep b o e z (by intro z; exact absurd (show b ∈ ([] : List Addr) from z) (by simp)) (by simp)
        · have z2 := un.frzs b ob _ z
          obtain ⟨e1, _⟩ := hok b _ z
          obtain ⟨e2, _⟩ := hok' b _ z2
          rw [e] at e1
          cases e1
          exact e2
        · exact absurd z nb
      have grown : ∀ b ∈ tabs.map (·.2), ∃ more, s'.heap.get? b = some (tabObj (#[] ++ more)) := fun b hb => by
        obtain ⟨more, z⟩ := un.tbls b _ (hin b hb)
        exact ⟨more, hok' b _ z⟩
      have KX' : K.In s'.heap := fun b o e => kept b o (noT (KX b o e) fun q => by
        have h2 := List.all_eq_true.mp hnt (b, o) (mem_of_lookupK e)
        subst q
        exact absurd (show false = true from h2) Bool.false_ne_true) (KX b o e)
      obtain ⟨as, hrd⟩ := Dw.reads (R := R) (cl := cl) hok' KX' d0 v u q r'
      refine ⟨u, as, rfl, hrd, ⟨fun b o e => ?_, fun b o e => ?_⟩, os, bare⟩
      · by_cases hb : b ∈ tabs.map (·.2)
        · obtain ⟨q, hq, rfl⟩ := List.mem_map.mp hb
          obtain ⟨more, hP⟩ := grown _ hb
          have e2 := (hT q hq).2
          rw [e] at e2
          have e3 := Option.some.inj e2
          subst e3
          exact .inr (.inl ⟨((hT q hq).1.tab (hT q hq).2).isCodeTable, rfl, #[], more, rfl, hP⟩)
        · exact .inl (kept b o hb e)
      · by_cases hb : b ∈ tabs.map (·.2)
        · obtain ⟨more, hP⟩ := grown _ hb
          exact ⟨_, hP⟩
        · exact ⟨o, kept b o hb e⟩
theorem walk_specT {r : OpenSpec} {k : Nat} {q : Program} {loose : List Str} {XP : (Str → Option Value) → Heap → Prop} {YP : World → Heap → Prop} {d : DefRec} {K : Params → PySem.W.Frag} {CX : CXT} {ps : List Str} {sp : PySem.W.Frag → Sp} (tabs : List (Addr × Addr)) (tn : List (Str × Addr × Addr))
    (hwell : r.wellSaid = true) (hdf : d.params.defaults = []) (hlen : r.args.length = ps.length) (hr : Room k callerA)
    (hY : ∀ (w : World) (h : Heap), YP w h → (K w.params).In h) (hnt : ∀ w : World, noTabs (K w.params) = true)
    (htn : tabs = tn.map (·.2)) (hrec : ∀ x ∈ tn, ((recsOf q).find? (fun e => e.name == x.1)).isSome = true) (hin : ∀ (w : World), ∀ x ∈ tn, tabIn (K w.params) x.1 = some x.2)
    (F : ∀ (w : World) (mg : Str → Option Value) (fa : Addr) (h : Heap), YP w h → (K w.params).In h → h.Ns mainGlobals mg → mg d.name = some (.ref fa) →
      ∃ fd : FuncData, (∀ (s : Shared) (us : List Value), us.length = ps.length → BindsTo s fd ⟨us, []⟩ (ps.zip us)) ∧
        ∀ base : Heap, (K w.params).In base → base.Ns mainGlobals mg → BMain mg base → FnOk r.prog w (K w.params) mg base CX k fa fd ps (sp (K w.params)))
    (hsp : ∀ (K : PySem.W.Frag) (H : Hp) (xs : List V) (a : Codec.denoteAll r.args), (∀ q ∈ tabs, H q.2 = some (.tbl #[])) → Codec.withinAll r.args a = true → Codec.app r.args r.asked a = true → DwAll K H xs (Codec.encAll r.args a) →
      sp K xs H (fun v H' => Dw K H' v (r.ret.enc (Codec.app r.args r.f a))) fun _ _ _ => False)
    (hCX : ∀ (H : Hp) (s : Shared) (e : Value) (s' : Shared), CX [] H s (fun _ _ _ => False) e s' → False) :
    PySem.W.WalkOS q loose XP YP r d [] (fun f vs => PySem.call f vs) := by
  intro w s_0 s₁ mg mb G Y fa o pm cd doc dV kV ho hd hcd hD hmg hg args vals as hpre hlay hrd hwl hlo
  obtain ⟨a, e1, e2⟩ := PySem.W.os_pre_some hpre
  obtain ⟨e3, hwi⟩ := Codec.encAll_of_decAll r.args args a e1
  subst e3
  have KX := hY w _ Y
  obtain ⟨fd, hb, hF⟩ := F w mg fa _ Y KX G.T.g hmg
  have hT : TabsAt tabs s₁.heap := fun p hp => by
    rw [htn] at hp
    obtain ⟨x, hx, rfl⟩ := List.mem_map.mp hp
    obtain ⟨dr, hdr⟩ := Option.isSome_iff_exists.mp (hrec x hx)
    exact tab_of G.T KX hdr (hin w x hx)
  refine PySem.W.enter_call (codeAny_mono (spec_callT (R := []) (cl := classAt s_0.heap) (d0 := r.ret.enc (Codec.app r.args r.f a)) KX G.T.g G.T.b G.T.builtins G.T.nolimit hg hT (hnt w) G.T.bmain hwl (pl_encAll _ _) (layable_weight hlay) hr hF hb (by rw [encAll_len]; exact hlen)
    (fun H xs hO hS => hsp (K w.params) H xs a hO hwi e2 hS) fun H e s' => hCX H s₁ e s') fun r' s' hq => ?_)
  obtain ⟨u, as', rfl, h1, h2, h3, h4⟩ := hq
  exact ⟨.inl ⟨u, _, as', rfl, fun _ => rfl, h1, (OpenSpec.post_iff hwell hwi _ _).mpr rfl, fun z => Bool.noConfusion (show false = true from z)⟩, h2, h3, h4⟩
end Lm

namespace Sk
open PySem PyProof.Rows L2 Lm
/-! ### sorted(xs, key = f): the steps of the sort, whatever the keys -/
section
variable {prog : Program} {w : World} {A : Around} {E : Value → Shared → Prop} {s : Shared} {D kS : Addr} {e e1 : Nat} {keys : Array Value} {vs : List Value} {P : PySem.Fin → Shared → Prop}
abbrev after (h : Heap) (kS D : Addr) (out : Array Value) : Heap := (h.update kS (Obj.mapSeq fun _ => (#[] : Array Value))).update D (Obj.mapSeq fun _ => out)
theorem tail_ {st : SortSt} (hk : s.heap.get? kS = some (seqObj "list" keys e)) (hD : s.heap.get? D = some (seqObj "list" #[] e1)) (ne : kS ≠ D) (hz : keys.size ≤ sizeLine) (hz2 : (arrOf st).size ≤ sizeLine) (hf : failedOf st = none)
    (h : P (.done (.ret .none)) { s with heap := after s.heap kS D ((arrOf st).map (·.2)) }) : wpAny (model prog w) A (ksk_tail D false e1 (.ref kS) st) P E s := by
  have s1 := Heap.SameBut.update s.heap kS (Obj.mapSeq fun _ => (#[] : Array Value))
  have na1 : (s.heap.update kS (Obj.mapSeq fun _ => (#[] : Array Value))).get? D = some (seqObj "list" #[] e1) := (s1.2 D ne.symm).trans hD
  unfold ksk_tail
  try dsimp only
  simp only [Bool.false_eq_true, if_false]
  refine wpAny_bind (listUpdate_at hk rfl ?_ hz (Nat.zero_le _))
  refine wpAny_bind (wpAny_letGo ?_)
  refine wpAny_bind (seqEpoch_at na1 rfl ?_)
  refine wpAny_bind (listUpdate_at na1 rfl ?_ (Nat.zero_le _) (by rw [Array.size_map]; exact Nat.le_succ_of_le hz2))
  rw [hf]
  simp only [bne_self_eq_false, Bool.false_eq_true, if_false]
  exact wpAny_pure h
theorem end_ (Good : Array Keyed → Prop) (hk : s.heap.get? kS = some (seqObj "list" keys e)) (hD : s.heap.get? D = some (seqObj "list" #[] e1)) (ne : kS ≠ D) (hl : keys.size = vs.length) (hz : vs.length ≤ sizeLine) (hsm : vs.length < 2 → Good (keys.zip vs.toArray)) (hgs : ∀ arr, Good arr → arr.size = vs.length)
    (hkk : 2 ≤ vs.length → ∃ kd, (∀ R : SortKind → Shared → Prop, R kd s → wpAny (model prog w) A (keyKind' keys) R E s) ∧ wpAny (model prog w) A (sortRuns'.run (SortSt.mk' kd (keys.zip vs.toArray) #[] 7 none)) (fun r s' => s' = s ∧ failedOf r.2 = none ∧ Good (arrOf r.2)) E s)
    (h : ∀ arr, Good arr → P (.done (.ret .none)) { s with heap := after s.heap kS D (arr.map (·.2)) }) : wpAny (model prog w) A (ksk_end D false vs.toArray e1 (.ref kS) keys) P E s := by
  unfold ksk_end
  try dsimp only
  simp only [Bool.false_eq_true, if_false]
  by_cases h2 : vs.toArray.size < 2
  · rw [if_pos h2, if_pos h2]
    refine wpAny_bind (wpAny_pure ?_)
    rw [StateT.run_pure]
    refine wpAny_bind (wpAny_pure ?_)
    try dsimp only
    have g := hsm (by rw [List.size_toArray] at h2; exact h2)
    exact tail_ (st := SortSt.mk' general' (keys.zip vs.toArray) #[] 7 none) hk hD ne (by rw [hl]; exact hz) (Nat.le_trans (Nat.le_of_eq (hgs _ g)) hz) rfl (h _ g)
  · rw [if_neg h2, if_neg h2]
    rw [List.size_toArray] at h2
    obtain ⟨kd, hk1, hk2⟩ := hkk (by omega)
    refine wpAny_bind (hk1 _ ?_)
    refine wpAny_bind (wpAny_mono hk2 ?_ fun _ _ z => z)
    rintro ⟨⟨⟩, st'⟩ s' ⟨rfl, hf, g⟩
    try dsimp only
    exact tail_ hk hD ne (by rw [hl]; exact hz) (Nat.le_trans (Nat.le_of_eq (hgs _ g)) hz) hf (h _ g)
theorem rest_ {f : Value} (J : Nat → List Value → Shared → Prop) (hz : vs.length ≤ sizeLine) (h0 : J 0 [] s) (hJ : ∀ i ks s', J i ks s' → ∃ e, s'.heap.get? kS = some (seqObj "list" ks.toArray e) ∧ ks.length = i)
    (turn : ∀ i x ks s', vs[i]? = some x → J i ks s' → wpAny (model prog w) A (call f [x]) (fun v s'' => (∃ e, s''.heap.get? kS = some (seqObj "list" ks.toArray e)) ∧ J (i + 1) (ks ++ [v]) { s'' with heap := s''.heap.update kS (Obj.mapSeq (·.push v)) }) (fun _ _ => False) s')
    (done : ∀ ks s', J vs.length ks s' → wpAny (model prog w) A (ksk_end D false vs.toArray e1 (.ref kS) ks.toArray) P E s') : wpAny (model prog w) A (ksk_rest D f false vs.toArray e1 (.ref kS)) P E s := by
  unfold ksk_rest
  refine wpAny_bind (wpAny_rule ?_)
  first
    | rw [List.forIn_toArray]
    | (rw [← Array.forIn_toList]; simp only [List.toList_toArray])
    | rw [← Array.forIn_toList]
  refine wpAny_bind (ksk_fold (fun i s' => ∃ ks, J i ks s') vs 0 s ⟨[], h0⟩ ?step ?done)
  case step =>
    rintro j x s' hx ⟨ks, hj⟩
    simp only [Nat.zero_add] at hj ⊢
    have hl : j < vs.length := (List.getElem?_eq_some_iff.mp hx).1
    obtain ⟨_, _, kl⟩ := hJ _ _ _ hj
    refine wpAny_bind (wpAny_attempt (wpAny_mono (turn j x ks s' hx hj) (fun v s'' he => ?_) fun _ _ hF => hF.elim))
    obtain ⟨⟨e2, he⟩, hn⟩ := he
    try dsimp only
    refine wpAny_bind (listUpdate_at he rfl ?_ (by rw [List.size_toArray]; omega) (by rw [Array.size_push, List.size_toArray]; omega))
    exact wpAny_pure ⟨rfl, _, hn⟩
  case done =>
    rintro s' ⟨ks, hj⟩
    simp only [Nat.zero_add] at hj
    obtain ⟨e2, he, _⟩ := hJ _ _ _ hj
    try dsimp only
    refine wpAny_bind (listItems_at he rfl ?_)
    exact done ks s' hj
abbrev h1 (h : Heap) (vs : List Value) : Heap := ((h.push (seqObj "list" #[] 0)).update h.objs.size (Obj.mapSeq (· ++ vs.toArray))).push (seqObj "list" vs.toArray 0)
abbrev h2 (h : Heap) (vs : List Value) : Heap := (((h1 h vs).update (h.objs.size + 1) (Obj.mapSeq fun _ => (#[] : Array Value))).push (seqObj "tuple" vs.toArray 0)).push (seqObj "list" #[] 0)
theorem h1_size (h : Heap) (vs : List Value) : (h1 h vs).objs.size = h.objs.size + 2 := by rw [size_push', Heap.size_update, size_push']
theorem h1_at (h : Heap) (vs : List Value) : (h1 h vs).get? (h.objs.size + 1) = some (seqObj "list" vs.toArray 0) := by
  have hsz : ((h.push (seqObj "list" #[] 0)).update h.objs.size (Obj.mapSeq (· ++ vs.toArray))).objs.size = h.objs.size + 1 := by rw [Heap.size_update, size_push']
  rw [← hsz]
  exact Heap.get?_push_size _ rfl
theorem h1_keep (h : Heap) (vs : List Value) {b : Addr} {o : Obj} (q : h.get? b = some o) : (h1 h vs).get? b = some o := by
  have hlt : b < h.objs.size := Heap.lt_size q
  have hsz : ((h.push (seqObj "list" #[] 0)).update h.objs.size (Obj.mapSeq (· ++ vs.toArray))).objs.size = h.objs.size + 1 := by rw [Heap.size_update, size_push']
  rw [Heap.get?_push_ne _ _ _ (by rw [hsz]; exact Nat.ne_of_lt (Nat.lt_succ_of_lt hlt)), Heap.get?_update_ne _ _ _ _ (Nat.ne_of_lt hlt), Heap.get?_push_ne _ _ _ (Nat.ne_of_lt hlt)]
  exact q
theorem h2_keep (h : Heap) (vs : List Value) {b : Addr} {o : Obj} (q : h.get? b = some o) : (h2 h vs).get? b = some o := by
  have hlt : b < h.objs.size := Heap.lt_size q
  refine Heap.get?_push_of_some _ (Heap.get?_push_of_some _ ?_)
  rw [Heap.get?_update_ne _ _ _ _ (Nat.ne_of_lt (Nat.lt_succ_of_lt hlt))]
  exact h1_keep h vs q
theorem h2_k (h : Heap) (vs : List Value) : ((h1 h vs).update (h.objs.size + 1) (Obj.mapSeq fun _ => (#[] : Array Value))).objs.size + 1 = h.objs.size + 3 := by rw [Heap.size_update, h1_size]
/-- the whole call -/
theorem call_ {l : Addr} {q : Addr} {Q : Value → Shared → Prop} (hl : s.heap.IsList l vs.toArray) (hz : vs.length ≤ sizeLine)
    (h : ∀ e1, (h2 s.heap vs).get? (s.heap.objs.size + 1) = some (seqObj "list" #[] e1) → (h2 s.heap vs).get? (s.heap.objs.size + 3) = some (seqObj "list" #[] 0) →
      wpAny (model prog w) A.in1.in1 (ksk_rest (s.heap.objs.size + 1) (.ref q) false vs.toArray e1 (.ref (s.heap.objs.size + 3))) (fun fin s' => fin = .done (.ret .none) ∧ Q (.ref (s.heap.objs.size + 1)) s') E { s with heap := h2 s.heap vs }) :
    wpAny (model prog w) A (call (.builtin "sorted") [.ref l] [(Str.ofString "key", .ref q)]) Q E s := by
  refine call_function_entry_kw kind_sorted plain_sorted entry_sorted (ksk_s1 _ _) ?_
  unfold Builtin.«sorted»
  refine wpAny_bind (m := checkCount "sorted" 1 1 _) (wpAny_pure ?_)
  refine wpAny_bind (collect_list hl ?_ hz)
  refine wpAny_bind (wpAny_newList ?_ hz)
  have hsz : ((s.heap.push (seqObj "list" #[] 0)).update s.heap.objs.size (Obj.mapSeq (· ++ vs.toArray))).objs.size = s.heap.objs.size + 1 := by rw [Heap.size_update, size_push']
  have hoL := h1_at s.heap vs
  show wpAny _ _ _ _ _ { s with heap := h1 s.heap vs }
  rw [hsz]
  refine wpAny_bind (wpAny_holding (wpAny_call_entry_kw slot_list_sort ⟨_, hoL, rfl⟩ entry_list_sort ?body (ksk_l1 _ _)))
  case body =>
    show wpAny (model prog w) A.in1.in1 (Builtin.«list.sort» ⟨[.ref (s.heap.objs.size + 1)], [(Str.ofString "key", .ref q)]⟩) _ _ _
    rw [ksk_t1]
    obtain ⟨e1, ho1⟩ : ∃ e1, ((h1 s.heap vs).update (s.heap.objs.size + 1) (Obj.mapSeq fun _ => (#[] : Array Value))).get? (s.heap.objs.size + 1) = some (seqObj "list" #[] e1) := ⟨_, get?_update_seq hoL fun _ => #[]⟩
    have a1 : (h2 s.heap vs).get? (s.heap.objs.size + 1) = some (seqObj "list" #[] e1) := Heap.get?_push_of_some _ (Heap.get?_push_of_some _ ho1)
    have ksz : (((h1 s.heap vs).update (s.heap.objs.size + 1) (Obj.mapSeq fun _ => (#[] : Array Value))).push (seqObj "tuple" vs.toArray 0)).objs.size = s.heap.objs.size + 3 := by rw [size_push', Heap.size_update, h1_size]
    have a2 : (h2 s.heap vs).get? (s.heap.objs.size + 3) = some (seqObj "list" #[] 0) := by
      rw [← ksz]
      exact Heap.get?_push_size _ rfl
    unfold ksk_tree
    refine wpAny_bind (listItems_at hoL rfl ?_)
    refine wpAny_bind (listUpdate_at hoL rfl ?_ (by rw [List.size_toArray]; exact hz) (Nat.zero_le _))
    refine wpAny_bind (seqEpoch_at ho1 rfl ?_)
    refine wpAny_bind (wpAny_newTuple ?_ hz)
    refine wpAny_bind (wpAny_newList ?_ (Nat.zero_le _))
    refine wpAny_holding ?_
    show wpAny (model prog w) A.in1.in1 (ksk_rest (s.heap.objs.size + 1) (.ref q) false vs.toArray e1 (.ref (((h1 s.heap vs).update (s.heap.objs.size + 1) (Obj.mapSeq fun _ => (#[] : Array Value))).push (seqObj "tuple" vs.toArray 0)).objs.size)) _ _ { s with heap := h2 s.heap vs }
    rw [ksz]
    refine wpAny_mono (h e1 a1 a2) (fun fin s' z => ?_) fun _ _ z => z
    obtain ⟨rfl, z⟩ := z
    exact ⟨_, rfl, wpAny_pure ⟨_, rfl, z⟩⟩
end
end Sk

namespace Sk
open PySem PyProof.Rows L2 Lm
/-! ### what the keys allow -/
def OutI (ks xs : List V) (O : List V → Prop) : Prop := ∃ ns : List Int, ks = ns.map V.int ∧ ∀ ps : List (Int × V), ps.Perm (ns.zip xs) → ps.Pairwise (fun a b => a.1 ≤ b.1) → O (ps.map (·.2))
def OutT (K : PySem.W.Frag) (H : Hp) (ks xs : List V) (O : List V → Prop) : Prop := ∃ zs : List (Addr × List Int), ks = (zs.map fun z => V.ref z.1) ∧ (∀ z ∈ zs, SqT K H z.1 (z.2.map V.int) ∧ z.2 ≠ []) ∧
  ∀ ps : List (List Int × V), ps.Perm ((zs.map (·.2)).zip xs) → ps.Pairwise (fun a b => HT.lexLt b.1 a.1 = false) → O (ps.map (·.2))
theorem vals_of {α : Type} {f : α → V} {g : α → Value} : ∀ {l : List α}, (∀ a ∈ l, RelV (f a) (g a)) → Vals (l.map f) (l.map g)
  | [], _ => .nil
  | _ :: _, h => .cons (h _ (List.mem_cons_self ..)) (vals_of fun a ha => h a (List.mem_cons_of_mem _ ha))
theorem good_out {α : Type} {κ : KeyKind} {le : α → α → Prop} {B : List ((α × V) × (Value × Value))} (hB : ∀ b ∈ B, RelV b.1.2 b.2.2)
    (hle : ∀ a ∈ B, ∀ b ∈ B, κ.kle ((κ.keyOf a.2.1).getD κ.dflt) ((κ.keyOf b.2.1).getD κ.dflt) → le a.1.1 b.1.1) {arr : Array Keyed} (hp : arr.toList.Perm (B.map (·.2))) (hs : SortedToK κ arr arr.size) :
    ∃ ps : List (α × V), ps.Perm (B.map (·.1)) ∧ ps.Pairwise (fun a b => le a.1 b.1) ∧ Vals (ps.map (·.2)) (arr.map (·.2)).toList := by
  obtain ⟨ws, w1, w2⟩ := Srt.perm_map hp B rfl
  have lw : ws.length = arr.size := by
    have := congrArg List.length w2
    rw [List.length_map, Array.length_toList] at this
    exact this.symm
  refine ⟨ws.map (·.1), w1.map _, ?_, ?_⟩
  · rw [List.pairwise_map, List.pairwise_iff_getElem]
    intro i j hi hj hij
    have k2 := hs i j (Nat.le_of_lt hij) (by omega)
    have at_ : ∀ (n : Nat) (hn : n < ws.length), KK κ arr n = (κ.keyOf ws[n].2.1).getD κ.dflt := fun n hn => by
      unfold KK
      rw [← Array.getElem?_toList, w2, List.getElem?_map, List.getElem?_eq_getElem hn]
      rfl
    rw [at_ i hi, at_ j hj] at k2
    exact hle _ (w1.mem_iff.mp (List.getElem_mem hi)) _ (w1.mem_iff.mp (List.getElem_mem hj)) k2
  · rw [List.map_map, Array.toList_map, w2, List.map_map]
    exact vals_of fun b hb => hB b (w1.mem_iff.mp hb)
theorem maps4 {α : Type} {as : List α} {xs : List V} {keys vs : List Value} (h1 : as.length = xs.length) (h2 : keys.length = xs.length) (h3 : vs.length = xs.length) :
    ((as.zip xs).zip (keys.zip vs)).map (·.1) = as.zip xs ∧ ((as.zip xs).zip (keys.zip vs)).map (·.2) = keys.zip vs := by
  constructor
  · exact List.map_fst_zip (by rw [List.length_zip, List.length_zip]; omega)
  · exact List.map_snd_zip (by rw [List.length_zip, List.length_zip]; omega)
theorem zipI : ∀ {ns : List Int} {xs : List V} {keys vs : List Value}, Vals (ns.map V.int) keys → Vals xs vs → ∀ b ∈ (ns.zip xs).zip (keys.zip vs), (∃ t, b.2.1 = Value.int b.1.1 t) ∧ RelV b.1.2 b.2.2
  | [], _, _, _, _, _, b, hb => by simp at hb
  | _ :: _, [], _, _, _, _, b, hb => by simp at hb
  | n :: ns, x :: xs, _, _, .cons r1 t1, .cons r2 t2, b, hb => by
    simp only [List.zip_cons_cons] at hb
    rcases List.mem_cons.mp hb with rfl | hb
    · exact ⟨r1, r2⟩
    · exact zipI t1 t2 b hb
theorem zipT {h : Heap} : ∀ {zs : List (Addr × List Int)} {xs : List V} {keys vs : List Value}, Vals (zs.map fun z => V.ref z.1) keys → Vals xs vs → (∀ z ∈ zs, PyProof.Rows.G.tupKeyC h Srt.sh0 (.ref z.1) = some (z.2.map Sum.inl)) →
    ∀ b ∈ ((zs.map (·.2)).zip xs).zip (keys.zip vs), PyProof.Rows.G.tupKeyC h Srt.sh0 b.2.1 = some (b.1.1.map Sum.inl) ∧ RelV b.1.2 b.2.2
  | [], _, _, _, _, _, _, b, hb => by simp at hb
  | _ :: _, [], _, _, _, _, _, b, hb => by simp at hb
  | z :: zs, x :: xs, _, _, .cons r1 t1, .cons r2 t2, hk, b, hb => by
    simp only [List.map_cons, List.zip_cons_cons] at hb
    rcases List.mem_cons.mp hb with rfl | hb
    · have e : _ = Value.ref z.1 := r1
      refine ⟨?_, r2⟩
      show PyProof.Rows.G.tupKeyC h Srt.sh0 _ = _
      rw [e]
      exact hk z (List.mem_cons_self ..)
    · exact zipT t1 t2 (fun y hy => hk y (List.mem_cons_of_mem _ hy)) b hb
/-- the keys can be sorted, and this comes of it -/
def KeyOk (prog : Program) (w : World) (A : Around) (E : Value → Shared → Prop) (s : Shared) (keys vs : List Value) (O : List V → Prop) : Prop :=
  ∃ Good : Array Keyed → Prop, (vs.length < 2 → Good (keys.toArray.zip vs.toArray)) ∧ (∀ arr, Good arr → arr.size = vs.length ∧ ∃ ys, O ys ∧ Vals ys (arr.map (·.2)).toList) ∧
    (2 ≤ vs.length → ∃ kd, (∀ R : SortKind → Shared → Prop, R kd s → wpAny (model prog w) A (keyKind' keys.toArray) R E s) ∧ wpAny (model prog w) A (sortRuns'.run (SortSt.mk' kd (keys.toArray.zip vs.toArray) #[] 7 none)) (fun r s' => s' = s ∧ failedOf r.2 = none ∧ Good (arrOf r.2)) E s)
section
variable {prog : Program} {w : World} {A : Around} {E : Value → Shared → Prop} {s : Shared}
theorem small_sorted {κ : KeyKind} {arr : Array Keyed} (h : arr.size < 2) : SortedToK κ arr arr.size := fun i j hij hj => by
  have : i = j := by omega
  subst this
  exact KeyOrd.kle_refl _
theorem zip_size {keys vs : List Value} (h : keys.length = vs.length) : (keys.toArray.zip vs.toArray).size = vs.length := by rw [Array.size_zip, List.size_toArray, List.size_toArray, h, Nat.min_self]
theorem key_int {ns : List Int} {xs : List V} {keys vs : List Value} {O : List V → Prop} (rk : Vals (ns.map V.int) keys) (rv : Vals xs vs) (hl : ns.length = xs.length) (h : ∀ ps : List (Int × V), ps.Perm (ns.zip xs) → ps.Pairwise (fun a b => a.1 ≤ b.1) → O (ps.map (·.2))) :
    KeyOk prog w A E s keys vs O := by
  have lk : keys.length = xs.length := by have := rk.length; rw [List.length_map] at this; omega
  have lv : vs.length = xs.length := rv.length.symm
  have hi : IntsAre keys ns := intsAre_of rk
  refine ⟨fun arr => arr.Perm (keys.toArray.zip vs.toArray) ∧ SortedToK intKind arr arr.size, fun h2 => ⟨.refl _, small_sorted (by rw [zip_size (by omega)]; exact h2)⟩, fun arr g => ⟨by rw [g.1.size_eq, zip_size (by omega)], ?_⟩, fun h2 => ⟨oneType', fun R hR => ?_, ?_⟩⟩
  · obtain ⟨m1, m2⟩ := maps4 (as := ns) (xs := xs) (keys := keys) (vs := vs) hl lk lv
    have zi := zipI rk rv
    have hp : arr.toList.Perm (((ns.zip xs).zip (keys.zip vs)).map (·.2)) := by
      rw [m2]
      have := Array.perm_iff_toList_perm.mp g.1
      rw [ksk_zip] at this
      exact this
    have hle : ∀ a ∈ (ns.zip xs).zip (keys.zip vs), ∀ b ∈ (ns.zip xs).zip (keys.zip vs), intKind.kle ((intKind.keyOf a.2.1).getD intKind.dflt) ((intKind.keyOf b.2.1).getD intKind.dflt) → a.1.1 ≤ b.1.1 := fun a ha b hb hk => by
      obtain ⟨t1, e1⟩ := (zi a ha).1
      obtain ⟨t2, e2⟩ := (zi b hb).1
      rw [e1, e2] at hk
      have hk : decide (b.1.1 < a.1.1) = false := hk
      exact Int.not_lt.mp (of_decide_eq_false hk)
    obtain ⟨ps, p1, p2, p3⟩ := good_out (κ := intKind) (le := fun a b : Int => a ≤ b) (fun b hb => (zi b hb).2) hle hp g.2
    rw [m1] at p1
    exact ⟨_, h ps p1 p2, p3⟩
  · rw [ksk_kind (keys := keys.toArray) hi (by rw [List.size_toArray]; omega)]
    exact wpAny_pure hR
  · refine wpAny_mono (wpS_sortRunsSt (κ := intKind) (a₀ := keys.toArray.zip vs.toArray) (st := SortSt.mk' oneType' (keys.toArray.zip vs.toArray) #[] 7 none) (Q := fun _ st' => failedOf st' = none ∧ (arrOf st').Perm (keys.toArray.zip vs.toArray) ∧ SortedToK intKind (arrOf st') (arrOf st').size)
      intKind_oneLt (fun p hp => ?_) ⟨Array.Perm.refl _, rfl, rfl⟩ rfl (Stable.refl _) (by rw [zip_size (by omega)]; exact h2) fun st' q1 q2 q3 _ => ⟨q2, q1, by rw [q1.size_eq]; exact q3⟩) (fun r s' z => z) fun _ _ z => z
    rw [ksk_zip] at hp
    obtain ⟨x, y⟩ := p
    obtain ⟨n, t, e⟩ := hi.all _ (List.of_mem_zip hp).1
    exact ⟨n, by show intKind.keyOf x = _; rw [e]⟩
end
section
variable {X : Cx} {pins : List (Addr × Obj)} {σ : L2.St} {H : Hp} {s : Shared} {A : Around} {E : Value → Shared → Prop}
theorem key_tup (I : Inv X pins σ H s) {zs : List (Addr × List Int)} {xs : List V} {keys vs : List Value} {O : List V → Prop} (rk : Vals (zs.map fun z => V.ref z.1) keys) (rv : Vals xs vs) (hl : zs.length = xs.length) (ht : ∀ z ∈ zs, SqT X.K H z.1 (z.2.map V.int) ∧ z.2 ≠ [])
    (h : ∀ ps : List (List Int × V), ps.Perm ((zs.map (·.2)).zip xs) → ps.Pairwise (fun a b => HT.lexLt b.1 a.1 = false) → O (ps.map (·.2))) : KeyOk X.prog X.w A E s keys vs O := by
  have lk : keys.length = xs.length := by have := rk.length; rw [List.length_map] at this; omega
  have lv : vs.length = xs.length := rv.length.symm
  have ek : keys = zs.map fun z => Value.ref z.1 := Srt.vals_refs rk
  have key : ∀ z ∈ zs, PyProof.Rows.G.tupKeyC s.heap Srt.sh0 (.ref z.1) = some (z.2.map Sum.inl) := fun z m => by
    obtain ⟨its, r1, t, _⟩ := I.tuple (ht z m).1
    exact Srt.key_of t (intsAre_of r1)
  obtain ⟨fs, hf⟩ := Srt.tups_of I zs ht
  have zt := zipT rk rv key
  refine ⟨fun arr => arr.Perm (keys.toArray.zip vs.toArray) ∧ SortedToK (PyProof.Rows.G.tupKindC s.heap Srt.sh0) arr arr.size, fun h2 => ⟨.refl _, small_sorted (by rw [zip_size (by omega)]; exact h2)⟩, fun arr g => ⟨by rw [g.1.size_eq, zip_size (by omega)], ?_⟩, fun h2 => ⟨tuples' true, fun R hR => ?_, ?_⟩⟩
  · obtain ⟨m1, m2⟩ := maps4 (as := zs.map (·.2)) (xs := xs) (keys := keys) (vs := vs) (by rw [List.length_map]; exact hl) lk lv
    have hp : arr.toList.Perm ((((zs.map (·.2)).zip xs).zip (keys.zip vs)).map (·.2)) := by
      rw [m2]
      have := Array.perm_iff_toList_perm.mp g.1
      rw [ksk_zip] at this
      exact this
    have hle : ∀ a ∈ ((zs.map (·.2)).zip xs).zip (keys.zip vs), ∀ b ∈ ((zs.map (·.2)).zip xs).zip (keys.zip vs), (PyProof.Rows.G.tupKindC s.heap Srt.sh0).kle (((PyProof.Rows.G.tupKindC s.heap Srt.sh0).keyOf a.2.1).getD (PyProof.Rows.G.tupKindC s.heap Srt.sh0).dflt) (((PyProof.Rows.G.tupKindC s.heap Srt.sh0).keyOf b.2.1).getD (PyProof.Rows.G.tupKindC s.heap Srt.sh0).dflt) → HT.lexLt b.1.1 a.1.1 = false := fun a ha b hb hk => by
      have e1 := (zt a ha).1
      have e2 := (zt b hb).1
      have hk : PyProof.Rows.lexLt PyProof.Rows.itemOrd ((PyProof.Rows.G.tupKeyC s.heap Srt.sh0 b.2.1).getD []) ((PyProof.Rows.G.tupKeyC s.heap Srt.sh0 a.2.1).getD []) = false := hk
      rw [e1, e2] at hk
      have hk : PyProof.Rows.lexLt PyProof.Rows.itemOrd (b.1.1.map Sum.inl) (a.1.1.map Sum.inl) = false := hk
      rw [Srt.lex_ints] at hk
      exact hk
    obtain ⟨ps, p1, p2, p3⟩ := good_out (κ := PyProof.Rows.G.tupKindC s.heap Srt.sh0) (le := fun a b : List Int => HT.lexLt b a = false) (fun b hb => (zt b hb).2) hle hp g.2
    rw [m1] at p1
    exact ⟨_, h ps p1 p2, p3⟩
  · rw [ek]
    refine PyProof.Rows.tup_kind (by have := PyProof.Rows.G.TupsOf.length hf; rw [List.length_map] at this; omega) hf hR
  · refine wpAny_mono (PyProof.Rows.G.wpS_sortRunsSt (s := s) (κ := PyProof.Rows.G.tupKindC s.heap Srt.sh0) (kd := tuples' true) (a₀ := keys.toArray.zip vs.toArray) (st := SortSt.mk' (tuples' true) (keys.toArray.zip vs.toArray) #[] 7 none) (Q := fun _ st' => failedOf st' = none ∧ (arrOf st').Perm (keys.toArray.zip vs.toArray) ∧ SortedToK (PyProof.Rows.G.tupKindC s.heap Srt.sh0) (arrOf st') (arrOf st').size)
      (PyProof.Rows.G.tupC_ltAt (s := s) true (PyProof.Rows.G.KeepsTups.refl _)) (fun p hp => ?_) ⟨Array.Perm.refl _, rfl, rfl⟩ rfl (Stable.refl _) (by rw [zip_size (by omega)]; exact h2) fun st' q1 q2 q3 _ => ⟨q2, q1, by rw [q1.size_eq]; exact q3⟩) (fun r s' z => z) fun _ _ z => z
    rw [ksk_zip] at hp
    obtain ⟨x, y⟩ := p
    have hx := (List.of_mem_zip hp).1
    rw [ek] at hx
    obtain ⟨z, hz, e⟩ := List.mem_map.mp hx
    have e : Value.ref z.1 = x := e
    subst e
    exact ⟨_, key z hz⟩
/-! ### the call in a def's body -/
theorem env0_tr {C : Addr → Option Obj} (I : Inv X pins σ H s) (hC : ∀ b o, C b = some o → H b = none ∧ s.heap.get? b = some o ∧ b ∉ frs X.stack ∧ X.base.get? b = none) : Env0 X.prog X.w X.K X.mg X.base X.A X.stack s (tr C H) := by
  have z := I.env0
  have out : ∀ {b : Addr}, (∀ o, C b ≠ some o) → C b = none := fun {b} h => by
    cases q : C b with
    | none => rfl
    | some o => exact absurd q (h o)
  refine ⟨z.frames, z.mod, fun b ob e => ⟨(z.bs b ob e).1, ?_⟩, z.bsz, z.funs, fun b hb => ?_, fun b ob e => ?_, z.bare⟩
  · rw [tr_out (out fun o q => by rw [(hC b o q).2.2.2] at e; cases e)]
    exact (z.bs b ob e).2
  · rw [tr_out (out fun o q => (hC b o q).2.2.1 hb)]
    exact z.frf b hb
  · cases qq : C b with
    | some o' =>
      rw [tr_in qq] at e
      cases e
      exact ex_ok (hC b o' qq).2.1
    | none =>
      rw [tr_out qq] at e
      have sm := same_tr fun b o' e => (hC b o' e).1
      exact (I.hok b ob e).stay (fun _ _ _ q => q) (fun _ q => sm _ _ q) fun _ _ q => sm _ _ q
theorem ut_tup {K : PySem.W.Frag} {C : Addr → Option Obj} {a : Addr} {xs : List V} (hC : ∀ b o, C b = some o → H b = some (ExO b o)) (h : SqT K H a xs) : SqT K (ut C H) a xs := by
  rcases h with (h | ⟨o, h⟩) | h
  · exact .inl (.inl (by rw [ut_out (out_of hC h fun _ z => nomatch z)]; exact h))
  · exact .inl (.inr ⟨o, by rw [ut_out (out_of hC h fun _ z => nomatch z)]; exact h⟩)
  · exact .inr h
/-- what is known while the keys are asked -/
structure At (X : Cx) (pins : List (Addr × Obj)) (σ : L2.St) (C : Addr → Option Obj) (W : Nat → List V → Hp → Prop) (kS D : Addr) (e1 i : Nat) (ks : List Value) (s : Shared) (H : Hp) (vk : List V) : Prop where
  len : ks.length = i
  inv : Inv X pins σ (ut C H) s
  w : W i vk H
  rv : Vals vk ks
  k : ∃ e, s.heap.get? kS = some (seqObj "list" ks.toArray e)
  d : s.heap.get? D = some (seqObj "list" #[] e1)
  nk : H kS = none
  nd : H D = none
  c : ∀ b o, C b = some o → s.heap.get? b = some o
theorem core {a f : Addr} {xs : List V} {k : Nat} {C : Addr → Option Obj} {W : Nat → List V → Hp → Prop} {Q : VK} (I : Inv X pins σ H s) (hr : Room (k + 2) X.A) (hC : ∀ b o, C b = some o → H b = none ∧ s.heap.get? b = some o ∧ b ∉ frs X.stack ∧ X.base.get? b = none)
    (hS : SqL X.K H a xs) (W0 : W 0 [] (tr C H)) (hWC : ∀ i ks H', W i ks H' → ∀ b o, C b = some o → H' b = some (ExO b o))
    (turn : ∀ i ks H' x, xs[i]? = some x → W i ks H' → Cal X.prog X.w X.K X.mg X.base k H' f x (fun v H'' => W (i + 1) (ks ++ [v]) H''))
    (fin : ∀ ks H', W xs.length ks H' → OutI ks xs (fun ys => ∀ p, ut C H' p = none → Q (.ref p) (upd (ut C H') p (.lst ys))) ∨ OutT X.K H' ks xs (fun ys => ∀ p, ut C H' p = none → Q (.ref p) (upd (ut C H') p (.lst ys)))) :
    wpAny (model X.prog X.w) X.A (call (.builtin "sorted") [.ref a] [(Str.ofString "key", .ref f)]) (EP X pins σ Q) X.xe s := by
  obtain ⟨its, rv, hl, hz⟩ := I.list hS
  have lv : its.length = xs.length := rv.length.symm
  have hz' : its.length ≤ sizeLine := by rw [lv]; exact hz
  refine call_ hl.isList hz' fun e1 a1 a2 => ?_
  generalize hkS : s.heap.objs.size + 3 = kS at a2 ⊢
  generalize hDD : s.heap.objs.size + 1 = D at a1 ⊢
  have I2 : Inv X pins σ H { s with heap := h2 s.heap its } := I.kept (t' := s.toks) fun b o e => h2_keep _ _ e
  have lk : s.heap.objs.size ≤ kS := by omega
  have ld : s.heap.objs.size ≤ D := by omega
  have nkd : kS ≠ D := by omega
  have C0 : ∀ b o, C b = some o → H b = none := fun b o e => (hC b o e).1
  have Cl : ∀ b o, C b = some o → b < s.heap.objs.size := fun b o e => Heap.lt_size (hC b o e).2.1
  have Cn : ∀ b, s.heap.objs.size ≤ b → C b = none := fun b hb => by
    cases q : C b with
    | none => rfl
    | some o => exact absurd (Nat.lt_of_lt_of_le (Cl b o q) hb) (Nat.lt_irrefl _)
  have stl : ∀ b ∈ frs X.stack, b < s.heap.objs.size := fun b hb => by
    obtain ⟨_, o, ho, _⟩ := I.stack.mem hb
    exact Heap.lt_size ho
  have rec_ : ∀ b, s.heap.objs.size ≤ b → (b ∈ X.ex ∨ X.s_0.heap.objs.size ≤ b) ∧ b ≠ X.env.locals ∧ (∀ x c, X.env.cells.lookup x = some c → c ≠ b) ∧ ∀ p ∈ X.pn ++ pins, p.1 ≠ b := fun b hb => by
    refine ⟨.inr (Nat.le_trans I.sz hb), Nat.ne_of_gt (Nat.lt_of_lt_of_le I.lt hb), fun x c e => ?_, fun p hp => ?_⟩
    · obtain ⟨v, o, ho, _⟩ := I.cell x c e
      exact Nat.ne_of_lt (Nat.lt_of_lt_of_le (Heap.lt_size ho) hb)
    · exact Nat.ne_of_lt (Nat.lt_of_lt_of_le (Heap.lt_size (I.pin p hp).1) hb)
  refine rest_ (fun i ks s' => ∃ H' vk, At X pins σ C W kS D e1 i ks s' H' vk) hz' ⟨tr C H, [], rfl, by rw [ut_tr C0]; exact I2, W0, .nil, ⟨0, a2⟩, a1, by rw [tr_out (Cn kS lk)]; exact I.hok.fresh lk, by rw [tr_out (Cn D ld)]; exact I.hok.fresh ld, fun b o e => h2_keep _ _ (hC b o e).2.1⟩
    (fun i ks s' ⟨H', vk, t⟩ => let ⟨e, z⟩ := t.k; ⟨e, z, t.len⟩) ?turn ?done
  case turn =>
    rintro i x ks s' hx ⟨H', vk, t⟩
    have hi : i < xs.length := by rw [← lv]; exact (List.getElem?_eq_some_iff.mp hx).1
    have hy : xs[i]? = some xs[i] := List.getElem?_eq_getElem hi
    obtain ⟨u, hu, ru⟩ := rv.get hy
    rw [hx] at hu
    cases hu
    have hCC := hWC i vk H' t.w
    have C1 : ∀ b o, C b = some o → ut C H' b = none ∧ s'.heap.get? b = some o ∧ b ∉ frs X.stack ∧ X.base.get? b = none := fun b o e => ⟨ut_in e, t.c b o e, (hC b o e).2.2.1, (hC b o e).2.2.2⟩
    have e0 := env0_tr t.inv C1
    rw [tr_ut hCC] at e0
    refine wpAny_call (codeAny_mono ((turn i vk H' _ hy t.w).run X.A.in1.in1 X.stack s' x hr.in1.in1 e0.in1.in1 ru) fun r s'' hq => ?_)
    cases r with
    | error e => exact False.elim hq
    | ok fl =>
      cases fl with
      | next => exact False.elim hq
      | brk => exact False.elim hq
      | cont => exact False.elim hq
      | ret u =>
        obtain ⟨v, H'', os, bare, un, hok, rvv, w''⟩ := hq
        have hC2 := hWC _ _ _ w''
        obtain ⟨ek, hk⟩ := t.k
        have nfs : ∀ b, s.heap.objs.size ≤ b → b ∉ frs X.stack := fun b hb z => absurd (Nat.lt_of_lt_of_le (stl b z) hb) (Nat.lt_irrefl _)
        have kk := un.keep kS _ hk t.nk (nfs kS lk) (by simp)
        have kd := un.keep D _ t.d t.nd (nfs D ld) (by simp)
        have nk2 := un.free kS _ hk t.nk (by simp)
        have nd2 := un.free D _ t.d t.nd (by simp)
        have un2 : Un (frs X.stack) [] (tr C (ut C H')) H'' s'.heap s''.heap := by rw [tr_ut hCC]; exact un
        obtain ⟨_, _, J, _, _, eJ⟩ := t.inv.after (Q := fun v1 H1 => v1 = v ∧ H1 = ut C H'') ⟨v, ut C H'', os, bare, ut_un (fun b o e => ⟨(C1 b o e).1, (C1 b o e).2.1, (C1 b o e).2.2.1⟩) hC2 un2 hok, ut_hok hC2 hok, rvv, rfl, rfl⟩
        rw [eJ] at J
        obtain ⟨r1, r2, r3, r4⟩ := rec_ kS lk
        have J2 := J.turned (t' := s''.toks) (h' := s''.heap.update kS (Obj.mapSeq (·.push u))) (it := kS) (fun b o hb e => (Heap.get?_update_ne _ _ _ _ hb).trans e) (by rw [ut_out (Cn kS lk)]; exact nk2) r2 r1 r3 r4
        obtain ⟨c2, hc2⟩ : ∃ c2, (s''.heap.update kS (Obj.mapSeq (·.push u))).get? kS = some (seqObj "list" (ks.toArray.push u) c2) := ⟨_, get?_update_seq kk (·.push u)⟩
        refine ⟨⟨ek, kk⟩, H'', vk ++ [v], by rw [List.length_append, List.length_singleton, t.len], J2, w'', t.rv.append (.cons rvv .nil), ⟨c2, by rw [hc2, List.push_toArray]⟩, (Heap.get?_update_ne _ _ _ _ nkd.symm).trans kd, nk2, nd2, fun b o e => (Heap.get?_update_ne _ _ _ _ (Nat.ne_of_lt (Nat.lt_of_lt_of_le (Cl b o e) lk))).trans (hok b _ (hC2 b o e)).1⟩
  case done =>
    rintro ks s' ⟨H', vk, t⟩
    have hCC := hWC _ vk H' t.w
    obtain ⟨ek, hk⟩ := t.k
    have lvk : vk.length = xs.length := by rw [t.rv.length, t.len, lv]
    have ko : KeyOk X.prog X.w X.A.in1.in1 X.xe s' ks its (fun ys => ∀ p, ut C H' p = none → Q (.ref p) (upd (ut C H') p (.lst ys))) := by
      have w' := t.w
      rw [lv] at w'
      have trv := t.rv
      rcases fin vk H' w' with ⟨ns, rfl, ho⟩ | ⟨zs, rfl, ht, ho⟩
      · exact key_int trv rv (by rw [List.length_map] at lvk; exact lvk) ho
      · exact key_tup t.inv trv rv (by rw [List.length_map] at lvk; exact lvk) (fun z hz => ⟨ut_tup hCC (ht z hz).1, (ht z hz).2⟩) ho
    obtain ⟨Good, g1, g2, g3⟩ := ko
    refine end_ Good hk t.d nkd (by rw [List.size_toArray]; exact t.len) hz' g1 (fun arr g => (g2 arr g).1) g3 fun arr g => ⟨rfl, ?_⟩
    obtain ⟨gs, ys, ho, ry⟩ := g2 arr g
    have upk : ∀ b o, b ∉ [kS, D] → s'.heap.get? b = some o → (after s'.heap kS D (arr.map (·.2))).get? b = some o := fun b o hb e => by
      rw [Heap.get?_update_ne _ _ _ _ (fun z => hb (by simp [z])), Heap.get?_update_ne _ _ _ _ (fun z => hb (by simp [z]))]
      exact e
    have hD1 : (s'.heap.update kS (Obj.mapSeq fun _ => (#[] : Array Value))).get? D = some (seqObj "list" #[] e1) := (Heap.get?_update_ne _ _ _ _ nkd.symm).trans t.d
    obtain ⟨c3, hc3⟩ : ∃ c3, (after s'.heap kS D (arr.map (·.2))).get? D = some (seqObj "list" (arr.map (·.2)) c3) := ⟨_, get?_update_seq hD1 fun _ => arr.map (·.2)⟩
    have nD : ut C H' D = none := by rw [ut_out (Cn D ld)]; exact t.nd
    have nK : ut C H' kS = none := by rw [ut_out (Cn kS lk)]; exact t.nk
    have sm : Same (ut C H') (upd (ut C H') D (.lst ys)) := same_new nD
    have J : Inv X pins σ (upd (ut C H') D (.lst ys)) { s' with heap := after s'.heap kS D (arr.map (·.2)) } := by
      refine t.inv.step (g' := s'.gens) (d' := s'.drawn) (t' := s'.toks) (ch := [kS, D]) (fun b hb => ?_) (fun b o _ _ hc e _ => upk b o hc e) (fun b o _ _ hc e _ => ⟨o.slots, upk b o hc e⟩) (fun b o hc e n => ?_) (fun b o hc e => ⟨o, upk b o hc e⟩) (fun b xs e => sm _ _ e) (fun b o u e => sm _ _ e) (fun b ps e => ⟨#[], by rw [sm _ _ e]; simp⟩) (fun m hm => ?_) (fun b u e => ?_) t.inv.bare
      · rcases List.mem_cons.mp hb with rfl | hb
        · exact rec_ _ lk
        · rw [List.mem_singleton.mp hb]
          exact rec_ _ ld
      · rw [upd_ne (fun z => hc (by simp [z]))]
        exact n
      · obtain ⟨o, es, ep, ho', r⟩ := hm
        exact ⟨o, es, ep, upk _ o (fun z => by
          rcases List.mem_cons.mp z with z | z
          · exact (rec_ _ lk).2.1 z.symm
          · exact (rec_ _ ld).2.1 (List.mem_singleton.mp z).symm) ho', r⟩
      · by_cases hb : b = D
        · subst hb
          rw [upd_same] at e
          cases e
          refine ⟨by rw [ry.length, Array.length_toList, Array.size_map, gs]; exact hz', _, c3, ry, ?_⟩
          rw [hc3, Array.toArray_toList]
        · rw [upd_ne hb] at e
          refine (t.inv.hok b u e).stay (fun b' v hb' q => upk b' v (fun z => ?_) q) (fun _ q => sm _ _ q) fun _ _ q => sm _ _ q
          have tr' : ut C H' b' ≠ none := by
            rcases hb' with z | z
            · rw [z, e]; exact fun q => nomatch q
            · rw [z]; exact fun q => nomatch q
          rcases List.mem_cons.mp z with z | z
          · rw [z] at tr'; exact tr' nK
          · rw [List.mem_singleton.mp z] at tr'; exact tr' nD
    exact ⟨.ref D, _, J, rfl, ho D nD⟩
end
section
variable {X : Cx} {k : Nat} {p pos kp : Pos} {e lam : Expr} {ta tl : TE}
/-- sorted(e, key = lambda ..), the lambda with no name of this def's -/
def tSort0 (X : Cx) (k : Nat) (ta tl : TE) : TE := fun σ H Q => ta σ H fun x H1 => tl σ H1 fun y H2 => ∃ (a f : Addr) (xs : List V) (W : Nat → List V → Hp → Prop), x = .ref a ∧ y = .ref f ∧ SqL X.K H2 a xs ∧ W 0 [] H2 ∧
  (∀ i ks H' z, xs[i]? = some z → W i ks H' → Cal X.prog X.w X.K X.mg X.base k H' f z (fun v H'' => W (i + 1) (ks ++ [v]) H'')) ∧
  ∀ ks H', W xs.length ks H' → OutI ks xs (fun ys => ∀ p, H' p = none → Q (.ref p) (upd H' p (.lst ys))) ∨ OutT X.K H' ks xs (fun ys => ∀ p, H' p = none → Q (.ref p) (upd H' p (.lst ys)))
/-- .. with one name of this def's, whose cell is tracked meanwhile -/
def tSort1 (X : Cx) (k : Nat) (cn : Str) (i : Nat) (ta tl : TE) : TE := fun σ H Q => ta σ H fun x H1 => tl σ H1 fun y H2 => ∃ v, σ[i]? = some (some v) ∧ ∀ (C : Addr → Option Obj) (c : Addr) (o : Obj) (u : Value), X.env.cells.lookup cn = some c → C c = some o → (∀ b, b ≠ c → C b = none) → o.data = .cell (some u) → RelV v u → H2 c = none →
  ∃ (a f : Addr) (xs : List V) (W : Nat → List V → Hp → Prop), x = .ref a ∧ y = .ref f ∧ SqL X.K H2 a xs ∧ W 0 [] (tr C H2) ∧ (∀ i ks H', W i ks H' → H' c = some (ExO c o)) ∧
  (∀ i ks H' z, xs[i]? = some z → W i ks H' → Cal X.prog X.w X.K X.mg X.base k H' f z (fun v H'' => W (i + 1) (ks ++ [v]) H'')) ∧
  ∀ ks H', W xs.length ks H' → OutI ks xs (fun ys => ∀ p, ut C H' p = none → Q (.ref p) (upd (ut C H') p (.lst ys))) ∨ OutT X.K H' ks xs (fun ys => ∀ p, ut C H' p = none → Q (.ref p) (upd (ut C H') p (.lst ys)))
theorem ut_none (H : Hp) : ut (fun _ => none) H = H := rfl
theorem tr_none (H : Hp) : tr (fun _ => none) H = H := rfl
theorem pe_sort0 (hr : Room (k + 2) X.A) (hg : Gl X "sorted") (hm : X.mg "sorted" = none) (ha : PE X e ta) (hl : PE X lam tl)
    (he : starEach [e] X.env = (false, eval e X.env) :: starEach [] X.env := by rfl) (he2 : backTo pos (starEach [e] X.env) = (false, eval e X.env) :: backTo pos (starEach [] X.env) := by rfl)
    (hplain : (backTo pos (starEach [e] X.env)).any (·.1) = false := by rfl) : PE X (.Call (.Name "sorted" p) [e] [⟨some "key", lam, kp⟩] pos) (tSort0 X k ta tl) := by
  intro pins s σ H Q I h
  refine wpAny_Call_Name_kw (ld_blt I hg hm PyProof.Rows.boot_sorted ?_)
  refine PyProof.Rows.callWith_kw (thn ((pa_cons ha pa_nil he) pos pins s σ H (fun vs H1 => match vs with | [x] => tl σ H1 fun y H2 => ∃ (a f : Addr) (xs : List V) (W : Nat → List V → Hp → Prop), x = .ref a ∧ y = .ref f ∧ SqL X.K H2 a xs ∧ W 0 [] H2 ∧ (∀ i ks H' z, xs[i]? = some z → W i ks H' → Cal X.prog X.w X.K X.mg X.base k H' f z (fun v H'' => W (i + 1) (ks ++ [v]) H'')) ∧ ∀ ks H', W xs.length ks H' → OutI ks xs (fun ys => ∀ p, H' p = none → Q (.ref p) (upd H' p (.lst ys))) ∨ OutT X.K H' ks xs (fun ys => ∀ p, H' p = none → Q (.ref p) (upd H' p (.lst ys))) | _ => False) I h) fun us s1 z => ?_) he2 hplain
  obtain ⟨vs, H1, I1, r1, q1⟩ := z
  match vs, r1, q1 with
  | [x], .cons (b := u1) ru1 .nil, q1 =>
    refine thn ((pk_cons hl pk_nil) pos pins s1 σ H1 (fun vs H2 => match vs with | [y] => ∃ (a f : Addr) (xs : List V) (W : Nat → List V → Hp → Prop), x = .ref a ∧ y = .ref f ∧ SqL X.K H2 a xs ∧ W 0 [] H2 ∧ (∀ i ks H' z, xs[i]? = some z → W i ks H' → Cal X.prog X.w X.K X.mg X.base k H' f z (fun v H'' => W (i + 1) (ks ++ [v]) H'')) ∧ ∀ ks H', W xs.length ks H' → OutI ks xs (fun ys => ∀ p, H' p = none → Q (.ref p) (upd H' p (.lst ys))) ∨ OutT X.K H' ks xs (fun ys => ∀ p, H' p = none → Q (.ref p) (upd H' p (.lst ys))) | _ => False) I1 q1) fun ws s2 z => ?_
    obtain ⟨vs2, H2, I2, r2, q2⟩ := z
    match vs2, r2, q2 with
    | [y], .cons (b := u2) ru2 .nil, ⟨a, f, xs, W, e1, e2, hS, w0, turn, fin⟩ =>
      subst e1
      subst e2
      have g1 : u1 = Value.ref a := ru1
      have g2 : u2 = Value.ref f := ru2
      subst g1
      subst g2
      exact core (C := fun _ => none) I2 hr (fun b o z => nomatch z) hS (by rw [tr_none]; exact w0) (fun _ _ _ _ b o z => nomatch z) turn fin
theorem pe_sort1 (cn : Str) (i : Nat) (hr : Room (k + 2) X.A) (hg : Gl X "sorted") (hm : X.mg "sorted" = none) (ha : PE X e ta) (hl : PE X lam tl) (hfn : X.fn cn = true := by rfl) (hN : X.N[i]? = some cn := by rfl) (hcell : X.env.scope.names.lookup cn = some .cell := by rfl)
    (he : starEach [e] X.env = (false, eval e X.env) :: starEach [] X.env := by rfl) (he2 : backTo pos (starEach [e] X.env) = (false, eval e X.env) :: backTo pos (starEach [] X.env) := by rfl)
    (hplain : (backTo pos (starEach [e] X.env)).any (·.1) = false := by rfl) : PE X (.Call (.Name "sorted" p) [e] [⟨some "key", lam, kp⟩] pos) (tSort1 X k cn i ta tl) := by
  intro pins s σ H Q I h
  unfold tSort1 at h
  generalize hR : (fun (x y : V) (H2 : Hp) => ∃ v, σ[i]? = some (some v) ∧ ∀ (C : Addr → Option Obj) (c : Addr) (o : Obj) (u : Value), X.env.cells.lookup cn = some c → C c = some o → (∀ b, b ≠ c → C b = none) → o.data = .cell (some u) → RelV v u → H2 c = none →
    ∃ (a f : Addr) (xs : List V) (W : Nat → List V → Hp → Prop), x = .ref a ∧ y = .ref f ∧ SqL X.K H2 a xs ∧ W 0 [] (tr C H2) ∧ (∀ i ks H', W i ks H' → H' c = some (ExO c o)) ∧
    (∀ i ks H' z, xs[i]? = some z → W i ks H' → Cal X.prog X.w X.K X.mg X.base k H' f z (fun v H'' => W (i + 1) (ks ++ [v]) H'')) ∧
    ∀ ks H', W xs.length ks H' → OutI ks xs (fun ys => ∀ p, ut C H' p = none → Q (.ref p) (upd (ut C H') p (.lst ys))) ∨ OutT X.K H' ks xs (fun ys => ∀ p, ut C H' p = none → Q (.ref p) (upd (ut C H') p (.lst ys)))) = RR
  have h : ta σ H fun x H1 => tl σ H1 fun y H2 => RR x y H2 := by rw [← hR]; exact h
  refine wpAny_Call_Name_kw (ld_blt I hg hm PyProof.Rows.boot_sorted ?_)
  refine PyProof.Rows.callWith_kw (thn ((pa_cons ha pa_nil he) pos pins s σ H (fun vs H1 => match vs with | [x] => tl σ H1 fun y H2 => RR x y H2 | _ => False) I h) fun us s1 z => ?_) he2 hplain
  obtain ⟨vs, H1, I1, r1, q1⟩ := z
  match vs, r1, q1 with
  | [x], .cons (b := u1) ru1 .nil, q1 =>
    refine thn ((pk_cons hl pk_nil) pos pins s1 σ H1 (fun vs H2 => match vs with | [y] => RR x y H2 | _ => False) I1 q1) fun ws s2 z => ?_
    obtain ⟨vs2, H2, I2, r2, q2⟩ := z
    match vs2, r2, q2 with
    | [y], .cons (b := u2) ru2 .nil, q2 =>
      have q2 : RR x y H2 := q2
      rw [← hR] at q2
      obtain ⟨v, hv, q⟩ := q2
      obtain ⟨m, hn, hl'⟩ := I2.loc
      obtain ⟨u, rv, lk⟩ := hl' i cn v hN hv (.inr (.inl hcell))
      rcases lk with ⟨kl, _⟩ | ⟨_, c, ec, o, ho, hd⟩
      · have kl : X.env.scope.names.lookup cn = some .local := kl
        rw [hcell] at kl
        cases kl
      have fc : H2 c = none := I2.freeC cn c ec
      have bc : X.base.get? c = none := Heap.get?_none_of_le (Nat.le_trans I2.ok.bsz (I2.ok.cab cn c hfn ec))
      have sc : c ∉ frs X.stack := fun z => by
        rcases List.mem_cons.mp (I2.stkSub c z) with z | z
        · exact I2.cne cn c ec z
        · obtain ⟨_, o', ho', _⟩ := I2.ok.funs.mem z
          exact absurd (Heap.lt_size ho') (Nat.not_lt.mpr (I2.ok.cab cn c hfn ec))
      have Cc : (fun b => if b = c then some o else none : Addr → Option Obj) c = some o := if_pos rfl
      have Co : ∀ b, b ≠ c → (fun b => if b = c then some o else none : Addr → Option Obj) b = none := fun b z => if_neg z
      generalize (fun b => if b = c then some o else none : Addr → Option Obj) = C at Cc Co
      have Ci : ∀ {b o'}, C b = some o' → b = c ∧ o' = o := fun {b o'} e => by
        by_cases z : b = c
        · subst z
          rw [Cc] at e
          exact ⟨rfl, (Option.some.inj e).symm⟩
        · rw [Co b z] at e
          cases e
      obtain ⟨a, f, xs, W, e1, e2, hS, w0, wc, turn, fin⟩ := q C c o u ec Cc Co hd rv fc
      subst e1
      subst e2
      have g1 : u1 = Value.ref a := ru1
      have g2 : u2 = Value.ref f := ru2
      subst g1
      subst g2
      exact core (C := C) I2 hr (fun b o' e => by obtain ⟨rfl, rfl⟩ := Ci e; exact ⟨fc, ho, sc, bc⟩) hS w0 (fun i ks H' z b o' e => by obtain ⟨rfl, rfl⟩ := Ci e; exact wc i ks H' z) turn fin
end
end Sk

namespace Nr
open PySem PyProof.Rows HT
theorem RelO.of_some {o : Option L2.V} {w : Value} (h : L2.RelO o ((some w).map id)) : ∃ v, o = some v ∧ L2.RelV v w := by
  cases o with
  | none => exact False.elim h
  | some v => exact ⟨v, rfl, h⟩
theorem RelO.of_none {o : Option L2.V} (h : L2.RelO o none) : o = none := by
  cases o with
  | none => rfl
  | some v => exact False.elim h
/-! ### min(xs), a list of tuples of ints -/
theorem lex_trans : ∀ {a b c : List Int}, HT.lexLt a b = true → HT.lexLt b c = true → HT.lexLt a c = true
  | [], [], _, h, _ => by cases h
  | [], _ :: _, [], _, h => by rw [HT.lexLt_cons_nil] at h; cases h
  | [], _ :: _, _ :: _, _, _ => by rw [HT.lexLt_nil_cons]
  | _ :: _, [], _, h, _ => by rw [HT.lexLt_cons_nil] at h; cases h
  | _ :: _, _ :: _, [], _, h => by rw [HT.lexLt_cons_nil] at h; cases h
  | x :: a, y :: b, z :: c, h1, h2 => by
    rw [HT.lexLt_cons] at h1 h2 ⊢
    by_cases e1 : x = y
    · rw [if_pos e1] at h1
      subst e1
      by_cases e2 : x = z
      · rw [if_pos e2] at h2 ⊢
        exact lex_trans h1 h2
      · rw [if_neg e2] at h2 ⊢
        exact h2
    · rw [if_neg e1] at h1
      have h1 := of_decide_eq_true h1
      by_cases e2 : y = z
      · subst e2
        rw [if_neg e1]
        exact decide_eq_true h1
      · rw [if_neg e2] at h2
        have h2 := of_decide_eq_true h2
        rw [if_neg (by omega)]
        exact decide_eq_true (by omega)
theorem best_lt (num : Nat → List Int) : ∀ k, argBest (fun i j => HT.lexLt (num i) (num j)) k ≤ k ∧ ∀ j, j ≤ k → HT.lexLt (num j) (num (argBest (fun i j => HT.lexLt (num i) (num j)) k)) = false
  | 0 => ⟨Nat.le_refl _, fun j hj => by
      have : j = 0 := by omega
      subst this
      exact Best.lexLt_self _⟩
  | k + 1 => by
    obtain ⟨h1, h2⟩ := best_lt num k
    have e : argBest (fun i j => HT.lexLt (num i) (num j)) (k + 1) = if HT.lexLt (num (k + 1)) (num (argBest (fun i j => HT.lexLt (num i) (num j)) k)) = true then k + 1 else argBest (fun i j => HT.lexLt (num i) (num j)) k := rfl
    rw [e]
    generalize argBest (fun i j => HT.lexLt (num i) (num j)) k = b at *
    by_cases c : HT.lexLt (num (k + 1)) (num b) = true
    · rw [if_pos c]
      refine ⟨Nat.le_refl _, fun j hj => ?_⟩
      rcases Nat.lt_or_eq_of_le hj with hj | hj
      · have := h2 j (by omega)
        cases q : HT.lexLt (num j) (num (k + 1)) with
        | false => rfl
        | true =>
          rw [lex_trans q c] at this
          cases this
      · subst hj
        exact Best.lexLt_self _
    · rw [if_neg c]
      refine ⟨by omega, fun j hj => ?_⟩
      rcases Nat.lt_or_eq_of_le hj with hj | hj
      · exact h2 j (by omega)
      · subst hj
        simpa using c
section
variable {prog : Program} {w : World} {A : Around} {E : Value → Shared → Prop} {s : Shared}
theorem min_list {l : Addr} {zs : List (Addr × List Int)} {Q : Value → Shared → Prop} (hh : A.handled = none) (hu : A.units + 1 < cLine) (hl : s.heap.IsList l (zs.map fun z => Value.ref z.1).toArray) (ht : ∀ z ∈ zs, ∃ its : Array Value, IsTup s.heap z.1 its ∧ IntsAre its.toList z.2) (hn : 0 < zs.length)
    (h : ∀ h' tk z, (∀ c o, s.heap.get? c = some o → h'.get? c = some o) → z ∈ zs → (∀ y ∈ zs, HT.lexLt y.2 z.2 = false) → Q (.ref z.1) { s with heap := h', toks := tk }) :
    wpAny (model prog w) A (call (.builtin "min") [.ref l]) Q E s := by
  have nm : (toString "min" ++ toString ".loop" : String) = "min.loop" := by decide
  have ll : l < s.heap.objs.size := by obtain ⟨_, e, _⟩ := hl; exact Heap.lt_size e
  refine call_function_tree PySem.F.kind_min PySem.F.plain_min PySem.F.entry_min (PySem.F.args_min1 _) ?_
  show wpAny _ A.in1 (Builtin.Builtins.bindParams "min" ["key", "default"] 0 ⟨[], []⟩ >>= _) _ _ s
  refine wpAny_bind (wpAny_of_eq (show Builtin.Builtins.bindParams "min" ["key", "default"] 0 ⟨[], []⟩ = pure [none, none] from rfl) ?_)
  refine wpAny_bind (wpAny_pure ?_)
  refine wpAny_bind (wpAny_pyIter_list hl ?_)
  refine wpAny_bind (wpAny_newObj_type ?_)
  rw [nm]
  have sz2 : ∀ o : Obj, (s.heap.push o).objs.size = s.heap.objs.size + 1 := fun o => Heap.size_push ..
  have old1 : ∀ a : Addr, a < s.heap.objs.size → a ∉ [s.heap.objs.size] := fun a la hm => by
    have e2 : a = s.heap.objs.size := List.mem_singleton.mp hm
    exact absurd la (by rw [e2]; exact Nat.lt_irrefl _)
  have old2 : ∀ a : Addr, a < s.heap.objs.size → ∀ {o : Obj}, a ≠ (s.heap.push o).objs.size := fun a la o z => by
    have e2 : a = s.heap.objs.size + 1 := z.trans (sz2 o)
    exact absurd la (by rw [e2]; exact Nat.not_lt.mpr (Nat.le_succ _))
  have tl : ∀ z ∈ zs, z.1 < s.heap.objs.size := fun z hz => by obtain ⟨_, t, _⟩ := ht z hz; exact t.lt
  have sz : (zs.map fun z => Value.ref z.1).toArray.size = zs.length := by rw [List.size_toArray, List.length_map]
  have at_ : ∀ (i : Nat) (v : Value), (zs.map fun z => Value.ref z.1).toArray[i]? = some v → ∃ z, zs[i]? = some z ∧ v = .ref z.1 := fun i v e => by
    rw [← Array.getElem?_toList] at e
    have e : (zs.map fun z => Value.ref z.1)[i]? = some v := e
    rw [List.getElem?_map] at e
    cases q : zs[i]? with
    | none => rw [q] at e; cases e
    | some z => rw [q] at e; exact ⟨z, rfl, (Option.some.inj e).symm⟩
  have num : ∀ {i : Nat} {z : Addr × List Int}, zs[i]? = some z → (zs[i]?.map (·.2)).getD [] = z.2 := fun {i z} e => by rw [e]; rfl
  refine wpAny_pure ⟨plainId_quiet PySem.F.plain_min_loop _, Best.min_run0 (Walks.list (A := A.in1) hh _ l (Nat.ne_of_lt ll) (zs.map fun z => Value.ref z.1).toArray) (fun i j => HT.lexLt ((zs[i]?.map (·.2)).getD []) ((zs[j]?.map (·.2)).getD []))
    (fun h => ∀ z ∈ zs, ∃ its : Array Value, IsTup h z.1 its ∧ IntsAre its.toList z.2) ?cmp _ ?out ?keep (by rw [sz]; exact hn) (c := 0) ?st ?ch (Heap.get?_push_size _ rfl) fun v h' tk hv keep => ?fin⟩
  case out =>
    intro hm
    rcases List.mem_cons.mp hm with z | hm
    · exact absurd ((sz2 _).symm.trans z) (Nat.succ_ne_self _)
    · exact absurd ((sz2 _).symm.trans (List.mem_singleton.mp hm)) (Nat.ne_of_gt (Nat.lt_succ_of_lt ll))
  case cmp =>
    intro i j vi vj s2 Q2 E2 hC hi hj hQ
    obtain ⟨z, hz, rfl⟩ := at_ i vi hi
    obtain ⟨y, hy, rfl⟩ := at_ j vj hj
    dsimp only at hQ
    rw [num hz, num hy] at hQ
    obtain ⟨i1, t1, n1⟩ := hC z (List.mem_of_getElem? hz)
    obtain ⟨i2, t2, n2⟩ := hC y (List.mem_of_getElem? hy)
    exact lt_tupInts t1 t2 n1 n2 hu hQ
  case keep =>
    intro g1 g2 hC k z hz
    obtain ⟨i1, t1, n1⟩ := hC z hz
    exact ⟨i1, Best.tup_at (fun o e => k z.1 o (old1 z.1 (tl z hz)) (old2 z.1 (tl z hz)) e) t1, n1⟩
  case st => exact ⟨⟨_, Heap.get?_push_of_some _ (Heap.get?_push_size _ rfl), rfl, rfl⟩, (hl.push _).push _⟩
  case ch =>
    intro z hz
    obtain ⟨i1, t1, n1⟩ := ht z hz
    exact ⟨i1, Best.tup_at (fun o e => Heap.get?_push_of_some _ (Heap.get?_push_of_some _ e)) t1, n1⟩
  case fin =>
    have hold : ∀ c o, s.heap.get? c = some o → h'.get? c = some o := fun c o e => by
      have lc := Heap.lt_size e
      exact keep c o (old1 c lc) (old2 c lc) (Heap.get?_push_of_some _ (Heap.get?_push_of_some _ e))
    obtain ⟨z, hz, rfl⟩ := at_ _ v hv
    obtain ⟨b1, b2⟩ := best_lt (fun i => (zs[i]?.map (·.2)).getD []) ((zs.map fun z => Value.ref z.1).toArray.size - 1)
    refine h h' tk z hold (List.mem_of_getElem? hz) fun y hy => ?_
    obtain ⟨j, hj⟩ := List.getElem?_of_mem hy
    have lj := (List.getElem?_eq_some_iff.mp hj).1
    have := b2 j (by rw [sz]; omega)
    rw [num hj, num hz] at this
    exact this
end
section
open L2
variable {X : Cx}
def rMinT (K : PySem.W.Frag) : List V → Hp → VK → Prop := fun vs H Q => ∃ (a : Addr) (zs : List (Addr × List Int)), vs = [V.ref a] ∧ SqL K H a (zs.map fun z => V.ref z.1) ∧ (∀ z ∈ zs, SqT K H z.1 (z.2.map V.int)) ∧ 0 < zs.length ∧ ∀ z ∈ zs, (∀ y ∈ zs, HT.lexLt y.2 z.2 = false) → Q (.ref z.1) H
theorem cr_minT (hc : X.calm = true) (hu : X.A.units + 1 < cLine) : CallR X (.builtin "min") (rMinT X.K) := by
  intro pins s σ H vs us Q I r h
  obtain ⟨a, zs, rfl, hs, ht, hn, q⟩ := h
  obtain ⟨its, rv, hl, _⟩ := I.list hs
  rw [Vals.ref1 r]
  have e := Srt.vals_refs rv
  subst e
  refine min_list (I.ok.hd hc) hu hl.isList (fun z hz => ?_) hn fun h' tk z k hz hm => ⟨.ref z.1, H, I.kept k, rfl, q z hz hm⟩
  obtain ⟨it, r1, t, _⟩ := I.tuple (ht z hz)
  exact ⟨it.toArray, t, intsAre_of r1⟩
/-! ### xs.insert(i, x) -/
theorem ins_call {prog : Program} {w : World} {A : Around} {E : Value → Shared → Prop} {s : Shared} {l : Addr} {items : Array Value} {n : Nat} {x : Int} {t : Tok} {y : Value} {Q : Value → Shared → Prop} (e : s.heap.get? l = some { cls := .type "list", dict := none, data := .seq items n, slots := #[] }) (fits : ¬ (!Builtin.List.listFitsIndex x) = true) (hz : items.size ≤ sizeLine)
    (h : Q .none { s with heap := s.heap.update l (Obj.mapSeq fun xs => (xs.extract 0 (if x < 0 then (x + (xs.size : Int)).toNat else min x.toNat xs.size)).push y ++ xs.extract (if x < 0 then (x + (xs.size : Int)).toNat else min x.toNat xs.size)) }) :
    wpAny (model prog w) A (call (.builtin "list.insert") [.ref l, .int x t, y]) Q E s :=
  call_meets PySem.F.slot_list_insert ⟨_, e, rfl⟩ PySem.F.entry_list_insert (PySem.F.args_list_insert_3 _ _ _) (AutoSeq1.list_insert_list_int_val_1 l items n x t y fits hz) ⟨e, h⟩
def rInsert : V → List V → Hp → VK → Prop := fun x vs H Q => ∃ l xs i y, x = .ref l ∧ vs = [.int ((i : Nat) : Int), y] ∧ H l = some (.lst xs) ∧ i ≤ xs.length ∧ xs.length < sizeLine ∧ Q .non (upd H l (.lst (xs.take i ++ y :: xs.drop i)))
theorem mt_insert : MtM X "list.insert" rInsert := by
  intro pins s σ H x vs v us Q I rx rv h
  obtain ⟨l, xs, i, y, rfl, rfl, hH, hi, hz, q⟩ := h
  cases rx
  obtain ⟨u, w, rfl, ⟨t, rfl⟩, rw'⟩ := rv.two
  obtain ⟨z, its, n, r, hl, e⟩ := I.lstM hH
  have sl : i < 4611686018427387904 := by rw [sizeLine_eq] at hz; omega
  have fits : ¬ (!Builtin.List.listFitsIndex ((i : Nat) : Int)) = true := by
    rw [fitsIndex_both (by omega) (by omega)]
    decide
  have hz1 : its.toArray.size ≤ sizeLine := by rw [List.size_toArray, ← hl]; exact z
  refine ins_call e fits hz1 ?_
  refine ⟨.non, _, I.lset (its' := its.take i ++ w :: its.drop i) hH e ?_ ((r.take i).append (.cons rw' (r.drop i))) ?_, rfl, q⟩
  · have k1 : (if ((i : Nat) : Int) < 0 then (((i : Nat) : Int) + (its.toArray.size : Int)).toNat else min ((i : Nat) : Int).toNat its.toArray.size) = i := by
      rw [if_neg (by omega), List.size_toArray]
      omega
    show (its.toArray.extract 0 (if ((i : Nat) : Int) < 0 then (((i : Nat) : Int) + (its.toArray.size : Int)).toNat else min ((i : Nat) : Int).toNat its.toArray.size)).push w ++ its.toArray.extract (if ((i : Nat) : Int) < 0 then (((i : Nat) : Int) + (its.toArray.size : Int)).toNat else min ((i : Nat) : Int).toNat its.toArray.size) = _
    rw [k1]
    apply Array.toList_inj.mp
    simp
    exact List.take_of_length_le (by rw [List.length_drop]; exact Nat.le_refl _)
  · rw [List.length_append, List.length_cons, List.length_take, List.length_drop]
    omega
end
/-! ### d.setdefault(t, v), t a tuple -/
section
variable {prog : Program} {w : World} {K : Type} [DecidableEq K] {knd : HeapKind prog w K} {A : Around} {E : Value → Shared → Prop} {s : Shared}
theorem setDef_heap {d a : Addr} {xs : List (K × Addr × Value)} {k : K} {v : Value} {Q : Value → Shared → Prop} (hu : knd.room A) (hkey : knd.is s.heap k a) (hm : s.heap.DictOfH knd d xs)
    (h1 : ∀ p, atKey xs k = some p → Q p.2 { s with toks := s.toks + knd.draws k })
    (h2 : atKey xs k = none → ∀ h', h'.DictOfH knd d (storedH xs k a v) → Heap.SameBut d s.heap h' → Q v { s with heap := h', toks := s.toks + knd.draws k })
    (hsz : xs.length ≤ sizeLine) : wpAny (model prog w) A (dictSetDefault d (.ref a) v) Q E s := by
  obtain ⟨o, es, ep, ho, hc, hd, he, his, hn⟩ := hm
  unfold dictSetDefault
  refine wpAny_holding ?_
  refine wpAny_bind (knd.pyHash hu hkey (wpAny_bind (wpAny_dictFind_heap (s := { s with toks := s.toks + knd.draws k }) hu hkey ho hd he his hn ?_ ?_)))
  · intro hno
    have hnot : k ∉ xs.map (·.1) := not_mem_keys_of_get hno
    have hz := atKey_none_of_get hno
    refine wpAny_bind (wpAny_rule (wpAny_bind (wpAny_updateDictKeys (hz := by have e := size_of_entries he; omega) (s := { s with toks := s.toks + knd.draws k }) ho hd (wpAny_pure (h2 hz _ ⟨_, _, ep + 1, Heap.get?_update_self _ ho (Obj.isFreed_of_dict (Obj.data_mapDictKeys hd _)),
      hc.mapDictKeys _, Obj.data_mapDictKeys hd _, ?_, ?_, ?_⟩ (Heap.SameBut.update ..))))))
    · rw [storedH_new hz]
      simp [he, entryOfKey]
    · rw [storedH_new hz]
      intro x hx
      rcases List.mem_append.mp hx with hx | hx
      · exact knd.keeps (his x hx) ho hd (Heap.SameBut.update ..)
      · simp only [List.mem_singleton] at hx
        subst hx
        exact knd.keeps hkey ho hd (Heap.SameBut.update ..)
    · rw [storedH_new hz]
      rw [List.map_append, List.nodup_append]
      refine ⟨hn, by simp, ?_⟩
      intro x hx y hy
      simp only [List.map_cons, List.map_nil, List.mem_singleton] at hy
      subst hy
      exact fun e => hnot (e ▸ hx)
  · intro j p hj
    refine wpAny_bind (wpAny_dictEntries (s := { s with toks := s.toks + knd.draws k }) ho hd ?_)
    rw [entry_at he j, hj]
    exact wpAny_bind (wpAny_rule (wpAny_pure (h1 p (atKey_of_get hn hj))))
end
section
open L2
variable {X : Cx}
def rSetDef : V → List V → Hp → VK → Prop := fun x vs H Q => ∃ (a b : Addr) (kvs : List (List L2.Key × V)) (k : List L2.Key) (v : V), x = .ref a ∧ vs = [.ref b, v] ∧ H a = some (.dT kvs) ∧ H b = some (.tup (k.map kV)) ∧ kvs.length < sizeLine ∧
  (∀ z, valV kvs k = some z → Q z H) ∧ (valV kvs k = none → Q v (upd H a (.dT (putK kvs k v))))
theorem mt_setDef (hu : X.A.units + 1 < cLine) : MtM X "dict.setdefault" rSetDef := by
  intro pins s σ H x vs u us Q I rx rv h
  obtain ⟨a, b, kvs, k, v, rfl, rfl, e, eb, l, q1, q2⟩ := h
  cases rx
  obtain ⟨u1, r, rfl, ru, rr⟩ := rv.two
  cases (show u1 = Value.ref b from ru)
  obtain ⟨z, hd, xs, rel, dd⟩ := dt_of I.hok e
  have hz : xs.length ≤ sizeLine := by rw [← Paired.length rel]; exact z
  have hl : (putK kvs k v).length ≤ sizeLine := by have := length_putK kvs k v; omega
  refine wpAny_call_entry PySem.F.slot_dict_setdefault dd.typeIs PySem.F.entry_dict_setdefault ?_ (PySem.F.args_dict_setdefault_3 _ _ _)
  show wpAny _ _ (Builtin.«dict.setdefault» ⟨[.ref a, .ref b, r], []⟩) _ _ s
  unfold Builtin.«dict.setdefault»
  refine wpAny_bind ?_
  unfold Builtin.Dict.keyAndDefault
  refine wpAny_bind (wpAny_notOrdered_dict dd.typeIs ?_)
  show wpAny _ _ (pure (a, Value.ref b, some r)) _ _ s
  refine wpAny_pure ?_
  show wpAny _ _ (if (a == sysModules) = true then _ else (dictSetDefault a (Value.ref b) r >>= _)) _ _ s
  rw [if_neg (by rw [hd]; exact Bool.false_ne_true)]
  refine wpAny_bind (setDef_heap (tupleKind_room_in1 hu) (L2.key_of I.hok eb) dd (fun p hp => ?_) (fun hn h' dd' hs => ?_) hz)
  · have q := rel.val k
    rw [hp] at q
    obtain ⟨w', hw, rw'⟩ := RelO.of_some q
    exact wpAny_pure ⟨_, rfl, w', H, I.tok _, rw', q1 w' hw⟩
  · have q := rel.val k
    rw [hn] at q
    have hv : valV kvs k = none := RelO.of_none q
    obtain ⟨qo, es, ep, hq, g2, g3, g4, _, g5⟩ := dd'
    refine wpAny_pure ⟨_, rfl, v, _, d_write (ob := .dT (putK kvs k v)) I (by rw [e]; exact True.intro) hs ⟨qo, hq⟩ ⟨hl, hd, _, (rel.put k eb rr).keeps fun c ys ec => ?_, qo, es, ep, hq, g2, g3, g4, g5⟩, rr, q2 hv⟩
    rw [upd_ne (ne_of ec e (fun z => nomatch z))]
    exact ec
end
end Nr

namespace Ex
open PySem PySem.Spec PyProof.Rows L2
/-- a def of the text's top: as it stands, how it binds, its name -/
structure Df (K : PySem.W.Frag) (mg : Str → Option Value) (x : Str) (st : Stmt) (ps : List Str) (f : Addr) (fd : FuncData) : Prop where
  F : Fun K x x st f fd
  b : Binds K fd ps []
  g : mg x = some (.ref f)
/-- a point stands at p -/
def PtAt (K : PySem.W.Frag) (H : Hp) (p : Addr) (v : Sw12.P) : Prop := SqT K H p [.int v.x, .int v.y]
theorem fits_mk {x y : Int} (h1 : -9223372036854775808 ≤ x) (h2 : x ≤ 9223372036854775807) (h3 : -9223372036854775808 ≤ y) (h4 : y ≤ 9223372036854775807) : MM.Fits ⟨x, y⟩ := ⟨h1, h2, h3, h4⟩
theorem same_upd {H : Hp} {p : Addr} {o : HO} (hp : H p = none) : Same H (upd H p o) := fun b u e => by
  rw [upd_ne (ne_of_none e hp)]
  exact e
theorem same_tup {K : PySem.W.Frag} {H H' : Hp} {a : Addr} {xs : List V} (e : Same H H') (h : SqT K H a xs) : SqT K H' a xs := by
  rcases h with (h | ⟨o, h⟩) | h
  · exact .inl (.inl (e _ _ h))
  · exact .inl (.inr ⟨o, e _ _ h⟩)
  · exact .inr h
theorem PtAt.same {K : PySem.W.Frag} {H H' : Hp} {a : Addr} {v : Sw12.P} (e : Same H H') (h : PtAt K H a v) : PtAt K H' a v := same_tup e h
theorem PtAt.of {K : PySem.W.Frag} {H : Hp} {a : Addr} {x y : Int} (h : H a = some (.tup [.int x, .int y])) : PtAt K H a ⟨x, y⟩ := SqT.of h
theorem and_if {c1 c2 : Prop} [Decidable c1] [Decidable c2] {R1 R2 B : Prop} (hB : (if decide c2 = true then R1 else R2) → B) (h1 : c1 → c2 → R1) (h2 : ¬ (c1 ∧ c2) → R2) : if decide c1 = true then B else (if false = true then R1 else R2) := by
  refine ite2 (fun z1 => hB (ite2 (fun z2 => ?_) (fun z2 => ?_))) (fun z1 => iteF ?_)
  · exact h1 (of_decide_eq_true z1) (of_decide_eq_true z2)
  · exact h2 fun z => z2 (decide_eq_true z.2)
  · exact h2 fun z => z1 (decide_eq_true z.1)
end Ex

namespace Ex
open PySem PySem.Spec PyProof.Rows L2
def top (i : Nat) : Stmt := PySem.Challenge.pw_exactplane_s07_nearest.main.body.getD i (.Pass ⟨0, 0, 0, 0⟩)
abbrev sNearest : Stmt := top 2
abbrev sNum : Stmt := top 3
abbrev sPt : Stmt := top 4
abbrev sPts : Stmt := top 5
abbrev sFirst : Stmt := top 6
abbrev sNPair : Stmt := top 7
abbrev sEqual : Stmt := top 8
abbrev sDiff : Stmt := top 9
abbrev sPair : Stmt := top 10
abbrev sSq : Stmt := top 11
abbrev sLeft : Stmt := top 12
abbrev sNears : Stmt := top 13
end Ex
namespace Ex
open PySem PySem.Spec PyProof.Rows L2
section
variable {P : Program} {w : World} {K : PySem.W.Frag} {mg : Str → Option Value} {base : Heap}
/-! ### is_number_of_points -/
def okN (n : Int) : Bool := decide (1 ≤ n) && decide (n ≤ 4096)
theorem okN_iff {n : Int} : okN n = true ↔ 1 ≤ n ∧ n ≤ 4096 := by unfold okN; simp
def spNum : Sp := fun vs H Q _ => ∃ n : Int, vs = [.int n] ∧ Q (.bl (okN n)) H
theorem scNum : FnScope ["n"] ["n"] (defScope sNum) := ⟨rfl, rfl, rfl, by decide +kernel, rfl, by decide +kernel, by decide +kernel⟩
theorem ok_num {f : Addr} {fd : FuncData} {tk : Tok} (D : Df K mg "is_number_of_points" sNum ["n"] f fd) (hm : mg "MOST_POINTS" = some (.int 4096 tk)) : FnOk P w K mg base CX0 1 f fd ["n"] spNum := by
  refine D.F.ok scNum (fun vs H Q E h => ?_) (fun cdv A outer s H vs Q E hr h => ?_)
  · obtain ⟨n, rfl, _⟩ := h
    rfl
  · obtain ⟨n, rfl, k⟩ := h
    refine ⟨_, pss_one (ps_ret (pe_and (pe_cmpR op_ge (pv 0) pe_int (nomark _)) (pe_one (pe_cmpR op_le (pv 0) (pe_glob (v := .int 4096) rfl hm ⟨_, rfl⟩) (nomark _))))), ?_⟩
    refine ⟨_, rfl, _, _, rfl, rfl, _, rfl, ?_⟩
    refine ite2 (fun h => ?_) (fun h => ?_)
    · refine ⟨_, rfl, _, _, rfl, rfl, ?_⟩
      have e : okN n = decide (n ≤ 4096) := by unfold okN; rw [show decide (1 ≤ n) = true from h, Bool.true_and]
      rw [e] at k
      exact k
    · have e : okN n = false := by unfold okN; rw [show decide (1 ≤ n) = false from Bool.eq_false_iff.mpr h, Bool.false_and]
      rw [e] at k
      exact k
end
end Ex

namespace Ex
open PySem PySem.Spec PyProof.Rows L2
section
variable {P : Program} {w : World} {K : PySem.W.Frag} {mg : Str → Option Value} {base : Heap}
/-! ### point_at -/
def spPt (K : PySem.W.Frag) : Sp := fun vs H Q _ => ∃ (a : Addr) (ns : List Int) (i : Nat) (x y : Int), vs = [.ref a, .int (i : Int)] ∧ SqL K H a (ns.map V.int) ∧ ns[2 * i]? = some x ∧ ns[2 * i + 1]? = some y ∧
  ∀ (H' : Hp) (p : Addr), Same H H' → H p = none → H' p = some (.tup [.int x, .int y]) → Q (.ref p) H'
theorem scPt : FnScope ["numbers", "place"] ["numbers", "place"] (defScope sPt) := ⟨rfl, rfl, rfl, by decide +kernel, rfl, by decide +kernel, by decide +kernel⟩
theorem ok_pt {f : Addr} {fd : FuncData} (D : Df K mg "point_at" sPt ["numbers", "place"] f fd) : FnOk P w K mg base CX0 1 f fd ["numbers", "place"] (spPt K) := by
  refine D.F.ok scPt (fun vs H Q E h => ?_) (fun cdv A outer s H vs Q E hr h => ?_)
  · obtain ⟨a, ns, i, x, y, rfl, _⟩ := h
    rfl
  · obtain ⟨a, ns, i, x, y, rfl, hS, hx, hy, k⟩ := h
    refine ⟨_, pss_one (ps_ret (pe_tup (pa_cons (pe_ix ix_list (pv 0) (pe_op op_mul pe_int (pv 1)) (fun _ _ => rfl)) (pa_cons (pe_ix ix_list (pv 0) (pe_op op_add (pe_op op_mul pe_int (pv 1)) pe_int) (fun _ _ => rfl)) pa_nil)))), ?_⟩
    refine ⟨_, rfl, _, rfl, _, _, rfl, rfl, .inl ⟨by decide, by decide⟩, a, _, _, _, rfl, rfl, hS, at_of (j := 2 * i) (v := V.int x) (by omega) (by rw [List.getElem?_map, hx]; rfl), ?_⟩
    refine ⟨_, rfl, _, rfl, _, _, rfl, rfl, .inl ⟨by decide, by decide⟩, _, _, rfl, rfl, a, _, _, _, rfl, rfl, hS, at_of (j := 2 * i + 1) (v := V.int y) (by omega) (by rw [List.getElem?_map, hy]; rfl), ?_⟩
    exact ⟨(by show 2 ≤ sizeLine; decide), fun p hp => k _ p (same_upd hp) hp upd_same⟩
end
end Ex

namespace Ex
open PySem PySem.Spec PyProof.Rows L2
abbrev Y := Addr × Sw12.P
def refs (ys : List Y) : List V := ys.map fun y => V.ref y.1
theorem refs_len (ys : List Y) : (refs ys).length = ys.length := by unfold refs; rw [List.length_map]
theorem refs_at {ys : List Y} {i : Nat} {v : V} (h : (refs ys)[i]? = some v) : ∃ y, ys[i]? = some y ∧ v = V.ref y.1 := by
  unfold refs at h
  rw [List.getElem?_map] at h
  cases e : ys[i]? with
  | none => rw [e] at h; cases h
  | some y =>
    rw [e] at h
    exact ⟨y, rfl, (Option.some.inj h).symm⟩
theorem refs_app (xs ys : List Y) : refs (xs ++ ys) = refs xs ++ refs ys := by unfold refs; rw [List.map_append]
section
variable {P : Program} {w : World} {K : PySem.W.Frag} {mg : Str → Option Value} {base : Heap}
/-! ### points_in -/
def spPts (K : PySem.W.Frag) : Sp := fun vs H Q _ => ∃ (a : Addr) (m : Nat) (ns : List Int), vs = [.int (m : Int), .ref a] ∧ SqL K H a (ns.map V.int) ∧ ns.length = 2 * m ∧ m ≤ 4096 ∧
  ∀ (H' : Hp) (p : Addr) (ys : List Y), Same H H' → H p = none → H' p = some (.lst (refs ys)) → (∀ y ∈ ys, H' y.1 = some (.tup [.int y.2.x, .int y.2.y])) → ys.map (·.2) = Sw12Neutral.pts ns → Q (.ref p) H'
theorem scPts : FnScope ["n", "numbers", "place"] ["n", "numbers"] (defScope sPts) := ⟨rfl, rfl, rfl, by decide +kernel, rfl, by decide +kernel, by decide +kernel⟩
theorem ok_pts {f fp : Addr} {fd fdp : FuncData} (D : Df K mg "points_in" sPts ["n", "numbers"] f fd) (Dp : Df K mg "point_at" sPt ["numbers", "place"] fp fdp) (hR : mg "range" = none) : FnOk P w K mg base CX0 2 f fd ["n", "numbers"] (spPts K) := by
  have Gp : FnOk P w K mg base CX0 1 fp fdp ["numbers", "place"] (spPt K) := ok_pt Dp
  refine D.F.ok scPts (fun vs H Q E h => ?_) (fun cdv A outer s H vs Q E hr h => ?_)
  · obtain ⟨a, m, ns, rfl, _⟩ := h
    rfl
  · obtain ⟨a, m, ns, rfl, hS, hl, hm, k⟩ := h
    refine ⟨_, pss_one (ps_ret (pe_lc (own := [("place", 2)]) rfl scPts.nd (pi_range1 rfl hR (pa_cons (pv 0) pa_nil)) (blkOk_by (by show blkC ["n", "numbers", "place"] (defScope sPts) _ _ = true; decide +kernel)) (fun _ _ _ _ _ => pg_name (i := 2) scPts.nd rfl (Or.inl rfl)) (fun _ _ _ _ _ => pts_nil)
      (fun _ _ _ _ _ => pe_call Gp hr rfl Dp.g Dp.F.kp Dp.b .nil pass0 (pa_cons (pv 1) (pa_cons (pv 2) pa_nil))))), ?_⟩
    have em : ((m : Int)).toNat = m := by omega
    refine ⟨_, rfl, _, rfl, (by omega), (by omega), ?_⟩
    rw [em]
    intro D0 hD
    have pl := AM.pts_len hl
    refine lc_range (n := m) (fun i H' => ∃ ys : List Y, H' D0 = some (.lst (refs ys)) ∧ Same H H' ∧ (∀ y ∈ ys, H' y.1 = some (.tup [.int y.2.x, .int y.2.y])) ∧ ys.map (·.2) = (Sw12Neutral.pts ns).take i) ⟨[], upd_same, same_upd hD, (fun _ z => nomatch z), rfl⟩ ?_ ?_
    · rintro i H' hi ⟨ys, hq, s5, hp, ey⟩
      obtain ⟨x, y, hx, hy, hpt⟩ := AM.pts_two hl hi
      refine ⟨rfl, ?_⟩
      unfold tYes
      dsimp only
      rw [if_pos rfl]
      refine ⟨_, rfl, _, rfl, a, ns, i, x, y, (by rw [Int.zero_add]; rfl), s5.seq hS, hx, hy, fun H1 p1 s1 n1 h1 => ?_⟩
      have lys : ys.length = i := by
        have := congrArg List.length ey
        rw [List.length_map, List.length_take, pl] at this
        omega
      refine ⟨refs ys, s1 _ _ hq, ?_, ys ++ [(p1, ⟨x, y⟩)], ?_, ?_, ?_, ?_⟩
      · rw [refs_len, lys]
        have : (4096 : Nat) ≤ sizeLine := by rw [sizeLine_eq]; decide
        omega
      · rw [upd_same, refs_app]
        rfl
      · intro b o e
        rw [upd_ne (ne_of_none e hD)]
        exact s1 _ _ (s5 _ _ e)
      · intro w hw
        have ne : ∀ b o, H1 b = some o → (∀ l, o ≠ .lst l) → upd H1 D0 (.lst (refs ys ++ [V.ref p1])) b = some o := fun b o e z => by
          rw [upd_ne (fun q => by rw [q, s1 _ _ hq] at e; exact z _ (Option.some.inj e).symm)]
          exact e
        rcases List.mem_append.mp hw with hw | hw
        · exact ne _ _ (s1 _ _ (hp w hw)) (fun _ z => nomatch z)
        · rw [List.mem_singleton.mp hw]
          exact ne _ _ h1 (fun _ z => nomatch z)
      · rw [List.map_append, ey, AM.take_snoc hpt]
        rfl
    · rintro H' ⟨ys, hq, s5, hp, ey⟩
      rw [List.take_of_length_le (by rw [pl]; exact Nat.le_refl _)] at ey
      exact k H' D0 ys s5 hD hq hp ey
end
end Ex

namespace Ex
open PySem PySem.Spec PyProof.Rows L2
/-! ### objects by their addresses -/
def rfs {α : Type} (ys : List (Addr × α)) : List V := ys.map fun y => V.ref y.1
theorem rfs_len {α : Type} (ys : List (Addr × α)) : (rfs ys).length = ys.length := by unfold rfs; rw [List.length_map]
theorem rfs_at {α : Type} {ys : List (Addr × α)} {i : Nat} {v : V} (h : (rfs ys)[i]? = some v) : ∃ y, ys[i]? = some y ∧ v = V.ref y.1 := by
  unfold rfs at h
  rw [List.getElem?_map] at h
  cases e : ys[i]? with
  | none => rw [e] at h; cases h
  | some y =>
    rw [e] at h
    exact ⟨y, rfl, (Option.some.inj h).symm⟩
theorem rfs_get {α : Type} {ys : List (Addr × α)} {i : Nat} {y : Addr × α} (h : ys[i]? = some y) : (rfs ys)[i]? = some (V.ref y.1) := by
  unfold rfs
  rw [List.getElem?_map, h]
  rfl
theorem rfs_app {α : Type} (xs ys : List (Addr × α)) : rfs (xs ++ ys) = rfs xs ++ rfs ys := by unfold rfs; rw [List.map_append]
theorem at_prev {α : Type} {ys : List (Addr × α)} {i : Nat} {y : Addr × α} (hi : i < ys.length) (h : (ys.getLast?.toList ++ ys)[i]? = some y) : atI (rfs ys) (0 + (i : Int) - 1) = some (.ref y.1) := by
  obtain ⟨a, h1, _, h2, h3⟩ := RM.prev_at hi
  rw [h] at h1
  cases h1
  cases i with
  | zero =>
    have g := h2 rfl
    obtain ⟨d, hd⟩ : ∃ d, ys = d ++ [y] := by
      have ne : ys ≠ [] := by rintro rfl; simp at hi
      refine ⟨ys.dropLast, ?_⟩
      rw [List.getLast?_eq_some_getLast ne] at g
      rw [← Option.some.inj g]
      exact (List.dropLast_concat_getLast ne).symm
    rw [hd, rfs_app]
    exact atI_last _ _
  | succ k =>
    exact at_of (j := k) (by omega) (rfs_get (h3 (by omega)))
theorem prev_map {α β : Type} (f : α → β) (l : List α) : (l.map f).getLast?.toList ++ l.map f = (l.getLast?.toList ++ l).map f := by
  rw [List.getLast?_map, List.map_append]
  cases l.getLast? <;> rfl
theorem ixl {X : Cx} {K : PySem.W.Frag} (h : X.K = K) : IxR X (rIxL K) := h ▸ ix_list
theorem ixt {X : Cx} {K : PySem.W.Frag} (h : X.K = K) : IxR X (rIxT K) := h ▸ ix_tup
/-- a list is laid anew: what is no list stays -/
theorem tup_lst {K : PySem.W.Frag} {H : Hp} {D0 a : Addr} {l l' xs : List V} (h : H D0 = some (.lst l)) (t : SqT K H a xs) : SqT K (upd H D0 (.lst l')) a xs := by
  have ne : ∀ b o, H b = some o → (∀ l, o ≠ .lst l) → upd H D0 (.lst l') b = some o := fun b o e z => by
    rw [upd_ne (fun q => by rw [q, h] at e; exact z _ (Option.some.inj e).symm)]
    exact e
  rcases t with (q | ⟨o, q⟩) | q
  · exact .inl (.inl (ne _ _ q (fun _ z => nomatch z)))
  · exact .inl (.inr ⟨o, ne _ _ q (fun _ z => nomatch z)⟩)
  · exact .inr q
/-- an edge stands at p -/
def EdAt (K : PySem.W.Frag) (H : Hp) (p : Addr) (e : Sw12.P × Sw12.P) : Prop := ∃ a b, SqT K H p [.ref a, .ref b] ∧ PtAt K H a e.1 ∧ PtAt K H b e.2
theorem EdAt.same {K : PySem.W.Frag} {H H' : Hp} {p : Addr} {e : Sw12.P × Sw12.P} (s : Same H H') (h : EdAt K H p e) : EdAt K H' p e := by
  obtain ⟨a, b, t, ha, hb⟩ := h
  exact ⟨a, b, same_tup s t, ha.same s, hb.same s⟩
theorem EdAt.lst {K : PySem.W.Frag} {H : Hp} {D0 p : Addr} {l l' : List V} {e : Sw12.P × Sw12.P} (h : H D0 = some (.lst l)) (t : EdAt K H p e) : EdAt K (upd H D0 (.lst l')) p e := by
  obtain ⟨a, b, t, ha, hb⟩ := t
  exact ⟨a, b, tup_lst h t, tup_lst h ha, tup_lst h hb⟩
abbrev Z := Addr × (Sw12.P × Sw12.P)
end Ex

namespace Ex
open PySem PySem.Spec PyProof.Rows L2
section
variable {P : Program} {w : World} {K : PySem.W.Frag} {mg : Str → Option Value} {base : Heap}
/-! ### how_many_first -/
def spFirst (P : Program) (w : World) (K : PySem.W.Frag) (mg : Str → Option Value) (base : Heap) (j : Nat) : Sp := fun vs H Q _ => ∃ (c f : Addr) (xs : List V) (g : Nat → Bool), vs = [.ref c, .ref f] ∧ SqL K H c xs ∧
  (∀ i x, xs[i]? = some x → Lm.Cal P w K mg base j H f x (fun v H' => v = .bl (g i) ∧ H' = H)) ∧ Q (.int (Lm.bs g 0 xs.length : Nat)) H
theorem scFirst : FnScope ["things", "is_ahead", "least", "most", "middle"] ["things", "is_ahead"] (defScope sFirst) := ⟨rfl, rfl, rfl, by decide +kernel, rfl, by decide +kernel, by decide +kernel⟩
theorem ok_first (j : Nat) {f : Addr} {fd : FuncData} (D : Df K mg "how_many_first" sFirst ["things", "is_ahead"] f fd) (hlen : mg "len" = none) : FnOk P w K mg base CX0 (j + 1) f fd ["things", "is_ahead"] (spFirst P w K mg base j) := by
  refine D.F.ok scFirst (fun vs H Q E h => ?_) (fun cdv A outer s H vs Q E hr h => ?_)
  · obtain ⟨c, f, xs, g, rfl, _⟩ := h
    rfl
  · obtain ⟨c, f, xs, g, rfl, hS, hc, k⟩ := h
    refine ⟨_, pss_cons (ps_set (i := 2) scFirst.nd rfl (Or.inl rfl) pe_int)
      (pss_cons (ps_set (i := 3) scFirst.nd rfl (Or.inl rfl) (pe_callB call_len_seq (by rfl) hlen PySem.boot_len (pa_cons (pv 0) pa_nil)))
      (pss_cons (ps_while PassesOwn.never (pt_cmpR op_lt (pv 2) (pv 3) (nomark _))
        (pss_cons (ps_set (i := 4) scFirst.nd rfl (Or.inl rfl) (pe_op op_fdiv (pe_op op_add (pv 2) (pv 3)) pe_int))
        (pss_one (ps_if (pt_truth (Lm.pe_callV (i := 1) hr (pe_ix ix_list (pv 0) (pv 4) (fun _ _ => rfl))) (fun _ => rfl))
          (pss_one (ps_set (i := 2) scFirst.nd rfl (Or.inl rfl) (pe_op op_add (pv 4) pe_int))) (pss_one (ps_set (i := 3) scFirst.nd rfl (Or.inl rfl) (pv 4)))))))
      (pss_one (ps_ret (pv 2))))), ?_⟩
    refine ⟨_, rfl, c, _, rfl, .inl hS, ?_⟩
    refine ⟨fun m σ H1 => ∃ (l mo : Nat) (v : Option V), m = mo - l ∧ σ = [some (.ref c), some (.ref f), some (.int (l : Int)), some (.int (mo : Int)), v] ∧ H1 = H ∧ l ≤ mo ∧ mo ≤ xs.length ∧ Lm.bs g l mo = Lm.bs g 0 xs.length,
      ⟨xs.length, 0, xs.length, none, rfl, rfl, rfl, Nat.zero_le _, Nat.le_refl _, rfl⟩, ?_⟩
    rintro m σ H1 ⟨l, mo, v, rfl, rfl, rfl, h1, h2, h3⟩
    refine ⟨_, rfl, _, rfl, _, _, rfl, rfl, _, rfl, ?_⟩
    refine ite2 (fun hlt => ?_) (fun hlt => ?_)
    · have hlt : l < mo := by have := of_decide_eq_true hlt; omega
      have hi : (l + mo) / 2 < xs.length := by omega
      have hz : xs[(l + mo) / 2]? = some xs[(l + mo) / 2] := List.getElem?_eq_getElem hi
      have em : ((l : Int) + (mo : Int)) / 2 = (((l + mo) / 2 : Nat) : Int) := by omega
      refine ⟨fun σ2 H2 => ∃ m', m' < mo - l ∧ ∃ (l mo : Nat) (v : Option V), m' = mo - l ∧ σ2 = [some (.ref c), some (.ref f), some (.int (l : Int)), some (.int (mo : Int)), v] ∧ H2 = H1 ∧ l ≤ mo ∧ mo ≤ xs.length ∧ Lm.bs g l mo = Lm.bs g 0 xs.length, fun _ _ z => z, ?_⟩
      refine ⟨_, rfl, _, rfl, _, _, rfl, rfl, _, _, rfl, rfl, ⟨by decide, by decide⟩, ?_⟩
      have at1 : atI xs (((l : Int) + (mo : Int)) / 2) = some xs[(l + mo) / 2] := by rw [em]; exact at_of (j := (l + mo) / 2) rfl hz
      refine ⟨f, rfl, _, rfl, _, rfl, c, _, _, _, rfl, rfl, hS, at1, _, hc _ _ hz, ?_⟩
      rintro v2 H2 ⟨rfl, rfl⟩
      refine ⟨_, rfl, ?_⟩
      refine ite2 (fun h4 => ?_) (fun h4 => ?_)
      · refine ⟨_, rfl, _, _, rfl, rfl, mo - ((l + mo) / 2 + 1), by omega, (l + mo) / 2 + 1, mo, some (.int (((l : Int) + (mo : Int)) / 2)), rfl, ?_, rfl, by omega, h2, by rw [← h3, Lm.bs_up hlt h4]⟩
        rw [em]
        rfl
      · refine ⟨_, rfl, (l + mo) / 2 - l, by omega, l, (l + mo) / 2, some (.int (((l : Int) + (mo : Int)) / 2)), rfl, ?_, rfl, by omega, by omega, by rw [← h3, Lm.bs_down hlt h4]⟩
        rw [em]
        rfl
    · have hlt : ¬ l < mo := fun x => hlt (decide_eq_true (by omega))
      rw [Lm.bs_stop hlt] at h3
      rw [← h3] at k
      exact ⟨_, rfl, k⟩
end
end Ex

namespace Ex
open PySem PySem.Spec PyProof.Rows L2
/-! ### spots and pairs -/
abbrev SZ := Addr × NM.S
def SpAt (K : PySem.W.Frag) (H : Hp) (p : Addr) (s : NM.S) : Prop := SqT K H p [.int s.x, .int s.y, .int s.i]
def PrAt (K : PySem.W.Frag) (H : Hp) (p : Addr) (t : NM.T) : Prop := SqT K H p [.int t.d, .int t.i, .int t.j]
def FitS (s : NM.S) : Prop := -9223372036854775808 ≤ s.x ∧ s.x ≤ 9223372036854775807 ∧ -9223372036854775808 ≤ s.y ∧ s.y ≤ 9223372036854775807
theorem lex3d (a b c d e f : Int) : HT.lexLt [a, b, c] [d, e, f] = decide (a < d ∨ (a = d ∧ (b < e ∨ (b = e ∧ c < f)))) := by
  rw [HT.lexLt_cons, HT.lexLt_cons, HT.lexLt_cons, HT.lexLt_nil_nil]
  rw [Bool.eq_iff_iff, decide_eq_true_iff]
  by_cases h1 : a = d
  · rw [if_pos h1]
    by_cases h2 : b = e
    · rw [if_pos h2]
      by_cases h3 : c = f
      · rw [if_pos h3]
        simp
        omega
      · rw [if_neg h3, decide_eq_true_iff]
        omega
    · rw [if_neg h2, decide_eq_true_iff]
      omega
  · rw [if_neg h1, decide_eq_true_iff]
    omega
theorem lexS (a b : NM.S) : HT.lexLt [a.x, a.y, a.i] [b.x, b.y, b.i] = decide (NM.lts a b) := by
  rw [lex3d]
  rfl
theorem lexT (a b : NM.T) : HT.lexLt [a.d, a.i, a.j] [b.d, b.i, b.j] = decide (NM.ltt a b) := by
  rw [lex3d]
  rfl
section
variable {P : Program} {w : World} {K : PySem.W.Frag} {mg : Str → Option Value} {base : Heap}
/-! ### square -/
def spSq : Sp := fun vs H Q _ => ∃ a : Int, vs = [.int a] ∧ (-(2 ^ 64) < a ∧ a < 2 ^ 64) ∧ Q (.int (a * a)) H
theorem scSq : FnScope ["number"] ["number"] (defScope sSq) := ⟨rfl, rfl, rfl, by decide +kernel, rfl, by decide +kernel, by decide +kernel⟩
theorem ok_sq {f : Addr} {fd : FuncData} (D : Df K mg "square" sSq ["number"] f fd) : FnOk P w K mg base CX0 1 f fd ["number"] spSq := by
  refine D.F.ok scSq (fun vs H Q E h => ?_) (fun cdv A outer s H vs Q E hr h => ?_)
  · obtain ⟨a, rfl, _⟩ := h
    rfl
  · obtain ⟨a, rfl, hb, k⟩ := h
    refine ⟨_, pss_one (ps_ret (pe_op op_mul (pv 0) (pv 0))), ?_⟩
    exact ⟨_, rfl, _, rfl, _, _, rfl, rfl, .inl hb, k⟩
/-! ### pair_of -/
def spPair (K : PySem.W.Frag) : Sp := fun vs H Q _ => ∃ (a b : Addr) (s t : NM.S), vs = [.ref a, .ref b] ∧ SpAt K H a s ∧ SpAt K H b t ∧ FitS s ∧ FitS t ∧ ∀ q, H q = none → Q (.ref q) (upd H q (.tup [.int (NM.pr s t).d, .int (NM.pr s t).i, .int (NM.pr s t).j]))
theorem scPair : FnScope ["spot", "other", "squared"] ["spot", "other"] (defScope sPair) := ⟨rfl, rfl, rfl, by decide +kernel, rfl, by decide +kernel, by decide +kernel⟩
theorem ok_pair {f fq : Addr} {fd fdq : FuncData} (D : Df K mg "pair_of" sPair ["spot", "other"] f fd) (Dq : Df K mg "square" sSq ["number"] fq fdq) (Bx : mg "max" = none) (Bn : mg "min" = none) : FnOk P w K mg base CX0 2 f fd ["spot", "other"] (spPair K) := by
  have Gq : FnOk P w K mg base CX0 1 fq fdq ["number"] spSq := ok_sq Dq
  refine D.F.ok scPair (fun vs H Q E h => ?_) (fun cdv A outer s H vs Q E hr h => ?_)
  · obtain ⟨a, b, s, t, rfl, _⟩ := h
    rfl
  · obtain ⟨a, b, s1, t1, rfl, ha, hb, fs, ft, k⟩ := h
    refine ⟨_, pss_cons (ps_set (i := 2) scPair.nd rfl (Or.inl rfl) (pe_op op_add
        (pe_call Gq hr rfl Dq.g Dq.F.kp Dq.b .nil pass0 (pa_cons (pe_op op_sub (pe_ix ix_tup (pv 0) pe_int (fun _ _ => rfl)) (pe_ix ix_tup (pv 1) pe_int (fun _ _ => rfl))) pa_nil))
        (pe_call Gq hr rfl Dq.g Dq.F.kp Dq.b .nil pass0 (pa_cons (pe_op op_sub (pe_ix ix_tup (pv 0) pe_int (fun _ _ => rfl)) (pe_ix ix_tup (pv 1) pe_int (fun _ _ => rfl))) pa_nil))))
      (pss_one (ps_ret (pe_tup (pa_cons (pv 2) (pa_cons (pe_callB (call_min2 rfl) (by rfl) Bn boot_min (pa_cons (pe_ix ix_tup (pv 0) pe_int (fun _ _ => rfl)) (pa_cons (pe_ix ix_tup (pv 1) pe_int (fun _ _ => rfl)) pa_nil)))
        (pa_cons (pe_callB (call_max2 rfl) (by rfl) Bx boot_max (pa_cons (pe_ix ix_tup (pv 0) pe_int (fun _ _ => rfl)) (pa_cons (pe_ix ix_tup (pv 1) pe_int (fun _ _ => rfl)) pa_nil))) pa_nil)))))), ?_⟩
    unfold FitS at fs ft
    refine ⟨_, rfl, a, _, _, _, rfl, rfl, ha, rfl, _, rfl, b, _, _, _, rfl, rfl, hb, rfl, _, _, rfl, rfl, _, rfl, ⟨by omega, by omega⟩, ?_⟩
    refine ⟨_, rfl, a, _, _, _, rfl, rfl, ha, rfl, _, rfl, b, _, _, _, rfl, rfl, hb, rfl, _, _, rfl, rfl, _, rfl, ⟨by omega, by omega⟩, ?_⟩
    refine ⟨_, _, rfl, rfl, _, rfl, _, rfl, a, _, _, _, rfl, rfl, ha, rfl, _, rfl, b, _, _, _, rfl, rfl, hb, rfl, _, _, rfl, ?_⟩
    refine ⟨_, rfl, a, _, _, _, rfl, rfl, ha, rfl, _, rfl, b, _, _, _, rfl, rfl, hb, rfl, _, _, rfl, ?_⟩
    exact ⟨(by show 3 ≤ sizeLine; decide), k⟩
end
end Ex

namespace Ex
open PySem PySem.Spec PyProof.Rows L2
theorem SpAt.sameT {K : PySem.W.Frag} {H H' : Hp} {a : Addr} {v : NM.S} (e : Lm.SameT H H') (h : SpAt K H a v) : SpAt K H' a v := e.tup h
theorem SpAt.same {K : PySem.W.Frag} {H H' : Hp} {a : Addr} {v : NM.S} (e : Same H H') (h : SpAt K H a v) : SpAt K H' a v := same_tup e h
def KsAt (K : PySem.W.Frag) (H : Hp) (ks : List SZ) : Prop := ∀ z ∈ ks, SpAt K H z.1 z.2
theorem bs_spec {g : Nat → Bool} {n : Nat} (mono : ∀ i j, i < j → j < n → g j = true → g i = true) : ∀ (f l m : Nat), m - l ≤ f → l ≤ m → m ≤ n → (∀ i, i < l → g i = true) → (∀ i, m ≤ i → i < n → g i = false) →
    Lm.bs g l m ≤ n ∧ (∀ i, i < Lm.bs g l m → g i = true) ∧ (∀ i, Lm.bs g l m ≤ i → i < n → g i = false) := by
  intro f
  induction f with
  | zero =>
    intro l m h1 h2 h3 lo hi
    have : l = m := by omega
    subst this
    rw [Lm.bs_stop (Nat.lt_irrefl _)]
    exact ⟨h3, lo, hi⟩
  | succ f ih =>
    intro l m h1 h2 h3 lo hi
    by_cases c : l < m
    · by_cases d : g ((l + m) / 2) = true
      · rw [Lm.bs_up c d]
        refine ih _ _ (by omega) (by omega) h3 (fun i hi' => ?_) hi
        by_cases e : i = (l + m) / 2
        · rw [e]; exact d
        · exact mono i ((l + m) / 2) (by omega) (by omega) d
      · rw [Lm.bs_down c d]
        refine ih _ _ (by omega) (by omega) (by omega) lo (fun i h4 h5 => ?_)
        cases e : g i with
        | false => rfl
        | true =>
          exfalso
          by_cases e2 : i = (l + m) / 2
          · rw [e2] at e; exact d e
          · exact d (mono ((l + m) / 2) i (by omega) h5 e)
    · have : l = m := by omega
      subst this
      rw [Lm.bs_stop c]
      exact ⟨h3, lo, hi⟩
def lef (l : List NM.S) (s : NM.S) (i : Nat) : Bool := match l[i]? with
  | some z => decide (NM.lts z s)
  | none => false
theorem lef_cut {l : List NM.S} {s : NM.S} (pw : l.Pairwise NM.lts) : NM.Cut l s (Lm.bs (lef l s) 0 l.length) := by
  have at_ : ∀ {i : Nat} {z : NM.S}, l[i]? = some z → lef l s i = decide (NM.lts z s) := fun {i z} e => by unfold lef; rw [e]
  have mono : ∀ i j, i < j → j < l.length → lef l s j = true → lef l s i = true := fun i j h1 h2 h3 => by
    rw [at_ (List.getElem?_eq_getElem h2)] at h3
    rw [at_ (List.getElem?_eq_getElem (Nat.lt_trans h1 h2))]
    exact decide_eq_true (NM.lts_trans (List.pairwise_iff_getElem.mp pw i j (Nat.lt_trans h1 h2) h2 h1) (of_decide_eq_true h3))
  obtain ⟨a, b, c⟩ := bs_spec mono l.length 0 l.length (by omega) (by omega) (Nat.le_refl _) (fun i h => by omega) (fun i h h2 => by omega)
  refine ⟨a, fun i z h e => ?_, fun i z h e => ?_⟩
  · have := b i h
    rw [at_ e] at this
    exact of_decide_eq_true this
  · have := c i h (List.getElem?_eq_some_iff.mp e).1
    rw [at_ e] at this
    exact of_decide_eq_false this
section
variable {P : Program} {w : World} {K : PySem.W.Frag} {mg : Str → Option Value} {base : Heap}
/-! ### how_many_left -/
def qualL : Str := (("how_many_left" : Str) ++ ".<locals>.") ++ "<lambda>"
def posL : Pos := match defBody sLeft with
  | [.Return (some (.Call _ [_, .Lambda _ _ _ p] _ _)) _] => p
  | _ => ⟨0, 0, 0, 0⟩
def spLeft (K : PySem.W.Frag) (Pl : Addr) : Sp := fun vs H Q _ => ∃ (c a : Addr) (ks : List SZ) (q : NM.S), vs = [.ref c, .ref a] ∧ SqL K H c (rfs ks) ∧ KsAt K H ks ∧ SpAt K H a q ∧ (ks.map (·.2)).Pairwise NM.lts ∧ Lm.Tab Pl posL qualL H ∧
  ∀ (H' : Hp) (r : Nat), Lm.SameT H H' → Lm.Tab Pl posL qualL H' → NM.Cut (ks.map (·.2)) q r → Q (.int (r : Int)) H'
theorem scLeft : FnScope ["kept", "spot"] ["kept", "spot"] (defScope sLeft) := ⟨rfl, rfl, rfl, by decide +kernel, rfl, by decide +kernel, by decide +kernel⟩
theorem ok_left {f fh c0 Pl : Addr} {fd fdh : FuncData} (D : Df K mg "how_many_left" sLeft ["kept", "spot"] f fd) (hc0 : fd.code = .ref c0) (hPl : PySem.W.CodeHd base c0 Pl) (bm : Lm.BMain mg base) (Dh : Df K mg "how_many_first" sFirst ["things", "is_ahead"] fh fdh) (hlen : mg "len" = none) :
    FnOk P w K mg base CX0 3 f fd ["kept", "spot"] (spLeft K Pl) := by
  have Gh : FnOk P w K mg base CX0 2 fh fdh ["things", "is_ahead"] (spFirst P w K mg base 1) := ok_first 1 Dh hlen
  refine Lm.okC D.F hc0 scLeft (fun vs H Q E h => ?_) (fun A outer s H vs Q E hr h => ?_)
  · obtain ⟨c, a, ks, q, rfl, _⟩ := h
    rfl
  · obtain ⟨c, a, ks, q, rfl, hS, hk, ha, pw, tb, k⟩ := h
    refine ⟨_, pss_one (ps_ret (Lm.pe_callC "spot" 1 Gh hr rfl Dh.g Dh.F.kp Dh.b (pa_cons (pv 0) (pa_cons (Lm.pe_lam rfl hPl bm rfl (by show ∀ y : Str × NameKind, y ∈ _ → y.2 = NameKind.free → List.lookup y.1 (defScope sLeft).names = some .cell ∨ List.lookup y.1 (defScope sLeft).names = some .free; decide +kernel)) pa_nil)))), ?_⟩
    refine ⟨_, rfl, tb, fun H1 f1 c1 pm ctv sT tb1 n1 hf hc1 ho hcl => ⟨.ref a, rfl, fun C cc o u ec Cc Co hd rv fc => ?_⟩⟩
    have C0 : ∀ b o', C b = some o' → H1 b = none := fun b o' e => by
      by_cases z : b = cc
      · rw [z]; exact fc
      · rw [Co b z] at e; cases e
    have sm : Same H1 (Lm.tr C H1) := Lm.same_tr C0
    have eu : Lm.ut C (Lm.tr C H1) = H1 := Lm.ut_tr C0
    refine ⟨c, f1, rfs ks, lef (ks.map (·.2)) q, rfl, sm.seq (sT.seq hS), fun i x hx => ?_, fun b o' e => Lm.tr_in e, ?_⟩
    · obtain ⟨z, hz, rfl⟩ := rfs_at hx
      have pz := SpAt.sameT sT (hk z (List.mem_of_getElem? hz))
      have hz2 : (ks.map (·.2))[i]? = some z.2 := by rw [List.getElem?_map, hz]; rfl
      have ecl : ∀ cells : List (Str × Addr), cells.lookup ("spot" : Str) = some cc → cloFrom cells (match defBody sLeft with | [.Return (some (.Call _ [_, .Lambda _ _ sc _] _ _)) _] => sc.names | _ => []) [] = [(("spot" : Str), cc)] := fun cells e => by
        show [(("spot" : Str), (cells.lookup ("spot" : Str)).getD 0)] = _
        rw [e]
        rfl
      have ecl := ecl _ ec
      refine Lm.cal_lam (C := C) (x0 := "other") (rn := ["spot"]) (rest := [some (.ref a)]) (sm _ _ hf) (sm _ _ hc1) (fun b o' e => Lm.tr_in e) ?_ (fun u => rfl) (fun A' outer' s' hr' => ⟨_, pe_cmpR (op_ltT hr'.units0) (pv 0) (pv 1) (nomark _), ?_⟩)
      · exact ecl ▸ Lm.lamOk1 rfl rfl rfl (by decide +kernel) rfl rfl (by decide +kernel) Cc hd rv
      · rw [eu]
        refine ⟨_, rfl, _, rfl, z.1, a, [z.2.x, z.2.y, z.2.i], [q.x, q.y, q.i], rfl, rfl, pz, ha.sameT sT, fun _ => ⟨?_, rfl⟩⟩
        unfold lef
        rw [hz2, lexS]
    · rw [eu, rfs_len]
      have cut := lef_cut (s := q) pw
      rw [List.length_map] at cut
      exact k H1 _ sT tb1 cut
end
end Ex

namespace Ex
open PySem PySem.Spec PyProof.Rows L2
theorem while_take {α : Type} {p : α → Bool} : ∀ {l : List α} {j : Nat}, (∀ z ∈ l.take j, p z = true) → (∀ z, l[j]? = some z → p z = false) → l.take j = l.takeWhile p
  | [], j, _, _ => by simp
  | a :: l, 0, _, h2 => by
    rw [List.takeWhile_cons, if_neg (by rw [h2 a rfl]; exact Bool.false_ne_true)]
    rfl
  | a :: l, j + 1, h1, h2 => by
    rw [List.take_succ_cons] at h1 ⊢
    rw [List.takeWhile_cons, if_pos (h1 a (List.mem_cons_self ..)), while_take (fun z hz => h1 z (List.mem_cons_of_mem _ hz)) (fun z hz => h2 z hz)]
def nearZ (ks : List SZ) (r : Nat) (s : NM.S) (m : Int) : List SZ := (ks.drop r).takeWhile (fun z => NM.across s m z.2) ++ (ks.take r).reverse.takeWhile (fun z => NM.across s m z.2)
theorem nearZ_map (ks : List SZ) (r : Nat) (s : NM.S) (m : Int) : (nearZ ks r s m).map (·.2) = NM.near (ks.map (·.2)) r s m := by
  have tw : ∀ l : List SZ, (l.takeWhile (fun z => NM.across s m z.2)).map (·.2) = (l.map (·.2)).takeWhile (NM.across s m) := fun l => by
    induction l with
    | nil => rfl
    | cons a l ih =>
      rw [List.takeWhile_cons, List.map_cons, List.takeWhile_cons]
      by_cases c : NM.across s m a.2 = true
      · rw [if_pos c, if_pos c, List.map_cons, ih]
      · rw [if_neg c, if_neg c]
        rfl
  unfold nearZ NM.near
  rw [List.map_append, tw, tw, List.map_drop, List.map_reverse, List.map_take]
theorem nearZ_mem {ks : List SZ} {r : Nat} {s : NM.S} {m : Int} {z : SZ} (h : z ∈ nearZ ks r s m) : z ∈ ks := by
  unfold nearZ at h
  rcases List.mem_append.mp h with h | h
  · exact List.mem_of_mem_drop ((List.takeWhile_sublist _).subset h)
  · exact List.mem_of_mem_take (List.mem_reverse.mp ((List.takeWhile_sublist _).subset h))
theorem nearZ_len (ks : List SZ) (r : Nat) (s : NM.S) (m : Int) : (nearZ ks r s m).length ≤ ks.length := by
  unfold nearZ
  have h1 := (List.takeWhile_sublist (l := ks.drop r) (fun z => NM.across s m z.2)).length_le
  have h2 := (List.takeWhile_sublist (l := (ks.take r).reverse) (fun z => NM.across s m z.2)).length_le
  rw [List.length_append]
  rw [List.length_drop] at h1
  rw [List.length_reverse, List.length_take] at h2
  omega
section
variable {P : Program} {w : World} {K : PySem.W.Frag} {mg : Str → Option Value} {base : Heap}
/-! ### spots_near -/
def spNears (K : PySem.W.Frag) : Sp := fun vs H Q _ => ∃ (c a : Addr) (ks : List SZ) (r : Nat) (q : NM.S) (m : Int), vs = [.ref c, .int (r : Int), .ref a, .int m] ∧ SqL K H c (rfs ks) ∧ KsAt K H ks ∧ (∀ z ∈ ks, FitS z.2) ∧ SpAt K H a q ∧ FitS q ∧ r ≤ ks.length ∧ ks.length ≤ 4096 ∧
  ∀ (H' : Hp) (p : Addr), Same H H' → H p = none → H' p = some (.lst (rfs (nearZ ks r q m))) → Q (.ref p) H'
theorem scNears : FnScope ["kept", "left", "spot", "most", "near", "place"] ["kept", "left", "spot", "most"] (defScope sNears) := ⟨rfl, rfl, rfl, by decide +kernel, rfl, by decide +kernel, by decide +kernel⟩
theorem ok_nears {f fq : Addr} {fd fdq : FuncData} (D : Df K mg "spots_near" sNears ["kept", "left", "spot", "most"] f fd) (Dq : Df K mg "square" sSq ["number"] fq fdq) (hlen : mg "len" = none) : FnOk P w K mg base CX0 2 f fd ["kept", "left", "spot", "most"] (spNears K) := by
  have Gq : FnOk P w K mg base CX0 1 fq fdq ["number"] spSq := ok_sq Dq
  refine D.F.ok scNears (fun vs H Q E h => ?_) (fun cdv A outer s H vs Q E hr h => ?_)
  · obtain ⟨c, a, ks, r, q, m, rfl, _⟩ := h
    rfl
  · obtain ⟨c, a, ks, r, q, m, rfl, hS, hk, fk, ha, fq, hr0, hl, k⟩ := h
    have s4 : (8192 : Nat) < sizeLine := by rw [sizeLine_eq]; decide
    refine ⟨_, pss_cons (ps_set (i := 4) scNears.nd rfl (Or.inl rfl) (pe_lst pa_nil))
      (pss_cons (ps_set (i := 5) scNears.nd rfl (Or.inl rfl) (pv 1))
      (pss_cons (ps_while PassesOwn.never (PW.pt (pw_and (pt_cmpR op_lt (pv 5) (pe_callB call_len_seq (by rfl) hlen PySem.boot_len (pa_cons (pv 0) pa_nil)) (nomark _)) (pw_and1 (pt_cmpR op_le (pe_call Gq hr rfl Dq.g Dq.F.kp Dq.b .nil pass0 (pa_cons (pe_op op_sub (pe_ix ix_tup (pe_ix ix_list (pv 0) (pv 5) (fun _ _ => rfl)) pe_int (fun _ _ => rfl)) (pe_ix ix_tup (pv 2) pe_int (fun _ _ => rfl))) pa_nil)) (pv 3) (nomark _)))))
        (pss_cons (ps_expr (pe_bm PySem.F.plainAttrs_list PySem.F.slot_list_append PySem.F.type_list_append mt_append (pv 4) (pa_cons (pe_ix ix_list (pv 0) (pv 5) (fun _ _ => rfl)) pa_nil)))
        (pss_one (ps_set (i := 5) scNears.nd rfl (Or.inl rfl) (pe_op op_add (pv 5) pe_int)))))
      (pss_cons (ps_set (i := 5) scNears.nd rfl (Or.inl rfl) (pe_op op_sub (pv 1) pe_int))
      (pss_cons (ps_while PassesOwn.never (PW.pt (pw_and (pt_cmpR op_ge (pv 5) pe_int (nomark _)) (pw_and1 (pt_cmpR op_le (pe_call Gq hr rfl Dq.g Dq.F.kp Dq.b .nil pass0 (pa_cons (pe_op op_sub (pe_ix ix_tup (pe_ix ix_list (pv 0) (pv 5) (fun _ _ => rfl)) pe_int (fun _ _ => rfl)) (pe_ix ix_tup (pv 2) pe_int (fun _ _ => rfl))) pa_nil)) (pv 3) (nomark _)))))
        (pss_cons (ps_expr (pe_bm PySem.F.plainAttrs_list PySem.F.slot_list_append PySem.F.type_list_append mt_append (pv 4) (pa_cons (pe_ix ix_list (pv 0) (pv 5) (fun _ _ => rfl)) pa_nil)))
        (pss_one (ps_set (i := 5) scNears.nd rfl (Or.inl rfl) (pe_op op_sub (pv 5) pe_int)))))
      (pss_one (ps_ret (pv 4))))))), ?_⟩
    refine ⟨Nat.zero_le _, fun p0 hp0 => ?_⟩
    have s0 : Same H (upd H p0 (.lst [])) := same_upd hp0
    have bound : ∀ z ∈ ks, -(2 ^ 64) < z.2.x - q.x ∧ z.2.x - q.x < 2 ^ 64 := fun z hz => by
      have := fk z hz
      unfold FitS at this fq
      constructor <;> omega
    refine ⟨_, rfl, fun n σ H1 => ∃ j : Nat, n = ks.length - (r + j) ∧ σ = [some (.ref c), some (.int (r : Int)), some (.ref a), some (.int m), some (.ref p0), some (.int ((r + j : Nat) : Int))] ∧ Same H H1 ∧ H1 p0 = some (.lst (rfs ((ks.drop r).take j))) ∧ r + j ≤ ks.length ∧ (∀ z ∈ (ks.drop r).take j, NM.across q m z.2 = true),
      ⟨ks.length - r, 0, rfl, rfl, s0, upd_same, hr0, (fun z hz => by simp at hz)⟩, ?_⟩
    rintro n σ H1 ⟨j, rfl, rfl, s1, h1, hj, al⟩
    -- behind the first loop
    have fin : (∀ z, (ks.drop r)[j]? = some z → NM.across q m z.2 = false) → tSeq (tAsg (tOp (rI0 fun i j => V.int (i - j)) (tVar 1) (tC (.int 1))) (gName 5))
        (tSeq (tWhile (tAnd (tTest (tOp (rI0 fun i j => V.bl (decide (j ≤ i))) (tVar 5) (tC (.int 0)))) (tTest (tOp (rI0 fun i j => V.bl (decide (i ≤ j))) (tCall spSq [] E0 (tCons (tOp (rI0 fun i j => V.int (i - j)) (tOp (rIxT K) (tOp (rIxL K) (tVar 0) (tVar 5)) (tC (.int 0))) (tOp (rIxT K) (tVar 2) (tC (.int 0)))) tNil)) (tVar 3))))
          (tSeq (tDrop (tBM K "list" rAppend (tVar 4) (tCons (tOp (rIxL K) (tVar 0) (tVar 5)) tNil))) (tAsg (tOp (rI0 fun i j => V.int (i - j)) (tVar 5) (tC (.int 1))) (gName 5))))
        (tRet (tVar 4))) { nx := fun _ H' => Q .non H', rt := Q } [some (.ref c), some (.int (r : Int)), some (.ref a), some (.int m), some (.ref p0), some (.int ((r + j : Nat) : Int))] H1 := fun stop => by
      have e1 := while_take al stop
      refine ⟨_, rfl, _, _, rfl, rfl, ?_⟩
      refine ⟨fun n σ H2 => ∃ j2 : Nat, n = r - j2 ∧ σ = [some (.ref c), some (.int (r : Int)), some (.ref a), some (.int m), some (.ref p0), some (.int ((r : Int) - 1 - (j2 : Int)))] ∧ Same H H2 ∧ H2 p0 = some (.lst (rfs ((ks.drop r).take j ++ (ks.take r).reverse.take j2))) ∧ j2 ≤ r ∧ (∀ z ∈ (ks.take r).reverse.take j2, NM.across q m z.2 = true),
        ⟨r, 0, rfl, (by rw [show (r : Int) - 1 - ((0 : Nat) : Int) = (r : Int) - 1 by omega]; rfl), s1, (by rw [List.take_zero, List.append_nil]; exact h1), Nat.zero_le _, (fun z hz => by simp at hz)⟩, ?_⟩
      rintro n σ H2 ⟨j2, rfl, rfl, s2, h2, hj2, al2⟩
      have lr : (ks.take r).reverse.length = r := by rw [List.length_reverse, List.length_take]; omega
      have done : (∀ z, (ks.take r).reverse[j2]? = some z → NM.across q m z.2 = false) → tRet (tVar 4) { nx := fun _ H' => Q .non H', rt := Q } [some (.ref c), some (.int (r : Int)), some (.ref a), some (.int m), some (.ref p0), some (.int ((r : Int) - 1 - (j2 : Int)))] H2 := fun stop2 => by
        rw [e1, while_take al2 stop2] at h2
        exact ⟨_, rfl, k H2 p0 s2 hp0 h2⟩
      refine ⟨_, rfl, _, _, rfl, rfl, _, rfl, ?_⟩
      refine ite2 (fun c1 => ?_) (fun c1 => ?_)
      · have c1 : j2 < r := by have := of_decide_eq_true c1; omega
        have ix : ((r : Int) - 1 - (j2 : Int)) = ((r - 1 - j2 : Nat) : Int) := by omega
        have hz : (ks.take r).reverse[j2]? = ks[r - 1 - j2]? := by
          rw [List.getElem?_reverse (by rw [List.length_take]; omega), List.length_take, List.getElem?_take_of_lt (by omega)]
          congr 1
          omega
        have hlt : r - 1 - j2 < ks.length := by omega
        have hg : ks[r - 1 - j2]? = some ks[r - 1 - j2] := List.getElem?_eq_getElem hlt
        generalize ks[r - 1 - j2] = z at hg
        have zm := List.mem_of_getElem? hg
        have at1 : atI (rfs ks) ((r : Int) - 1 - (j2 : Int)) = some (.ref z.1) := by rw [ix]; exact at_of (j := r - 1 - j2) rfl (rfs_get hg)
        have tz := SpAt.same s2 (hk z zm)
        have ta := SpAt.same s2 ha
        refine ⟨_, rfl, _, rfl, c, _, _, _, rfl, rfl, s2.seq hS, at1, z.1, _, _, _, rfl, rfl, tz, rfl, _, rfl, a, _, _, _, rfl, rfl, ta, rfl, _, _, rfl, rfl, _, rfl, bound z zm, _, rfl, _, _, rfl, rfl, _, rfl, ?_⟩
        refine ite2 (fun c2 => ?_) (fun c2 => ?_)
        · have c2 : NM.across q m z.2 = true := c2
          refine ⟨fun σ3 H3 => ∃ m', m' < r - j2 ∧ ∃ j2 : Nat, m' = r - j2 ∧ σ3 = [some (.ref c), some (.int (r : Int)), some (.ref a), some (.int m), some (.ref p0), some (.int ((r : Int) - 1 - (j2 : Int)))] ∧ Same H H3 ∧ H3 p0 = some (.lst (rfs ((ks.drop r).take j ++ (ks.take r).reverse.take j2))) ∧ j2 ≤ r ∧ (∀ z ∈ (ks.take r).reverse.take j2, NM.across q m z.2 = true), fun _ _ z => z, ?_⟩
          refine ⟨_, rfl, .inl ⟨rfl, _, SqL.of h2⟩, _, rfl, _, rfl, c, _, _, _, rfl, rfl, s2.seq hS, at1, p0, _, _, rfl, rfl, h2, ?_, ?_⟩
          · rw [rfs_len, List.length_append, List.length_take, List.length_take, List.length_drop, lr]
            omega
          · have tk : (ks.take r).reverse.take (j2 + 1) = (ks.take r).reverse.take j2 ++ [z] := by rw [List.take_add_one, hz, hg]; rfl
            refine ⟨_, rfl, _, _, rfl, rfl, r - (j2 + 1), by omega, j2 + 1, rfl, ?_, fun b o e => ?_, ?_, by omega, ?_⟩
            · rw [show (r : Int) - 1 - ((j2 + 1 : Nat) : Int) = (r : Int) - 1 - (j2 : Int) - 1 by omega]
              rfl
            · rw [upd_ne (ne_of_none e hp0)]
              exact s2 b o e
            · rw [upd_same, tk, ← List.append_assoc, rfs_app ((ks.drop r).take j ++ (ks.take r).reverse.take j2) [z]]
              rfl
            · rw [tk]
              intro y hy
              rcases List.mem_append.mp hy with hy | hy
              · exact al2 y hy
              · rw [List.mem_singleton.mp hy]
                exact c2
        · have c2 : NM.across q m z.2 = false := by
            cases e : NM.across q m z.2 with
            | false => rfl
            | true => exact absurd e c2
          exact done fun y hy => by
            rw [hz, hg] at hy
            cases hy
            exact c2
      · have c1 : ¬ j2 < r := fun x => c1 (decide_eq_true (by omega))
        exact iteF (done fun y hy => by
          rw [List.getElem?_eq_none (by rw [lr]; omega)] at hy
          cases hy)
    refine ⟨_, rfl, _, rfl, c, _, rfl, .inl (s1.seq hS), _, _, rfl, rfl, _, rfl, ?_⟩
    rw [rfs_len]
    refine ite2 (fun c1 => ?_) (fun c1 => ?_)
    · have c1 : r + j < ks.length := by have := of_decide_eq_true c1; omega
      have hz : (ks.drop r)[j]? = ks[r + j]? := List.getElem?_drop
      have hg : ks[r + j]? = some ks[r + j] := List.getElem?_eq_getElem c1
      generalize ks[r + j] = z at hg
      have zm := List.mem_of_getElem? hg
      have at1 : atI (rfs ks) ((r + j : Nat) : Int) = some (.ref z.1) := at_of (j := r + j) rfl (rfs_get hg)
      have tz := SpAt.same s1 (hk z zm)
      have ta := SpAt.same s1 ha
      refine ⟨_, rfl, _, rfl, c, _, _, _, rfl, rfl, s1.seq hS, at1, z.1, _, _, _, rfl, rfl, tz, rfl, _, rfl, a, _, _, _, rfl, rfl, ta, rfl, _, _, rfl, rfl, _, rfl, bound z zm, _, rfl, _, _, rfl, rfl, _, rfl, ?_⟩
      refine ite2 (fun c2 => ?_) (fun c2 => ?_)
      · have c2 : NM.across q m z.2 = true := c2
        refine ⟨fun σ3 H3 => ∃ m', m' < ks.length - (r + j) ∧ ∃ j : Nat, m' = ks.length - (r + j) ∧ σ3 = [some (.ref c), some (.int (r : Int)), some (.ref a), some (.int m), some (.ref p0), some (.int ((r + j : Nat) : Int))] ∧ Same H H3 ∧ H3 p0 = some (.lst (rfs ((ks.drop r).take j))) ∧ r + j ≤ ks.length ∧ (∀ z ∈ (ks.drop r).take j, NM.across q m z.2 = true), fun _ _ z => z, ?_⟩
        refine ⟨_, rfl, .inl ⟨rfl, _, SqL.of h1⟩, _, rfl, _, rfl, c, _, _, _, rfl, rfl, s1.seq hS, at1, p0, _, _, rfl, rfl, h1, ?_, ?_⟩
        · rw [rfs_len, List.length_take, List.length_drop]
          omega
        · have tk : (ks.drop r).take (j + 1) = (ks.drop r).take j ++ [z] := by rw [List.take_add_one, hz, hg]; rfl
          refine ⟨_, rfl, _, _, rfl, rfl, ks.length - (r + (j + 1)), by omega, j + 1, rfl, ?_, fun b o e => ?_, ?_, by omega, ?_⟩
          · rw [show ((r + (j + 1) : Nat) : Int) = ((r + j : Nat) : Int) + 1 by omega]
            rfl
          · rw [upd_ne (ne_of_none e hp0)]
            exact s1 b o e
          · rw [upd_same, tk, rfs_app]
            rfl
          · rw [tk]
            intro y hy
            rcases List.mem_append.mp hy with hy | hy
            · exact al y hy
            · rw [List.mem_singleton.mp hy]
              exact c2
      · have c2 : NM.across q m z.2 = false := by
          cases e : NM.across q m z.2 with
          | false => rfl
          | true => exact absurd e c2
        exact fin fun y hy => by
          rw [hz, hg] at hy
          cases hy
          exact c2
    · have c1 : ¬ r + j < ks.length := fun x => c1 (decide_eq_true (by omega))
      exact iteF (fin fun y hy => by
        rw [List.getElem?_eq_none (by rw [List.length_drop]; omega)] at hy
        cases hy)
end
end Ex

namespace Ex
open PySem PySem.Spec PyProof.Rows L2
/-! ### the first place of a point -/
def fix (p : Sw12.P) : List Sw12.P → Nat
  | [] => 0
  | a :: l => if a = p then 0 else fix p l + 1
theorem fix_le {p : Sw12.P} : ∀ {l : List Sw12.P} {k : Nat}, l[k]? = some p → fix p l ≤ k
  | [], k, h => by simp at h
  | a :: l, 0, h => by
    have e : a = p := Option.some.inj h
    unfold fix
    rw [if_pos e]
    exact Nat.le_refl _
  | a :: l, k + 1, h => by
    unfold fix
    split
    · exact Nat.zero_le _
    · have := fix_le (l := l) (k := k) h
      omega
theorem fix_at {p : Sw12.P} : ∀ {l : List Sw12.P}, p ∈ l → l[fix p l]? = some p
  | [], h => by simp at h
  | a :: l, h => by
    unfold fix
    by_cases e : a = p
    · rw [if_pos e, e]
      rfl
    · rw [if_neg e]
      rcases List.mem_cons.mp h with h | h
      · exact absurd h.symm e
      · exact fix_at (l := l) h
theorem mem_take {l : List Sw12.P} {p : Sw12.P} {i : Nat} : p ∈ l.take i ↔ ∃ k, k < i ∧ l[k]? = some p := by
  constructor
  · intro h
    obtain ⟨k, hk⟩ := List.getElem?_of_mem h
    have : k < i := by
      have := (List.getElem?_eq_some_iff.mp hk).1
      rw [List.length_take] at this
      omega
    rw [List.getElem?_take_of_lt this] at hk
    exact ⟨k, this, hk⟩
  · rintro ⟨k, h1, h2⟩
    have : (l.take i)[k]? = some p := by rw [List.getElem?_take_of_lt h1]; exact h2
    exact List.mem_of_getElem? this
def kk (p : Sw12.P) : List L2.Key := [Sum.inl p.x, Sum.inl p.y]
theorem kk_inj {p q : Sw12.P} (h : kk p = kk q) : p = q := by
  unfold kk at h
  simp only [List.cons.injEq, Sum.inl.injEq, and_true] at h
  exact HM.P_ext h.1 h.2
def fs (l : List Sw12.P) (m : Nat) : Nat := fix (l.getD m ⟨0, 0⟩) l
theorem fs_at {l : List Sw12.P} {m : Nat} {p : Sw12.P} (h : l[m]? = some p) : fs l m = fix p l := by
  unfold fs
  rw [List.getD_eq_getElem?_getD, h]
  rfl
theorem fs_ok (l : List Sw12.P) : ∀ m, m < l.length → fs l m ≤ m ∧ l[fs l m]? = l[m]? ∧ ∀ k, k < m → l[k]? = l[m]? → fs l m ≤ k := fun m hm => by
  have e : l[m]? = some l[m] := List.getElem?_eq_getElem hm
  rw [fs_at e]
  refine ⟨fix_le e, by rw [fix_at (List.getElem_mem hm), e], fun k _ h => fix_le (by rw [h, e])⟩
section
variable {P : Program} {w : World} {K : PySem.W.Frag} {mg : Str → Option Value} {base : Heap}
/-! ### equal_pairs -/
def spEqual (K : PySem.W.Frag) : Sp := fun vs H Q _ => ∃ (a : Addr) (ys : List Y), vs = [.ref a] ∧ SqL K H a (refs ys) ∧ (∀ y ∈ ys, H y.1 = some (.tup [.int y.2.x, .int y.2.y])) ∧ ys.length ≤ 4096 ∧
  ∀ (H' : Hp) (p : Addr) (ts : List (Addr × NM.T)), Same H H' → H p = none → H' p = some (.lst (rfs ts)) → (∀ t ∈ ts, H' t.1 = some (.tup [.int t.2.d, .int t.2.i, .int t.2.j])) → (∀ t, t ∈ ts.map (·.2) ↔ ∃ m, m < ys.length ∧ fs (ys.map (·.2)) m < m ∧ t = ⟨0, (fs (ys.map (·.2)) m : Int), (m : Int)⟩) → Q (.ref p) H'
theorem scEqual : FnScope ["points", "first_places", "pairs", "place", "first"] ["points"] (defScope sEqual) := ⟨rfl, rfl, rfl, by decide +kernel, rfl, by decide +kernel, by decide +kernel⟩
theorem ok_equal {f : Addr} {fd : FuncData} (D : Df K mg "equal_pairs" sEqual ["points"] f fd) (hR : mg "range" = none) (hlen : mg "len" = none) : FnOk P w K mg base CX0 1 f fd ["points"] (spEqual K) := by
  refine D.F.ok scEqual (fun vs H Q E h => ?_) (fun cdv A outer s H vs Q E hr h => ?_)
  · obtain ⟨a, ys, rfl, _⟩ := h
    rfl
  · obtain ⟨a, ys, rfl, hS, hy, hl, k⟩ := h
    have s4 : (8192 : Nat) < sizeLine := by rw [sizeLine_eq]; decide
    refine ⟨_, pss_cons (ps_set (i := 1) scEqual.nd rfl (Or.inl rfl) pe_dnewT)
      (pss_cons (ps_set (i := 2) scEqual.nd rfl (Or.inl rfl) (pe_lst pa_nil))
      (pss_cons (ps_for PassesOwn.never rfl (pi_range1 rfl hR (pa_cons (pe_callB call_len_seq (by rfl) hlen PySem.boot_len (pa_cons (pv 0) pa_nil)) pa_nil)) (pg_name (i := 3) scEqual.nd rfl (Or.inl rfl))
        (pss_cons (ps_set (i := 4) scEqual.nd rfl (Or.inl rfl) (pe_bm PySem.F.plainAttrs_dict PySem.F.slot_dict_setdefault PySem.F.type_dict_setdefault (Nr.mt_setDef (hu_of hr)) (pv 1) (pa_cons (pe_ix ix_list (pv 0) (pv 3) (fun _ _ => rfl)) (pa_cons (pv 3) pa_nil))))
        (pss_one (ps_if (pt_cmpR op_lt (pv 4) (pv 3) (nomark _))
          (pss_one (ps_expr (pe_bm PySem.F.plainAttrs_list PySem.F.slot_list_append PySem.F.type_list_append mt_append (pv 2) (pa_cons (pe_tup (pa_cons pe_int (pa_cons (pv 4) (pa_cons (pv 3) pa_nil)))) pa_nil)))) pss_nil))))
      (pss_one (ps_ret (pv 2))))), ?_⟩
    generalize hL : ys.map (·.2) = l at *
    have ll : l.length = ys.length := by rw [← hL, List.length_map]
    refine fun d hd => ⟨Nat.zero_le _, fun p0 hp0 => ?_⟩
    have s0 : Same H (upd H d (.dT [])) := same_upd hd
    have s1 : Same (upd H d (.dT [])) (upd (upd H d (.dT [])) p0 (.lst [])) := same_upd hp0
    have np : H p0 = none := s0.free hp0
    have ndp : d ≠ p0 := ne_of_none upd_same hp0
    refine ⟨_, rfl, a, _, rfl, .inl ((s0.trans s1).seq hS), _, rfl, by omega, by rw [refs_len]; omega, ?_⟩
    have em : ((refs ys).length : Int).toNat = ys.length := by rw [refs_len]; omega
    rw [em]
    refine for_range (n := ys.length) (fun i σ H' => ∃ (v3 v4 : Option V) (kvs : List (List L2.Key × V)) (ts : List (Addr × NM.T)), σ = [some (.ref a), some (.ref d), some (.ref p0), v3, v4] ∧ Same H H' ∧ H' d = some (.dT kvs) ∧ H' p0 = some (.lst (rfs ts)) ∧ kvs.length ≤ i ∧ ts.length ≤ i ∧
        (∀ p, valV kvs (kk p) = if p ∈ l.take i then some (.int (fix p l : Int)) else none) ∧ (∀ t ∈ ts, H' t.1 = some (.tup [.int t.2.d, .int t.2.i, .int t.2.j])) ∧ (∀ t, t ∈ ts.map (·.2) ↔ ∃ m, m < i ∧ fs l m < m ∧ t = ⟨0, (fs l m : Int), (m : Int)⟩))
      ⟨none, none, [], [], rfl, s0.trans s1, s1 _ _ upd_same, upd_same, Nat.zero_le _, Nat.zero_le _, (fun p => by simp [valV_nil]), (fun t h => nomatch h), (fun t => by constructor; (intro h; cases h); (rintro ⟨m, h, _⟩; omega))⟩ ?_ ?_
    · rintro i σ H' hi ⟨v3, v4, kvs, ts, rfl, s5, hd5, hp5, lk, lt, hv, ht, hts⟩
      have hyi : ys[i]? = some ys[i] := List.getElem?_eq_getElem hi
      generalize ys[i] = y at hyi
      have hli : l[i]? = some y.2 := by rw [← hL, List.getElem?_map, hyi]; rfl
      have ym := List.mem_of_getElem? hyi
      have ty := s5 _ _ (hy y ym)
      have at1 : atI (refs ys) (0 + (i : Int)) = some (.ref y.1) := at_of (j := i) (by omega) (by unfold refs; rw [List.getElem?_map, hyi]; rfl)
      have z0 : (0 : Int) + (i : Int) = (i : Int) := by omega
      have tki : ∀ p, p ∈ l.take (i + 1) ↔ p ∈ l.take i ∨ p = y.2 := fun p => by
        rw [AM.take_snoc hli, List.mem_append, List.mem_singleton]
      refine ⟨_, rfl, .inr (.inr (.inl ⟨rfl, .inr ⟨kvs, hd5⟩⟩)), _, rfl, _, rfl, a, _, _, _, rfl, rfl, s5.seq hS, at1, _, rfl, d, y.1, kvs, kk y.2, _, rfl, rfl, hd5, ty, (by omega), fun z hz => ?_, fun hz => ?_⟩
      · -- the point was there
        have hv0 := hv y.2
        rw [hz] at hv0
        by_cases mt : y.2 ∈ l.take i
        · rw [if_pos mt] at hv0
          have ez : z = V.int (fix y.2 l : Int) := Option.some.inj hv0
          subst ez
          obtain ⟨k0, hk0, hk1⟩ := mem_take.mp mt
          have lf : fix y.2 l < i := by have := fix_le hk1; omega
          have ef := fs_at hli
          refine ⟨_, rfl, _, rfl, _, _, rfl, rfl, _, rfl, ?_⟩
          refine ite2 (fun _ => ?_) (fun c => absurd (decide_eq_true (by omega)) c)
          refine ⟨_, rfl, .inl ⟨rfl, _, SqL.of hp5⟩, _, rfl, _, rfl, (by show 3 ≤ sizeLine; decide), fun q hq => ?_⟩
          have s6 : Same H' (upd H' q (.tup [.int 0, .int (fix y.2 l : Int), .int (0 + (i : Int))])) := same_upd hq
          refine ⟨p0, rfs ts, .ref q, rfl, rfl, s6 _ _ hp5, (by rw [rfs_len]; omega), ?_⟩
          have nqp : q ≠ p0 := (ne_of_none hp5 hq).symm
          have s7 : ∀ b o, H' b = some o → b ≠ p0 → upd (upd H' q (.tup [.int 0, .int (fix y.2 l : Int), .int (0 + (i : Int))])) p0 (.lst (rfs ts ++ [.ref q])) b = some o := fun b o e n => by
            rw [upd_ne n]
            exact s6 _ _ e
          refine ⟨_, _, kvs, ts ++ [(q, ⟨0, (fix y.2 l : Int), (i : Int)⟩)], rfl, fun b o e => s7 b o (s5 b o e) (ne_of_none e np), s7 _ _ hd5 ndp, (by rw [upd_same, rfs_app]; rfl), (by omega), (by rw [List.length_append, List.length_singleton]; omega), fun p => ?_, fun t h => ?_, fun t => ?_⟩
          · rw [hv p]
            by_cases mp : p ∈ l.take i
            · rw [if_pos mp, if_pos ((tki p).mpr (.inl mp))]
            · rw [if_neg mp, if_neg fun z => by
                rcases (tki p).mp z with z | z
                · exact mp z
                · rw [z] at mp; exact mp mt]
          · rcases List.mem_append.mp h with h | h
            · exact s7 _ _ (ht t h) fun z => by
                have := ht t h
                rw [z, hp5] at this
                cases this
            · rw [List.mem_singleton.mp h]
              show upd _ p0 _ q = _
              rw [upd_ne nqp, upd_same, z0]
          · rw [List.map_append, List.mem_append, hts t]
            constructor
            · rintro (⟨m, h1, h2, h3⟩ | h)
              · exact ⟨m, by omega, h2, h3⟩
              · have h : t = ⟨0, (fix y.2 l : Int), (i : Int)⟩ := by simpa using h
                exact ⟨i, by omega, by rw [ef]; exact lf, by rw [ef]; exact h⟩
            · rintro ⟨m, h1, h2, h3⟩
              rcases Nat.lt_or_eq_of_le (Nat.le_of_lt_succ h1) with h | h
              · exact .inl ⟨m, h, h2, h3⟩
              · subst h
                rw [ef] at h3
                exact .inr (by rw [h3]; simp)
        · rw [if_neg mt] at hv0
          cases hv0
      · -- the point is new
        have hv0 := hv y.2
        rw [hz] at hv0
        have mt : ¬ y.2 ∈ l.take i := fun z => by rw [if_pos z] at hv0; cases hv0
        have ei : fix y.2 l = i := by
          have h1 := fix_le hli
          have h2 : ¬ fix y.2 l < i := fun z => mt (mem_take.mpr ⟨_, z, fix_at (List.mem_of_getElem? hli)⟩)
          omega
        have ef := fs_at hli
        refine ⟨_, rfl, _, rfl, _, _, rfl, rfl, _, rfl, ?_⟩
        refine ite2 (fun c => absurd (of_decide_eq_true c) (by omega)) (fun _ => ?_)
        have hne : ∀ b o, H' b = some o → b ≠ d → upd H' d (.dT (putK kvs (kk y.2) (.int (0 + (i : Int))))) b = some o := fun b o e n => by
          rw [upd_ne n]
          exact e
        have lp := length_putK kvs (kk y.2) (.int (0 + (i : Int)))
        refine ⟨_, _, putK kvs (kk y.2) (.int (0 + (i : Int))), ts, rfl, fun b o e => hne b o (s5 b o e) (ne_of_none e hd), upd_same, hne _ _ hp5 ndp.symm, (by omega), (by omega), fun p => ?_, fun t h => ?_, fun t => ?_⟩
        · rw [valV_put, hv p]
          by_cases ep : p = y.2
          · subst ep
            rw [if_pos rfl, if_pos ((tki _).mpr (.inr rfl)), ei, z0]
          · rw [if_neg (fun z => ep (kk_inj z))]
            by_cases mp : p ∈ l.take i
            · rw [if_pos mp, if_pos ((tki p).mpr (.inl mp))]
            · rw [if_neg mp, if_neg fun z => by
                rcases (tki p).mp z with z | z
                · exact mp z
                · exact ep z]
        · exact hne _ _ (ht t h) fun z => by
            have := ht t h
            rw [z, hd5] at this
            cases this
        · rw [hts t]
          constructor
          · rintro ⟨m, h1, h2, h3⟩
            exact ⟨m, by omega, h2, h3⟩
          · rintro ⟨m, h1, h2, h3⟩
            rcases Nat.lt_or_eq_of_le (Nat.le_of_lt_succ h1) with h | h
            · exact ⟨m, h, h2, h3⟩
            · subst h
              rw [ef, ei] at h2
              omega
    · rintro σ H' ⟨v3, v4, kvs, ts, rfl, s5, hd5, hp5, lk, lt, hv, ht, hts⟩
      exact ⟨_, rfl, k H' p0 ts s5 np hp5 ht hts⟩
end
end Ex

namespace Ex
open PySem PySem.Spec PyProof.Rows L2
/-! ### the spots of the points -/
def spot (l : List Sw12.P) (i : Nat) : NM.S := ⟨(l.getD i ⟨0, 0⟩).x, (l.getD i ⟨0, 0⟩).y, (i : Int)⟩
theorem spot_at {l : List Sw12.P} {i : Nat} {p : Sw12.P} (h : l[i]? = some p) : spot l i = ⟨p.x, p.y, (i : Int)⟩ := by
  unfold spot
  rw [List.getD_eq_getElem?_getD, h]
  rfl
def spots (l : List Sw12.P) : List NM.S := (List.range l.length).map (spot l)
theorem spots_mem {l : List Sw12.P} (s : NM.S) : s ∈ spots l ↔ ∃ (n : Nat) (p : Sw12.P), l[n]? = some p ∧ s = ⟨p.x, p.y, (n : Int)⟩ := by
  unfold spots
  rw [List.mem_map]
  constructor
  · rintro ⟨n, hn, rfl⟩
    have hn := List.mem_range.mp hn
    exact ⟨n, _, List.getElem?_eq_getElem hn, spot_at (List.getElem?_eq_getElem hn)⟩
  · rintro ⟨n, p, h, rfl⟩
    exact ⟨n, List.mem_range.mpr (List.getElem?_eq_some_iff.mp h).1, spot_at h⟩
theorem spots_nodup (l : List Sw12.P) : (spots l).Nodup := by
  unfold spots
  refine List.Pairwise.map _ (R := fun a b : Nat => a ≠ b) (fun a b h z => ?_) List.nodup_range
  have := congrArg NM.S.i z
  have this : (a : Int) = (b : Int) := this
  exact h (by omega)
theorem range_snoc {α : Type} (f : Nat → α) (i : Nat) : (List.range (i + 1)).map f = (List.range i).map f ++ [f i] := by rw [List.range_succ, List.map_append]; rfl
theorem rfs_erase {α : Type} (ys : List (Addr × α)) (n : Nat) : (rfs ys).eraseIdx n = rfs (ys.eraseIdx n) := by
  unfold rfs
  rw [List.eraseIdx_eq_take_drop_succ, List.eraseIdx_eq_take_drop_succ, List.map_append, List.map_take, List.map_drop]
section
variable {P : Program} {w : World} {K : PySem.W.Frag} {mg : Str → Option Value} {base : Heap}
/-! ### nearest_of_different -/
def qualD : Str := (("nearest_of_different" : Str) ++ ".<locals>.") ++ "<lambda>"
def posD : Pos := match (defBody sDiff).getD 1 (.Pass ⟨0, 0, 0, 0⟩) with
  | .Assign _ (.Call _ _ [⟨_, .Lambda _ _ _ p, _⟩] _) _ => p
  | _ => ⟨0, 0, 0, 0⟩
def spDiff (K : PySem.W.Frag) (Pd Pl : Addr) : Sp := fun vs H Q _ => ∃ (a : Addr) (ys : List Y), vs = [.ref a] ∧ SqL K H a (refs ys) ∧ (∀ y ∈ ys, PtAt K H y.1 y.2 ∧ MM.Fits y.2) ∧ 2 ≤ ys.length ∧ ys.length ≤ 4096 ∧ Lm.Tab Pd posD qualD H ∧ Lm.Tab Pl posL qualL H ∧
  ∀ (H' : Hp) (p : Addr) (i j : Nat), H' p = some (.tup [.int (SM.far (ys.map (·.2)) (i, j)), .int (i : Int), .int (j : Int)]) → Sw12.nearestOf (ys.map (·.2)) = some (i, j) → Q (.ref p) H'
theorem scDiff : FnScope ["points", "spots", "upwards", "best", "kept", "lowest", "spot", "left", "near", "place", "other"] ["points"] (defScope sDiff) := ⟨rfl, rfl, rfl, by decide +kernel, rfl, by decide +kernel, by decide +kernel⟩
theorem ok_diff {f fh fp fq fl fn c0 Pd c1 Pl : Addr} {fd fdh fdp fdq fdl fdn : FuncData} (ne : Pl ≠ Pd) (hc0 : fd.code = .ref c0) (hPd : PySem.W.CodeHd base c0 Pd) (hc1 : fdl.code = .ref c1) (hPl : PySem.W.CodeHd base c1 Pl) (bm : Lm.BMain mg base) (D : Df K mg "nearest_of_different" sDiff ["points"] f fd) (Dh : Df K mg "how_many_first" sFirst ["things", "is_ahead"] fh fdh)
    (Dp : Df K mg "pair_of" sPair ["spot", "other"] fp fdp) (Dq : Df K mg "square" sSq ["number"] fq fdq) (Dl : Df K mg "how_many_left" sLeft ["kept", "spot"] fl fdl) (Dn : Df K mg "spots_near" sNears ["kept", "left", "spot", "most"] fn fdn) (hR : mg "range" = none) (hlen : mg "len" = none) (Bx : mg "max" = none) (Bn : mg "min" = none) (hso : mg "sorted" = none) :
    FnOk P w K mg base CX0 4 f fd ["points"] (spDiff K Pd Pl) := by
  have Gp : FnOk P w K mg base CX0 2 fp fdp ["spot", "other"] (spPair K) := ok_pair Dp Dq Bx Bn
  have Gq : FnOk P w K mg base CX0 1 fq fdq ["number"] spSq := ok_sq Dq
  have Gl : FnOk P w K mg base CX0 3 fl fdl ["kept", "spot"] (spLeft K Pl) := ok_left Dl hc1 hPl bm Dh hlen
  have Gn : FnOk P w K mg base CX0 2 fn fdn ["kept", "left", "spot", "most"] (spNears K) := ok_nears Dn Dq hlen
  refine Lm.okC D.F hc0 scDiff (fun vs H Q E h => ?_) (fun A outer s H vs Q E hr h => ?_)
  · obtain ⟨a, ys, rfl, _⟩ := h
    rfl
  · obtain ⟨a, ys, rfl, hS, hy, h2, hl, tbd, tbl, k⟩ := h
    have hr1 : Room 1 _ := hr.mono (by decide)
    have hr2 : Room 2 _ := hr.mono (by decide)
    have s4 : (20000 : Nat) < sizeLine := by rw [sizeLine_eq]; decide
    refine ⟨_, pss_cons (ps_setLc (i := 1) (own := [("place", 9)]) rfl scDiff.nd rfl rfl (sw_true rfl rfl rfl (by decide +kernel)) (pi_range1 rfl hR (pa_cons (pe_callB call_len_seq (by rfl) hlen PySem.boot_len (pa_cons (pv 0) pa_nil)) pa_nil)) (blkOk_by (by show blkC ["points", "spots", "upwards", "best", "kept", "lowest", "spot", "left", "near", "place", "other"] (defScope sDiff) _ _ = true; decide +kernel)) (fun _ _ _ _ _ => pg_name (i := 9) scDiff.nd rfl (Or.inl rfl)) (fun _ _ _ _ _ => pts_nil)
        (fun _ _ _ _ _ => pe_tup (pa_cons (pe_ix (ixt (K := K) rfl) (pe_ix (ixl (K := K) rfl) (pv 0) (pv 9) (fun _ _ => rfl)) pe_int (fun _ _ => rfl)) (pa_cons (pe_ix (ixt (K := K) rfl) (pe_ix (ixl (K := K) rfl) (pv 0) (pv 9) (fun _ _ => rfl)) pe_int (fun _ _ => rfl)) (pa_cons (pv 9) pa_nil)))))
      (pss_cons (ps_set (i := 2) scDiff.nd rfl (Or.inl rfl) (Sk.pe_sort0 (k := 1) hr rfl hso (pv 1) (Lm.pe_lam rfl hPd bm rfl (by show ∀ y : Str × NameKind, y ∈ _ → y.2 = NameKind.free → List.lookup y.1 (defScope sDiff).names = some .cell ∨ List.lookup y.1 (defScope sDiff).names = some .free; decide +kernel))))
      (pss_cons (ps_set (i := 3) scDiff.nd rfl (Or.inl rfl) (pe_call Gp hr2 rfl Dp.g Dp.F.kp Dp.b .nil pass0 (pa_cons (pe_ix ix_list (pv 2) pe_int (fun _ _ => rfl)) (pa_cons (pe_ix ix_list (pv 2) pe_int (fun _ _ => rfl)) pa_nil))))
      (pss_cons (ps_set (i := 4) scDiff.nd rfl (Or.inl rfl) (pe_lst pa_nil))
      (pss_cons (ps_set (i := 5) scDiff.nd rfl (Or.inl rfl) pe_int)
      (pss_cons (ps_for PassesOwn.never rfl (pi_list (pv 2)) (pg_name (i := 6) scDiff.nd rfl (Or.inr rfl))
        (pss_cons (ps_while PassesOwn.never (pt_cmpR op_gt (pe_call Gq hr1 rfl Dq.g Dq.F.kp Dq.b .nil pass0 (pa_cons (pe_op op_sub (pe_ix ix_tup (pv 6) pe_int (fun _ _ => rfl)) (pe_ix ix_tup (pe_ix ix_list (pv 2) (pv 5) (fun _ _ => rfl)) pe_int (fun _ _ => rfl))) pa_nil)) (pe_ix ix_tup (pv 3) pe_int (fun _ _ => rfl)) (nomark _))
          (pss_cons (ps_expr (pe_bm PySem.F.plainAttrs_list PySem.F.slot_list_pop PySem.F.type_list_pop mt_popAt (pv 4) (pa_cons (pe_call Gl hr rfl Dl.g Dl.F.kp Dl.b .nil pass0 (pa_cons (pv 4) (pa_cons (pe_ix ix_list (pv 2) (pv 5) (fun _ _ => rfl)) pa_nil))) pa_nil)))
          (pss_one (ps_set (i := 5) scDiff.nd rfl (Or.inl rfl) (pe_op op_add (pv 5) pe_int)))))
        (pss_cons (ps_set (i := 7) scDiff.nd rfl (Or.inl rfl) (pe_call Gl hr rfl Dl.g Dl.F.kp Dl.b .nil pass0 (pa_cons (pv 4) (pa_cons (pv 6) pa_nil))))
        (pss_cons (ps_set (i := 8) scDiff.nd rfl (Or.inl rfl) (pe_call Gn hr2 rfl Dn.g Dn.F.kp Dn.b .nil pass0 (pa_cons (pv 4) (pa_cons (pv 7) (pa_cons (pv 6) (pa_cons (pe_ix ix_tup (pv 3) pe_int (fun _ _ => rfl)) pa_nil))))))
        (pss_cons (ps_set (i := 3) scDiff.nd rfl (Or.inl rfl) (pe_callB (Nr.cr_minT rfl (hu_of hr)) (by rfl) Bn boot_min (pa_cons (pe_op op_cat (pe_lst (pa_cons (pv 3) pa_nil)) (pe_lc (own := [("other", 10)]) rfl scDiff.nd (pi_list (pv 8)) (blkOk_by (by show blkC ["points", "spots", "upwards", "best", "kept", "lowest", "spot", "left", "near", "place", "other"] (defScope sDiff) _ _ = true; decide +kernel)) (fun _ _ _ _ _ => pg_name (i := 10) scDiff.nd rfl (Or.inl rfl)) (fun _ _ _ _ _ => pts_nil)
          (fun _ _ _ _ _ => pe_call Gp hr2 rfl Dp.g Dp.F.kp Dp.b .nil pass0 (pa_cons (pv 6) (pa_cons (pv 10) pa_nil))))) pa_nil)))
        (pss_one (ps_expr (pe_bm PySem.F.plainAttrs_list PySem.F.slot_list_insert PySem.F.type_list_insert Nr.mt_insert (pv 4) (pa_cons (pv 7) (pa_cons (pv 6) pa_nil))))))))))
      (pss_one (ps_ret (pv 3)))))))), ?_⟩
    generalize hL : ys.map (·.2) = l at *
    have ll : l.length = ys.length := by rw [← hL, List.length_map]
    -- the spots
    refine ⟨_, rfl, a, _, rfl, .inl hS, _, rfl, by omega, by rw [refs_len]; omega, ?_⟩
    have em : ((refs ys).length : Int).toNat = ys.length := by rw [refs_len]; omega
    rw [em]
    intro D0 hD0
    refine lc_range (n := ys.length) (fun i H' => ∃ ss : List SZ, H' D0 = some (.lst (rfs ss)) ∧ Same H H' ∧ (∀ z ∈ ss, H' z.1 = some (.tup [.int z.2.x, .int z.2.y, .int z.2.i])) ∧ ss.map (·.2) = (List.range i).map (spot l)) ⟨[], upd_same, same_upd hD0, (fun _ z => nomatch z), rfl⟩ ?_ ?_
    · rintro i H' hi ⟨ss, hq, s5, hp, ey⟩
      have hyi : ys[i]? = some ys[i] := List.getElem?_eq_getElem hi
      generalize ys[i] = y at hyi
      have hli : l[i]? = some y.2 := by rw [← hL, List.getElem?_map, hyi]; rfl
      have ym := List.mem_of_getElem? hyi
      have ty : SqT K H' y.1 [.int y.2.x, .int y.2.y] := same_tup s5 (hy y ym).1
      have at1 : atI (refs ys) (0 + (i : Int)) = some (.ref y.1) := at_of (j := i) (by omega) (by unfold refs; rw [List.getElem?_map, hyi]; rfl)
      have lss : ss.length = i := by
        have := congrArg List.length ey
        rw [List.length_map, List.length_map, List.length_range] at this
        exact this
      refine ⟨rfl, ?_⟩
      unfold tYes
      dsimp only
      rw [if_pos rfl]
      refine ⟨_, rfl, _, rfl, a, _, _, _, rfl, rfl, s5.seq hS, at1, y.1, _, _, _, rfl, rfl, ty, rfl, _, rfl, _, rfl, a, _, _, _, rfl, rfl, s5.seq hS, at1, y.1, _, _, _, rfl, rfl, ty, rfl, _, rfl, (by show 3 ≤ sizeLine; decide), fun p hp1 => ?_⟩
      have s6 : Same H' (upd H' p (.tup [.int y.2.x, .int y.2.y, .int (0 + (i : Int))])) := same_upd hp1
      have npD : p ≠ D0 := (ne_of_none hq hp1).symm
      refine ⟨rfs ss, s6 _ _ hq, (by rw [rfs_len]; omega), ss ++ [(p, ⟨y.2.x, y.2.y, (i : Int)⟩)], (by rw [upd_same, rfs_app]; rfl), fun b o e => ?_, fun z hz => ?_, ?_⟩
      · rw [upd_ne (ne_of_none e hD0)]
        exact s6 _ _ (s5 _ _ e)
      · rcases List.mem_append.mp hz with hz | hz
        · have q := hp z hz
          rw [upd_ne (fun e => by rw [e, hq] at q; cases q)]
          exact s6 _ _ q
        · rw [List.mem_singleton.mp hz]
          show upd _ D0 _ p = _
          rw [upd_ne npD, upd_same, show (0 : Int) + (i : Int) = (i : Int) by omega]
      · rw [List.map_append, ey, range_snoc, spot_at hli]
        rfl
    rintro H1 ⟨ss, hq1, s1, hp1, ess⟩
    have ess : ss.map (·.2) = spots l := by unfold spots; rw [ll]; exact ess
    have lss : ss.length = ys.length := by
      have := congrArg List.length ess
      unfold spots at this
      rw [List.length_map, List.length_map, List.length_range, ll] at this
      exact this
    -- sorted
    refine ⟨_, rfl, tbd.same s1, fun H2 f2 c2 pm ctv sT tbd2 n2 hf hc2 hb2 hcl => ?_⟩
    have tbl2 : Lm.Tab Pl posL qualL H2 := Lm.Tab.but hb2 (tbd.same s1).is ne (tbl.same s1)
    have ts2 : ∀ z ∈ ss, H2 z.1 = some (.tup [.int z.2.x, .int z.2.y, .int z.2.i]) := fun z hz => sT _ _ (hp1 z hz) rfl
    refine ⟨D0, f2, rfs ss, fun i ks H' => H' = H2 ∧ ks = (ss.take i).map fun z => V.int z.2.y, rfl, rfl, SqL.of (sT _ _ hq1 rfl), ⟨rfl, rfl⟩, ?_, ?_⟩
    · rintro i ks H' v hi ⟨rfl, rfl⟩
      obtain ⟨z, hz, rfl⟩ := rfs_at hi
      refine Lm.cal_lam (k := 0) (C := fun _ => none) (x0 := "spot") (rn := []) (rest := []) hf hc2 (fun _ _ e => nomatch e) ?_ (fun u => rfl) (fun A' outer' s' hr' => ⟨_, pe_ix ix_tup (pv 0) pe_int (fun _ _ => rfl), ?_⟩)
      · exact Lm.lamOk0 rfl rfl rfl (by decide +kernel) rfl (by decide +kernel)
      · refine ⟨_, rfl, z.1, _, _, _, rfl, rfl, SqT.of (ts2 z (List.mem_of_getElem? hz)), rfl, fun _ => ⟨rfl, ?_⟩⟩
        rw [AM.take_snoc hz, List.map_append]
        rfl
    rintro ks H' ⟨rfl, rfl⟩
    rw [rfs_len, List.take_length]
    refine .inl ⟨ss.map (·.2.y), by rw [List.map_map]; rfl, fun ps pp pw p3 hp3 => ?_⟩
    have ezp : (ss.map (·.2.y)).zip (rfs ss) = ss.map fun z => (z.2.y, V.ref z.1) := by
      unfold rfs
      rw [List.zip_map']
    rw [ezp] at pp
    obtain ⟨U, u1, u2⟩ := Srt.perm_map pp ss rfl
    subst u2
    have er : (U.map fun z => (z.2.y, V.ref z.1)).map (·.2) = rfs U := by rw [List.map_map]; rfl
    rw [er]
    rw [List.pairwise_map] at pw
    have lU : U.length = ys.length := by rw [u1.length_eq, lss]
    have tU : ∀ z ∈ U, H' z.1 = some (.tup [.int z.2.x, .int z.2.y, .int z.2.i]) := fun z hz => ts2 z (u1.mem_iff.mp hz)
    have pU : (U.map (·.2)).Perm (spots l) := by rw [← ess]; exact u1.map _
    have memU : ∀ s, s ∈ U.map (·.2) ↔ ∃ (n : Nat) (p : Sw12.P), l[n]? = some p ∧ s = ⟨p.x, p.y, (n : Int)⟩ := fun s => by rw [pU.mem_iff, spots_mem]
    have ndU : (U.map (·.2)).Nodup := pU.nodup_iff.mpr (spots_nodup l)
    have upU : (U.map (·.2)).Pairwise fun a b => a.y ≤ b.y := by rw [List.pairwise_map]; exact pw
    have fitU : ∀ z ∈ U, FitS z.2 := fun z hz => by
      obtain ⟨n, p, hn, e⟩ := (memU z.2).mp (List.mem_map_of_mem hz)
      have pm : p ∈ ys.map (·.2) := by rw [hL]; exact List.mem_of_getElem? hn
      obtain ⟨y, hym, rfl⟩ := List.mem_map.mp pm
      have := (hy y hym).2
      unfold MM.Fits at this
      rw [e]
      exact this
    clear pp pw ezp er hq1 hp1 ts2
    have s3 : Same H' (upd H' p3 (.lst (rfs U))) := same_upd hp3
    generalize hH3 : upd H' p3 (.lst (rfs U)) = H3 at *
    have h3U : H3 p3 = some (.lst (rfs U)) := by rw [← hH3]; exact upd_same
    have tU3 : ∀ z ∈ U, H3 z.1 = some (.tup [.int z.2.x, .int z.2.y, .int z.2.i]) := fun z hz => s3 _ _ (tU z hz)
    have tbl3 := tbl2.same s3
    have g0 : U[0]? = some (U[0]'(by omega)) := List.getElem?_eq_getElem _
    have g1 : U[1]? = some (U[1]'(by omega)) := List.getElem?_eq_getElem _
    generalize U[0]'(by omega) = z0 at g0
    generalize U[1]'(by omega) = z1 at g1
    have i0 : atI (rfs U) (0 : Int) = some (.ref z0.1) := at_of (j := 0) rfl (rfs_get g0)
    have i1 : atI (rfs U) (1 : Int) = some (.ref z1.1) := at_of (j := 1) rfl (rfs_get g1)
    have m0 := List.mem_of_getElem? g0
    have m1 := List.mem_of_getElem? g1
    refine ⟨_, rfl, p3, _, _, _, rfl, rfl, SqL.of h3U, i0, _, rfl, p3, _, _, _, rfl, rfl, SqL.of h3U, i1, z0.1, z1.1, z0.2, z1.2, rfl, SqT.of (tU3 z0 m0), SqT.of (tU3 z1 m1), fitU z0 m0, fitU z1 m1, fun pb hpb => ?_⟩
    have s5 := same_upd (o := .tup [.int (NM.pr z0.2 z1.2).d, .int (NM.pr z0.2 z1.2).i, .int (NM.pr z0.2 z1.2).j]) hpb
    generalize hH5 : upd H3 pb (.tup [.int (NM.pr z0.2 z1.2).d, .int (NM.pr z0.2 z1.2).i, .int (NM.pr z0.2 z1.2).j]) = H5 at *
    have h5b : H5 pb = some (.tup [.int (NM.pr z0.2 z1.2).d, .int (NM.pr z0.2 z1.2).i, .int (NM.pr z0.2 z1.2).j]) := by rw [← hH5]; exact upd_same
    refine ⟨Nat.zero_le _, fun pk hpk => ?_⟩
    have s6 := same_upd (o := .lst ([] : List V)) hpk
    generalize hH6 : upd H5 pk (.lst []) = H6 at *
    have h6k : H6 pk = some (.lst []) := by rw [← hH6]; exact upd_same
    have n3k : H3 pk = none := s5.free hpk
    have S0 : Lm.SameT H3 H6 := .of (s5.trans s6)
    have gU : ∀ {i : Nat} {z : SZ}, U[i]? = some z → (U.map (·.2))[i]? = some z.2 := fun {i z} e => by rw [List.getElem?_map, e]; rfl
    refine ⟨_, rfl, p3, rfl, ⟨_, SqL.of (s6 _ _ (s5 _ _ h3U))⟩, for_list (K := K) (a := p3) (xs := rfs U) (fun i σ H' => ∃ (pb : Addr) (best : NM.T) (lo : Nat) (ks : List SZ) (v6 v7 v8 : Option V), σ = [some (.ref a), some (.ref D0), some (.ref p3), some (.ref pb), some (.ref pk), some (.int (lo : Int)), v6, v7, v8, none, none] ∧ Lm.SameT H3 H' ∧ Lm.Tab Pl posL qualL H' ∧ H' pb = some (.tup [.int best.d, .int best.i, .int best.j]) ∧ H' pk = some (.lst (rfs ks)) ∧ NM.Inv (U.map (·.2)) i lo (ks.map (·.2)) best ∧ (∀ z ∈ ks, z ∈ U))
      ⟨pb, NM.pr z0.2 z1.2, 0, [], none, none, none, rfl, S0, (tbl3.same s5).same s6, s6 _ _ h5b, h6k, NM.inv_start (gU g0) (gU g1), (fun _ z => nomatch z)⟩ (fun i σ H' _ ⟨_, _, _, _, _, _, _, _, t, _⟩ => t.seq (SqL.of h3U)) ?_ ?_⟩
    · rintro i v σ H7 hi ⟨pb, best, lo, ks, v6, v7, v8, rfl, t7, tb7, hb7, hk7, NI, sub⟩
      obtain ⟨z, hz, rfl⟩ := rfs_at hi
      have zm := List.mem_of_getElem? hz
      have iU := (List.getElem?_eq_some_iff.mp hz).1
      have lksle : ∀ {lo : Nat} {ks : List SZ}, NM.Inv (U.map (·.2)) i lo (ks.map (·.2)) best → ks.length ≤ 4096 := fun {lo ks} NI => by
        have := NI.perm.length_eq
        rw [List.length_map, List.length_drop, List.length_take, List.length_map] at this
        omega
      -- the while
      refine ⟨fun n σ H8 => ∃ (lo : Nat) (ks : List SZ), n = i - lo ∧ σ = [some (.ref a), some (.ref D0), some (.ref p3), some (.ref pb), some (.ref pk), some (.int (lo : Int)), some (.ref z.1), v7, v8, none, none] ∧ Lm.SameT H3 H8 ∧ Lm.Tab Pl posL qualL H8 ∧ H8 pb = some (.tup [.int best.d, .int best.i, .int best.j]) ∧ H8 pk = some (.lst (rfs ks)) ∧ NM.Inv (U.map (·.2)) i lo (ks.map (·.2)) best ∧ (∀ z ∈ ks, z ∈ U),
        ⟨i - lo, lo, ks, rfl, rfl, t7, tb7, hb7, hk7, NI, sub⟩, ?_⟩
      clear NI sub hk7 hb7 tb7 t7
      rintro n σ H8 ⟨lo, ks, rfl, rfl, t8, tb8, hb8, hk8, NI, sub⟩
      have lol : lo < U.length := by have := NI.lk; omega
      have hlo : U[lo]? = some U[lo] := List.getElem?_eq_getElem lol
      generalize U[lo] = y at hlo
      have ym := List.mem_of_getElem? hlo
      have at1 : atI (rfs U) (lo : Int) = some (.ref y.1) := at_of (j := lo) rfl (rfs_get hlo)
      have SU : SqL K H8 p3 (rfs U) := t8.seq (SqL.of h3U)
      have tz8 : SpAt K H8 z.1 z.2 := t8.tup (SqT.of (tU3 z zm))
      have ty8 : SpAt K H8 y.1 y.2 := t8.tup (SqT.of (tU3 y ym))
      have bnd : -(2 ^ 64) < z.2.y - y.2.y ∧ z.2.y - y.2.y < 2 ^ 64 := by
        have f1 := fitU z zm
        have f2 := fitU y ym
        unfold FitS at f1 f2
        constructor <;> omega
      have KA : ∀ {H9 : Hp}, Lm.SameT H3 H9 → KsAt K H9 ks := fun t x hx => t.tup (SqT.of (tU3 x (sub x hx)))
      refine ⟨_, rfl, z.1, _, _, _, rfl, rfl, tz8, rfl, _, rfl, _, rfl, p3, _, _, _, rfl, rfl, SU, at1, y.1, _, _, _, rfl, rfl, ty8, rfl, _, _, rfl, rfl, _, rfl, bnd, _, rfl, pb, _, _, _, rfl, rfl, SqT.of hb8, rfl, _, _, rfl, rfl, _, rfl, ?_⟩
      refine ite2 (fun c => ?_) (fun c => ?_)
      · have c : best.d < (z.2.y - y.2.y) * (z.2.y - y.2.y) := of_decide_eq_true c
        refine ⟨fun σ3 H9 => ∃ m', m' < i - lo ∧ ∃ (lo : Nat) (ks : List SZ), m' = i - lo ∧ σ3 = [some (.ref a), some (.ref D0), some (.ref p3), some (.ref pb), some (.ref pk), some (.int (lo : Int)), some (.ref z.1), v7, v8, none, none] ∧ Lm.SameT H3 H9 ∧ Lm.Tab Pl posL qualL H9 ∧ H9 pb = some (.tup [.int best.d, .int best.i, .int best.j]) ∧ H9 pk = some (.lst (rfs ks)) ∧ NM.Inv (U.map (·.2)) i lo (ks.map (·.2)) best ∧ (∀ z ∈ ks, z ∈ U), fun _ _ z => z, ?_⟩
        have llo := NM.inv_lt NI (gU hz) (gU hlo) c
        refine ⟨_, rfl, .inl ⟨rfl, _, SqL.of hk8⟩, _, rfl, _, rfl, _, rfl, p3, _, _, _, rfl, rfl, SU, at1, pk, y.1, ks, y.2, rfl, SqL.of hk8, KA t8, ty8, NI.srt, tb8, fun H9 r sT9 tb9 cut => ?_⟩
        obtain ⟨pr1, NI2⟩ := NM.inv_pop upU NI (gU hz) (gU hlo) c cut
        have rl : r < ks.length := by
          have := (List.getElem?_eq_some_iff.mp pr1).1
          rw [List.length_map] at this
          exact this
        have hr9 : ks[r]? = some ks[r] := List.getElem?_eq_getElem rl
        have lks := lksle NI
        have hk9 := sT9 _ _ hk8 rfl
        refine ⟨pk, rfs ks, (r : Int), r, .ref ks[r].1, rfl, rfl, hk9, by omega, by omega, ?_, rfs_get hr9, ?_⟩
        · rw [rfs_len]
          unfold seqIndex?
          simp
          omega
        · rw [rfs_erase]
          have t9 : Lm.SameT H3 (upd H9 pk (.lst (rfs (ks.eraseIdx r)))) := fun b o e n => by
            rw [upd_ne (ne_of_none e n3k)]
            exact sT9 _ _ (t8 b o e n) n
          have npb : pb ≠ pk := fun e => by rw [e, hk8] at hb8; cases hb8
          refine ⟨_, rfl, _, _, rfl, rfl, i - (lo + 1), by omega, lo + 1, ks.eraseIdx r, rfl, ?_, t9, Lm.Tab.upd hk9 tb9, ?_, upd_same, ?_, fun x hx => sub x (List.mem_of_mem_eraseIdx hx)⟩
          · rw [show ((lo + 1 : Nat) : Int) = (lo : Int) + 1 by omega]
            rfl
          · rw [upd_ne npb]
            exact sT9 _ _ hb8 rfl
          · have e : (ks.eraseIdx r).map (·.2) = (ks.map (·.2)).eraseIdx r := by rw [List.eraseIdx_eq_take_drop_succ, List.eraseIdx_eq_take_drop_succ, List.map_append, List.map_take, List.map_drop]
            rw [e]
            exact NI2
      · -- left, near, best, kept
        refine ⟨_, rfl, _, rfl, pk, z.1, ks, z.2, rfl, SqL.of hk8, KA t8, tz8, NI.srt, tb8, fun H9 r sT9 tb9 cut => ?_⟩
        have t9 := t8.trans sT9
        have hk9 := sT9 _ _ hk8 rfl
        have hb9 := sT9 _ _ hb8 rfl
        have tz9 : SpAt K H9 z.1 z.2 := t9.tup (SqT.of (tU3 z zm))
        have lks := lksle NI
        have cl := cut.le
        rw [List.length_map] at cl
        clear c SU ty8 tz8 t8 tb8 hk8 hb8
        refine ⟨_, rfl, _, rfl, _, rfl, _, rfl, pb, _, _, _, rfl, rfl, SqT.of hb9, rfl, pk, z.1, ks, r, z.2, best.d, rfl, SqL.of hk9, KA t9, (fun x hx => fitU x (sub x hx)), tz9, fitU z zm, cl, lks, fun Ha pn sa nn ha => ?_⟩
        have nzm : ∀ x ∈ nearZ ks r z.2 best.d, x ∈ U := fun x hx => sub x (nearZ_mem hx)
        have nzl := nearZ_len ks r z.2 best.d
        have nzmap := nearZ_map ks r z.2 best.d
        generalize nearZ ks r z.2 best.d = nz at ha nzm nzl nzmap
        have ta := t9.trans (.of sa)
        refine ⟨_, rfl, (by show 1 ≤ sizeLine; omega), fun l1 hl1 => ?_⟩
        have sb := same_upd (o := .lst [V.ref pb]) hl1
        generalize hHb : upd Ha l1 (.lst [V.ref pb]) = Hb at *
        have hbl : Hb l1 = some (.lst [V.ref pb]) := by rw [← hHb]; exact upd_same
        have tb' := ta.trans (.of sb)
        refine ⟨_, rfl, pn, rfl, ⟨_, SqL.of (sb _ _ ha)⟩, fun D1 hD1 => ?_⟩
        refine lc_list (K := K) (a := pn) (xs := rfs nz) (fun j Hc => ∃ ps : List (Addr × NM.T), Hc D1 = some (.lst (rfs ps)) ∧ Same Hb Hc ∧ (∀ t ∈ ps, Hc t.1 = some (.tup [.int t.2.d, .int t.2.i, .int t.2.j])) ∧ ps.map (·.2) = (nz.take j).map fun x => NM.pr z.2 x.2) ⟨[], upd_same, same_upd hD1, (fun _ z => nomatch z), rfl⟩ (fun j Hc _ ⟨_, _, sc, _⟩ => SqL.of (sc _ _ (sb _ _ ha))) ?_ ?_
        · rintro j v Hc hj ⟨ps, hq, sc, hp, ep⟩
          obtain ⟨x, hx, rfl⟩ := rfs_at hj
          have xm := nzm x (List.mem_of_getElem? hx)
          have jl := (List.getElem?_eq_some_iff.mp hx).1
          have lps : ps.length = j := by
            have := congrArg List.length ep
            rw [List.length_map, List.length_map, List.length_take] at this
            omega
          have tc := tb'.trans (.of sc)
          refine ⟨rfl, ?_⟩
          unfold tYes
          dsimp only
          rw [if_pos rfl]
          refine ⟨_, rfl, _, rfl, z.1, x.1, z.2, x.2, rfl, tc.tup (SqT.of (tU3 z zm)), tc.tup (SqT.of (tU3 x xm)), fitU z zm, fitU x xm, fun q hq2 => ?_⟩
          have sd := same_upd (o := .tup [.int (NM.pr z.2 x.2).d, .int (NM.pr z.2 x.2).i, .int (NM.pr z.2 x.2).j]) hq2
          have nqD : q ≠ D1 := (ne_of_none hq hq2).symm
          refine ⟨rfs ps, sd _ _ hq, (by rw [rfs_len]; omega), ps ++ [(q, NM.pr z.2 x.2)], (by rw [upd_same, rfs_app]; rfl), fun b o e => ?_, fun t ht => ?_, ?_⟩
          · rw [upd_ne (ne_of_none e hD1)]
            exact sd _ _ (sc _ _ e)
          · rcases List.mem_append.mp ht with ht | ht
            · have q1 := hp t ht
              rw [upd_ne (fun e => by rw [e, hq] at q1; cases q1)]
              exact sd _ _ q1
            · rw [List.mem_singleton.mp ht]
              show upd _ D1 _ q = _
              rw [upd_ne nqD, upd_same]
          · rw [List.map_append, ep, AM.take_snoc hx, List.map_append]
            rfl
        · rintro Hc ⟨ps, hq, sc, hp, ep⟩
          rw [rfs_len, List.take_length] at ep
          have lps : ps.length = nz.length := by
            have := congrArg List.length ep
            rw [List.length_map, List.length_map] at this
            exact this
          refine ⟨l1, D1, _, _, rfl, rfl, sc _ _ hbl, hq, ?_, fun p9 hp9 => ?_⟩
          · rw [rfs_len]
            show 1 + ps.length ≤ sizeLine
            omega
          have se := same_upd (o := .lst ([V.ref pb] ++ rfs ps)) hp9
          generalize hHd : upd Hc p9 (.lst ([V.ref pb] ++ rfs ps)) = Hd at *
          have h9 : Hd p9 = some (.lst ([V.ref pb] ++ rfs ps)) := by rw [← hHd]; exact upd_same
          have sall : Same H9 Hd := ((sa.trans sb).trans sc).trans se
          have td := t9.trans (.of sall)
          have hbd := sall _ _ hb9
          have hkd := sall _ _ hk9
          have hpd : ∀ t ∈ ps, Hd t.1 = some (.tup [.int t.2.d, .int t.2.i, .int t.2.j]) := fun t ht => se _ _ (hp t ht)
          refine ⟨p9, (pb, [best.d, best.i, best.j]) :: ps.map fun t => (t.1, [t.2.d, t.2.i, t.2.j]), rfl, ?_, ?_, by simp, fun x hx hmin => ?_⟩
          · rw [List.map_cons, List.map_map]
            exact SqL.of h9
          · intro x hx
            rcases List.mem_cons.mp hx with rfl | hx
            · exact SqT.of hbd
            · obtain ⟨t, ht, rfl⟩ := List.mem_map.mp hx
              exact SqT.of (hpd t ht)
          · -- the new best
            obtain ⟨nb, enb, hnb, c1⟩ : ∃ nb : NM.T, x.2 = [nb.d, nb.i, nb.j] ∧ Hd x.1 = some (.tup [.int nb.d, .int nb.i, .int nb.j]) ∧ (nb = best ∨ ∃ u ∈ NM.near (ks.map (·.2)) r z.2 best.d, nb = NM.pr z.2 u) := by
              rcases List.mem_cons.mp hx with rfl | hx
              · exact ⟨best, rfl, hbd, .inl rfl⟩
              · obtain ⟨t, ht, rfl⟩ := List.mem_map.mp hx
                refine ⟨t.2, rfl, hpd t ht, .inr ?_⟩
                have : t.2 ∈ ps.map (·.2) := List.mem_map_of_mem ht
                rw [ep] at this
                obtain ⟨u, hu, e⟩ := List.mem_map.mp this
                exact ⟨u.2, by rw [← nzmap]; exact List.mem_map_of_mem hu, e.symm⟩
            have c2 : ¬ NM.ltt best nb := by
              have := hmin _ (List.mem_cons_self ..)
              rw [enb, lexT] at this
              exact of_decide_eq_false this
            have c3 : ∀ u ∈ NM.near (ks.map (·.2)) r z.2 best.d, ¬ NM.ltt (NM.pr z.2 u) nb := fun u hu => by
              rw [← nzmap] at hu
              obtain ⟨y0, hy0, rfl⟩ := List.mem_map.mp hu
              have : NM.pr z.2 y0.2 ∈ ps.map (·.2) := by rw [ep]; exact List.mem_map.mpr ⟨y0, hy0, rfl⟩
              obtain ⟨t, ht, e⟩ := List.mem_map.mp this
              have := hmin (t.1, [t.2.d, t.2.i, t.2.j]) (List.mem_cons_of_mem _ (List.mem_map.mpr ⟨t, ht, rfl⟩))
              rw [enb, lexT] at this
              rw [← e]
              exact of_decide_eq_false this
            have NI3 := NM.inv_next ndU NI (gU hz) cut c1 c2 c3
            refine ⟨_, rfl, .inl ⟨rfl, _, SqL.of hkd⟩, _, rfl, _, rfl, pk, rfs ks, r, .ref z.1, rfl, rfl, hkd, (by rw [rfs_len]; exact cl), (by rw [rfs_len]; omega), ?_⟩
            have eins : (rfs ks).take r ++ V.ref z.1 :: (rfs ks).drop r = rfs (ks.take r ++ z :: ks.drop r) := by
              unfold rfs
              rw [List.map_append, List.map_take, List.map_cons, List.map_drop]
            rw [eins]
            have npk : x.1 ≠ pk := fun e => by rw [e, hkd] at hnb; cases hnb
            refine ⟨x.1, nb, lo, ks.take r ++ z :: ks.drop r, _, _, _, rfl, fun b o e n => ?_, Lm.Tab.upd hkd (tb9.same sall), ?_, upd_same, ?_, fun y0 hy0 => ?_⟩
            · rw [upd_ne (ne_of_none e n3k)]
              exact td b o e n
            · rw [upd_ne npk]
              exact hnb
            · rw [List.map_append, List.map_take, List.map_cons, List.map_drop]
              exact NI3
            · rcases List.mem_append.mp hy0 with hy0 | hy0
              · exact sub y0 (List.mem_of_mem_take hy0)
              · rcases List.mem_cons.mp hy0 with rfl | hy0
                · exact zm
                · exact sub y0 (List.mem_of_mem_drop hy0)
    · rintro σ H7 ⟨pb, best, lo, ks, v6, v7, v8, rfl, t7, tb7, hb7, hk7, NI, sub⟩
      rw [rfs_len] at NI
      obtain ⟨i, j, eb, en⟩ := NM.inv_end (l := l) (by rw [List.length_map]; exact NI) memU ndU
      rw [eb] at hb7
      exact ⟨_, rfl, k H7 pb i j hb7 en⟩
end
end Ex

namespace Ex
open PySem PySem.Spec PyProof.Rows L2
section
variable {P : Program} {w : World} {K : PySem.W.Frag} {mg : Str → Option Value} {base : Heap}
/-! ### nearest_pair -/
def spNPair (K : PySem.W.Frag) (Pd Pl : Addr) : Sp := fun vs H Q _ => ∃ (a : Addr) (ys : List Y), vs = [.ref a] ∧ SqL K H a (refs ys) ∧ (∀ y ∈ ys, H y.1 = some (.tup [.int y.2.x, .int y.2.y]) ∧ MM.Fits y.2) ∧ 2 ≤ ys.length ∧ ys.length ≤ 4096 ∧ Lm.Tab Pd posD qualD H ∧ Lm.Tab Pl posL qualL H ∧
  ∀ (H' : Hp) (p : Addr) (i j : Nat), H' p = some (.tup [.int (SM.far (ys.map (·.2)) (i, j)), .int (i : Int), .int (j : Int)]) → Sw12.nearestOf (ys.map (·.2)) = some (i, j) → Q (.ref p) H'
theorem scNPair : FnScope ["points", "equal"] ["points"] (defScope sNPair) := ⟨rfl, rfl, rfl, by decide +kernel, rfl, by decide +kernel, by decide +kernel⟩
theorem ok_npair {f fe fd' fh fp fq fl fn c0 Pd c1 Pl : Addr} {fd fde fdd fdh fdp fdq fdl fdn : FuncData} (ne : Pl ≠ Pd) (hc0 : fdd.code = .ref c0) (hPd : PySem.W.CodeHd base c0 Pd) (hc1 : fdl.code = .ref c1) (hPl : PySem.W.CodeHd base c1 Pl) (bm : Lm.BMain mg base) (D : Df K mg "nearest_pair" sNPair ["points"] f fd) (De : Df K mg "equal_pairs" sEqual ["points"] fe fde) (Dd : Df K mg "nearest_of_different" sDiff ["points"] fd' fdd) (Dh : Df K mg "how_many_first" sFirst ["things", "is_ahead"] fh fdh)
    (Dp : Df K mg "pair_of" sPair ["spot", "other"] fp fdp) (Dq : Df K mg "square" sSq ["number"] fq fdq) (Dl : Df K mg "how_many_left" sLeft ["kept", "spot"] fl fdl) (Dn : Df K mg "spots_near" sNears ["kept", "left", "spot", "most"] fn fdn) (hR : mg "range" = none) (hlen : mg "len" = none) (Bx : mg "max" = none) (Bn : mg "min" = none) (hso : mg "sorted" = none) :
    FnOk P w K mg base CX0 5 f fd ["points"] (spNPair K Pd Pl) := by
  have Ge : FnOk P w K mg base CX0 1 fe fde ["points"] (spEqual K) := ok_equal De hR hlen
  have Gd : FnOk P w K mg base CX0 4 fd' fdd ["points"] (spDiff K Pd Pl) := ok_diff ne hc0 hPd hc1 hPl bm Dd Dh Dp Dq Dl Dn hR hlen Bx Bn hso
  refine D.F.ok scNPair (fun vs H Q E h => ?_) (fun cdv A outer s H vs Q E hr h => ?_)
  · obtain ⟨a, ys, rfl, _⟩ := h
    rfl
  · obtain ⟨a, ys, rfl, hS, hy, h2, hl, tbd, tbl, k⟩ := h
    have hr1 : Room 1 _ := hr.mono (by decide)
    refine ⟨_, pss_cons (ps_set (i := 1) scNPair.nd rfl (Or.inl rfl) (pe_call Ge hr1 rfl De.g De.F.kp De.b .nil pass0 (pa_cons (pv 0) pa_nil)))
      (pss_cons (ps_if (pt_cmpR op_gt (pe_callB call_len_seq (by rfl) hlen PySem.boot_len (pa_cons (pv 1) pa_nil)) pe_int (nomark _)) (pss_one (ps_ret (pe_callB (Nr.cr_minT rfl (hu_of hr)) (by rfl) Bn boot_min (pa_cons (pv 1) pa_nil)))) pss_nil)
      (pss_one (ps_ret (pe_call Gd hr rfl Dd.g Dd.F.kp Dd.b .nil pass0 (pa_cons (pv 0) pa_nil))))), ?_⟩
    refine ⟨_, rfl, a, ys, rfl, hS, (fun y hy' => (hy y hy').1), hl, fun H1 p1 ts s1 n1 h1 ht hts => ?_⟩
    refine ⟨_, rfl, p1, _, rfl, .inl (SqL.of h1), _, _, rfl, rfl, _, rfl, ?_⟩
    rw [rfs_len]
    have ll : (ys.map (·.2)).length = ys.length := List.length_map _
    refine ite2 (fun c => ?_) (fun c => ?_)
    · have c : 0 < ts.length := by have := of_decide_eq_true c; omega
      refine ⟨_, rfl, p1, ts.map fun t => (t.1, [t.2.d, t.2.i, t.2.j]), rfl, ?_, fun z hz => ?_, by rw [List.length_map]; exact c, fun z hz hmin => ?_⟩
      · rw [List.map_map]
        exact SqL.of h1
      · obtain ⟨t, ht', rfl⟩ := List.mem_map.mp hz
        exact SqT.of (ht t ht')
      · obtain ⟨t, ht', rfl⟩ := List.mem_map.mp hz
        obtain ⟨i, j, e1, e2⟩ := NM.equal_end (l := ys.map (·.2)) (best := t.2) (prs := ts.map (·.2)) (fst := fs (ys.map (·.2))) (fs_ok _) (fun u => by rw [hts u, ll]) (List.mem_map_of_mem ht') fun u hu => by
          obtain ⟨u0, hu0, rfl⟩ := List.mem_map.mp hu
          have := hmin (u0.1, [u0.2.d, u0.2.i, u0.2.j]) (List.mem_map.mpr ⟨u0, hu0, rfl⟩)
          rw [lexT] at this
          exact of_decide_eq_false this
        have := ht t ht'
        rw [e1] at this
        exact k H1 t.1 i j this e2
    · refine ⟨_, rfl, a, ys, rfl, s1.seq hS, (fun y hy' => ⟨SqT.of (s1 _ _ (hy y hy').1), (hy y hy').2⟩), h2, hl, tbd.same s1, tbl.same s1, fun H' p i j hp en => k H' p i j hp en⟩
/-! ### nearest -/
def spNearest (K : PySem.W.Frag) (Pd Pl : Addr) : Sp := fun vs H Q _ => ∃ (a : Addr) (n : Int) (ns : List Int), vs = [.int n, .ref a] ∧ SqL K H a (ns.map V.int) ∧ (2 ≤ n → n ≤ 4096 → (ns.length : Int) = 2 * n) ∧ (∀ z ∈ ns, -9223372036854775808 ≤ z ∧ z ≤ 9223372036854775807) ∧ Lm.Tab Pd posD qualD H ∧ Lm.Tab Pl posL qualL H ∧
  ∀ (H' : Hp) (p : Addr), H' p = some (.lst ((PySw12.nearest n ns).map V.int)) → Q (.ref p) H'
theorem scNearest : FnScope ["n", "p", "pair"] ["n", "p"] (defScope sNearest) := ⟨rfl, rfl, rfl, by decide +kernel, rfl, by decide +kernel, by decide +kernel⟩
theorem ok_nearest {f fm fpt fi fh fnp fe fd' fp fq fl fn c0 Pd c1 Pl : Addr} {fd fdm fdpt fdi fdh fdnp fde fdd fdp fdq fdl fdn : FuncData} {tk : Tok} (ne : Pl ≠ Pd) (hc0 : fdd.code = .ref c0) (hPd : PySem.W.CodeHd base c0 Pd) (hc1 : fdl.code = .ref c1) (hPl : PySem.W.CodeHd base c1 Pl) (bm : Lm.BMain mg base) (D : Df K mg "nearest" sNearest ["n", "p"] f fd) (Dm : Df K mg "is_number_of_points" sNum ["n"] fm fdm) (Dpt : Df K mg "point_at" sPt ["numbers", "place"] fpt fdpt) (Di : Df K mg "points_in" sPts ["n", "numbers"] fi fdi)
    (Dh : Df K mg "how_many_first" sFirst ["things", "is_ahead"] fh fdh) (Dnp : Df K mg "nearest_pair" sNPair ["points"] fnp fdnp) (De : Df K mg "equal_pairs" sEqual ["points"] fe fde) (Dd : Df K mg "nearest_of_different" sDiff ["points"] fd' fdd)
    (Dp : Df K mg "pair_of" sPair ["spot", "other"] fp fdp) (Dq : Df K mg "square" sSq ["number"] fq fdq) (Dl : Df K mg "how_many_left" sLeft ["kept", "spot"] fl fdl) (Dn : Df K mg "spots_near" sNears ["kept", "left", "spot", "most"] fn fdn) (hm : mg "MOST_POINTS" = some (.int 4096 tk)) (hR : mg "range" = none) (hlen : mg "len" = none) (Bx : mg "max" = none) (Bn : mg "min" = none) (hso : mg "sorted" = none) :
    FnOk P w K mg base CX0 6 f fd ["n", "p"] (spNearest K Pd Pl) := by
  have Gm : FnOk P w K mg base CX0 1 fm fdm ["n"] spNum := ok_num Dm hm
  have Gi : FnOk P w K mg base CX0 2 fi fdi ["n", "numbers"] (spPts K) := ok_pts Di Dpt hR
  have Gnp : FnOk P w K mg base CX0 5 fnp fdnp ["points"] (spNPair K Pd Pl) := ok_npair ne hc0 hPd hc1 hPl bm Dnp De Dd Dh Dp Dq Dl Dn hR hlen Bx Bn hso
  refine D.F.ok scNearest (fun vs H Q E h => ?_) (fun cdv A outer s H vs Q E hr h => ?_)
  · obtain ⟨a, n, ns, rfl, _⟩ := h
    rfl
  · obtain ⟨a, n, ns, rfl, hS, hl, hb, tbd, tbl, k⟩ := h
    have hr1 : Room 1 _ := hr.mono (by decide)
    have hr2 : Room 2 _ := hr.mono (by decide)
    refine ⟨_, pss_cons (ps_if (PW.pt (pw_or (pt_cmpR op_lt (pv 0) pe_int (nomark _)) (pw_or1 (pt_not (pt_truth (pe_call Gm hr1 rfl Dm.g Dm.F.kp Dm.b .nil pass0 (pa_cons (pv 0) pa_nil)) (fun _ => rfl)))))) (pss_one (ps_ret (pe_lst (pa_cons (pe_un un_neg pe_int) pa_nil)))) pss_nil)
      (pss_cons (ps_set (i := 2) scNearest.nd rfl (Or.inl rfl) (pe_call Gnp hr rfl Dnp.g Dnp.F.kp Dnp.b .nil pass0 (pa_cons (pe_call Gi hr2 rfl Di.g Di.F.kp Di.b .nil pass0 (pa_cons (pv 0) (pa_cons (pv 1) pa_nil))) pa_nil)))
      (pss_one (ps_ret (pe_lst (pa_cons pe_int (pa_cons (pe_ix ix_tup (pv 2) pe_int (fun _ _ => rfl)) (pa_cons (pe_ix ix_tup (pv 2) pe_int (fun _ _ => rfl)) (pa_cons (pe_ix ix_tup (pv 2) pe_int (fun _ _ => rfl)) pa_nil)))))))), ?_⟩
    have no : ¬ (2 ≤ n ∧ n ≤ 4096) → ∃ v, v = V.int (-2) ∧ (1 ≤ sizeLine ∧ ∀ q, H q = none → Q (.ref q) (upd H q (.lst [v]))) := fun z => by
      rw [PM.f_nearest_no z] at k
      exact ⟨_, rfl, (by decide), fun q hq => k _ q upd_same⟩
    refine ⟨_, rfl, _, _, rfl, rfl, _, rfl, ?_⟩
    refine ite2 (fun c1 => ?_) (fun c1 => ?_)
    · have c1 : n < 2 := of_decide_eq_true c1
      obtain ⟨_, rfl, z⟩ := no (by omega)
      exact iteT ⟨_, rfl, z⟩
    · have c1 : ¬ n < 2 := fun z => c1 (decide_eq_true z)
      refine ⟨_, rfl, n, rfl, okN n, rfl, ?_⟩
      refine ite2 (fun h => ?_) (fun h => ?_)
      · have hn : ¬ (1 ≤ n ∧ n ≤ 4096) := fun z => by rw [okN_iff.mpr z] at h; cases h
        obtain ⟨_, rfl, z⟩ := no (by omega)
        exact ⟨_, rfl, z⟩
      · have hn : 1 ≤ n ∧ n ≤ 4096 := okN_iff.mp (by cases e : okN n with | true => rfl | false => exact absurd (by rw [e]; rfl) h)
        have hn2 : 2 ≤ n ∧ n ≤ 4096 := ⟨by omega, hn.2⟩
        have hl := hl hn2.1 hn2.2
        obtain ⟨m, rfl⟩ : ∃ m : Nat, n = (m : Int) := ⟨n.toNat, by omega⟩
        have hl : ns.length = 2 * m := by omega
        have pl := AM.pts_len hl
        have fit : ∀ v ∈ Sw12Neutral.pts ns, MM.Fits v := fun v hv => by
          obtain ⟨i, hi, rfl⟩ := List.mem_iff_getElem.mp hv
          obtain ⟨x, y, hx, hy, hp⟩ := AM.pts_two hl (pl ▸ hi)
          rw [List.getElem?_eq_getElem hi] at hp
          rw [Option.some.inj hp]
          have b1 := hb x (List.mem_of_getElem? hx)
          have b2 := hb y (List.mem_of_getElem? hy)
          exact fits_mk b1.1 b1.2 b2.1 b2.2
        refine ⟨_, rfl, _, rfl, a, m, ns, rfl, hS, hl, (by omega), fun H1 p1 ys s1 n1 h1 hp1 e1 => ?_⟩
        have lys : ys.length = m := by
          have := congrArg List.length e1
          rw [List.length_map, pl] at this
          exact this
        refine ⟨p1, ys, rfl, SqL.of h1, (fun y hy => ⟨hp1 y hy, fit _ (by rw [← e1]; exact List.mem_map_of_mem hy)⟩), (by omega), (by omega), tbd.same s1, tbl.same s1, fun H2 p2 i j h2 en => ?_⟩
        rw [e1] at h2 en
        rw [PM.f_nearest hn2 en] at k
        have t2 : SqT K H2 p2 _ := SqT.of h2
        refine ⟨_, rfl, p2, _, _, _, rfl, rfl, t2, rfl, _, rfl, p2, _, _, _, rfl, rfl, t2, rfl, _, rfl, p2, _, _, _, rfl, rfl, t2, rfl, (by show 4 ≤ sizeLine; decide), fun q hq => k _ q upd_same⟩
end
end Ex

namespace Ex
open PySem PySem.Spec PyProof.Rows L2
theorem all_mk {P : Program} {w : World} {K : PySem.W.Frag} {h : Heap} {mg : Str → Option Value} {fa f1 f2 f3 f4 f5 f6 f7 f8 f9 f10 f11 f12 : Addr} (X : K.In h) (G : h.Ns mainGlobals mg) (hfa : mg "nearest" = some (.ref fa))
    {od1 an1 od2 an2 od3 an3 od4 an4 od5 an5 od6 an6 od7 an7 od8 an8 od9 an9 od10 an10 od11 an11 od12 an12 : Option Addr} {sl1 sl2 sl3 sl4 sl5 sl6 sl7 sl8 sl9 sl10 sl11 sl12 : Array (Option Value)} {oc1 kV1 dc1 pm1 cd1 ct1 oc2 kV2 dc2 pm2 cd2 ct2 oc3 kV3 dc3 pm3 cd3 ct3 oc4 kV4 dc4 pm4 cd4 ct4 oc5 kV5 dc5 pm5 cd5 ct5 oc6 kV6 dc6 pm6 cd6 ct6 oc7 kV7 dc7 pm7 cd7 ct7 oc8 kV8 dc8 pm8 cd8 ct8 oc9 kV9 dc9 pm9 cd9 ct9 oc10 kV10 dc10 pm10 cd10 ct10 oc11 kV11 dc11 pm11 cd11 ct11 oc12 kV12 dc12 pm12 cd12 ct12 : Value}
    (a1 : PySem.W.nsIn K mainGlobals "nearest" = some (some (.ref f1))) (l1 : K.lookup f1 = some ⟨oc1, od1, .func (PySem.W.fnOf "nearest" "nearest" (defArgs sNearest) (defBody sNearest) (defScope sNearest) .none kV1 dc1 pm1 an1 cd1 ct1), sl1⟩) (c1 : PySem.W.codeIn K cd1 "nearest" = true) (k1 : PySem.W.keepIn K (.ref f1) = true)
    (a2 : PySem.W.nsIn K mainGlobals "is_number_of_points" = some (some (.ref f2))) (l2 : K.lookup f2 = some ⟨oc2, od2, .func (PySem.W.fnOf "is_number_of_points" "is_number_of_points" (defArgs sNum) (defBody sNum) (defScope sNum) .none kV2 dc2 pm2 an2 cd2 ct2), sl2⟩) (c2 : PySem.W.codeIn K cd2 "is_number_of_points" = true) (k2 : PySem.W.keepIn K (.ref f2) = true)
    (a3 : PySem.W.nsIn K mainGlobals "point_at" = some (some (.ref f3))) (l3 : K.lookup f3 = some ⟨oc3, od3, .func (PySem.W.fnOf "point_at" "point_at" (defArgs sPt) (defBody sPt) (defScope sPt) .none kV3 dc3 pm3 an3 cd3 ct3), sl3⟩) (c3 : PySem.W.codeIn K cd3 "point_at" = true) (k3 : PySem.W.keepIn K (.ref f3) = true)
    (a4 : PySem.W.nsIn K mainGlobals "points_in" = some (some (.ref f4))) (l4 : K.lookup f4 = some ⟨oc4, od4, .func (PySem.W.fnOf "points_in" "points_in" (defArgs sPts) (defBody sPts) (defScope sPts) .none kV4 dc4 pm4 an4 cd4 ct4), sl4⟩) (c4 : PySem.W.codeIn K cd4 "points_in" = true) (k4 : PySem.W.keepIn K (.ref f4) = true)
    (a5 : PySem.W.nsIn K mainGlobals "how_many_first" = some (some (.ref f5))) (l5 : K.lookup f5 = some ⟨oc5, od5, .func (PySem.W.fnOf "how_many_first" "how_many_first" (defArgs sFirst) (defBody sFirst) (defScope sFirst) .none kV5 dc5 pm5 an5 cd5 ct5), sl5⟩) (c5 : PySem.W.codeIn K cd5 "how_many_first" = true) (k5 : PySem.W.keepIn K (.ref f5) = true)
    (a6 : PySem.W.nsIn K mainGlobals "nearest_pair" = some (some (.ref f6))) (l6 : K.lookup f6 = some ⟨oc6, od6, .func (PySem.W.fnOf "nearest_pair" "nearest_pair" (defArgs sNPair) (defBody sNPair) (defScope sNPair) .none kV6 dc6 pm6 an6 cd6 ct6), sl6⟩) (c6 : PySem.W.codeIn K cd6 "nearest_pair" = true) (k6 : PySem.W.keepIn K (.ref f6) = true)
    (a7 : PySem.W.nsIn K mainGlobals "equal_pairs" = some (some (.ref f7))) (l7 : K.lookup f7 = some ⟨oc7, od7, .func (PySem.W.fnOf "equal_pairs" "equal_pairs" (defArgs sEqual) (defBody sEqual) (defScope sEqual) .none kV7 dc7 pm7 an7 cd7 ct7), sl7⟩) (c7 : PySem.W.codeIn K cd7 "equal_pairs" = true) (k7 : PySem.W.keepIn K (.ref f7) = true)
    (a8 : PySem.W.nsIn K mainGlobals "nearest_of_different" = some (some (.ref f8))) (l8 : K.lookup f8 = some ⟨oc8, od8, .func (PySem.W.fnOf "nearest_of_different" "nearest_of_different" (defArgs sDiff) (defBody sDiff) (defScope sDiff) .none kV8 dc8 pm8 an8 cd8 ct8), sl8⟩) (c8 : PySem.W.codeIn K cd8 "nearest_of_different" = true) (k8 : PySem.W.keepIn K (.ref f8) = true)
    (a9 : PySem.W.nsIn K mainGlobals "pair_of" = some (some (.ref f9))) (l9 : K.lookup f9 = some ⟨oc9, od9, .func (PySem.W.fnOf "pair_of" "pair_of" (defArgs sPair) (defBody sPair) (defScope sPair) .none kV9 dc9 pm9 an9 cd9 ct9), sl9⟩) (c9 : PySem.W.codeIn K cd9 "pair_of" = true) (k9 : PySem.W.keepIn K (.ref f9) = true)
    (a10 : PySem.W.nsIn K mainGlobals "square" = some (some (.ref f10))) (l10 : K.lookup f10 = some ⟨oc10, od10, .func (PySem.W.fnOf "square" "square" (defArgs sSq) (defBody sSq) (defScope sSq) .none kV10 dc10 pm10 an10 cd10 ct10), sl10⟩) (c10 : PySem.W.codeIn K cd10 "square" = true) (k10 : PySem.W.keepIn K (.ref f10) = true)
    (a11 : PySem.W.nsIn K mainGlobals "how_many_left" = some (some (.ref f11))) (l11 : K.lookup f11 = some ⟨oc11, od11, .func (PySem.W.fnOf "how_many_left" "how_many_left" (defArgs sLeft) (defBody sLeft) (defScope sLeft) .none kV11 dc11 pm11 an11 cd11 ct11), sl11⟩) (c11 : PySem.W.codeIn K cd11 "how_many_left" = true) (k11 : PySem.W.keepIn K (.ref f11) = true)
    (a12 : PySem.W.nsIn K mainGlobals "spots_near" = some (some (.ref f12))) (l12 : K.lookup f12 = some ⟨oc12, od12, .func (PySem.W.fnOf "spots_near" "spots_near" (defArgs sNears) (defBody sNears) (defScope sNears) .none kV12 dc12 pm12 an12 cd12 ct12), sl12⟩) (c12 : PySem.W.codeIn K cd12 "spots_near" = true) (k12 : PySem.W.keepIn K (.ref f12) = true)
    (z0 : PySem.W.nsIn K mainGlobals "range" = some none)
    (z1 : PySem.W.nsIn K mainGlobals "len" = some none)
    (z2 : PySem.W.nsIn K mainGlobals "max" = some none)
    (z3 : PySem.W.nsIn K mainGlobals "min" = some none)
    (z4 : PySem.W.nsIn K mainGlobals "sorted" = some none)
    {tk0 : Tok} (cst0 : PySem.W.nsIn K mainGlobals "MOST_POINTS" = some (some (.int 4096 tk0)))
    (cc0 : cd8 = .ref 65) (ch0 : PySem.W.codeHdIn K 65 63 = true)
    (cc1 : cd11 = .ref 86) (ch1 : PySem.W.codeHdIn K 86 82 = true)
    : ∃ fd : FuncData, (∀ (s : Shared) (us : List Value), us.length = (["n", "p"] : List Str).length → BindsTo s fd ⟨us, []⟩ ((["n", "p"] : List Str).zip us)) ∧ ∀ base : Heap, K.In base → base.Ns mainGlobals mg → Lm.BMain mg base → FnOk P w K mg base CX0 6 fa fd ["n", "p"] (spNearest K 63 82) := by
  have e := hfa.symm.trans (PySem.W.mg_of X G a1)
  cases e
  have F1 := fun_mk (st := sNearest) l1 c1 k1
  have D1 : Df K mg "nearest" sNearest ["n", "p"] _ _ := ⟨F1, F1.binds (ps := ["n", "p"]) fun _ _ _ _ _ _ us hl => match us, hl with | [_, _], _ => rfl, PySem.W.mg_of X G a1⟩
  have F2 := fun_mk (st := sNum) l2 c2 k2
  have D2 : Df K mg "is_number_of_points" sNum ["n"] _ _ := ⟨F2, F2.binds (ps := ["n"]) fun _ _ _ _ _ _ us hl => match us, hl with | [_], _ => rfl, PySem.W.mg_of X G a2⟩
  have F3 := fun_mk (st := sPt) l3 c3 k3
  have D3 : Df K mg "point_at" sPt ["numbers", "place"] _ _ := ⟨F3, F3.binds (ps := ["numbers", "place"]) fun _ _ _ _ _ _ us hl => match us, hl with | [_, _], _ => rfl, PySem.W.mg_of X G a3⟩
  have F4 := fun_mk (st := sPts) l4 c4 k4
  have D4 : Df K mg "points_in" sPts ["n", "numbers"] _ _ := ⟨F4, F4.binds (ps := ["n", "numbers"]) fun _ _ _ _ _ _ us hl => match us, hl with | [_, _], _ => rfl, PySem.W.mg_of X G a4⟩
  have F5 := fun_mk (st := sFirst) l5 c5 k5
  have D5 : Df K mg "how_many_first" sFirst ["things", "is_ahead"] _ _ := ⟨F5, F5.binds (ps := ["things", "is_ahead"]) fun _ _ _ _ _ _ us hl => match us, hl with | [_, _], _ => rfl, PySem.W.mg_of X G a5⟩
  have F6 := fun_mk (st := sNPair) l6 c6 k6
  have D6 : Df K mg "nearest_pair" sNPair ["points"] _ _ := ⟨F6, F6.binds (ps := ["points"]) fun _ _ _ _ _ _ us hl => match us, hl with | [_], _ => rfl, PySem.W.mg_of X G a6⟩
  have F7 := fun_mk (st := sEqual) l7 c7 k7
  have D7 : Df K mg "equal_pairs" sEqual ["points"] _ _ := ⟨F7, F7.binds (ps := ["points"]) fun _ _ _ _ _ _ us hl => match us, hl with | [_], _ => rfl, PySem.W.mg_of X G a7⟩
  have F8 := fun_mk (st := sDiff) l8 c8 k8
  have D8 : Df K mg "nearest_of_different" sDiff ["points"] _ _ := ⟨F8, F8.binds (ps := ["points"]) fun _ _ _ _ _ _ us hl => match us, hl with | [_], _ => rfl, PySem.W.mg_of X G a8⟩
  have F9 := fun_mk (st := sPair) l9 c9 k9
  have D9 : Df K mg "pair_of" sPair ["spot", "other"] _ _ := ⟨F9, F9.binds (ps := ["spot", "other"]) fun _ _ _ _ _ _ us hl => match us, hl with | [_, _], _ => rfl, PySem.W.mg_of X G a9⟩
  have F10 := fun_mk (st := sSq) l10 c10 k10
  have D10 : Df K mg "square" sSq ["number"] _ _ := ⟨F10, F10.binds (ps := ["number"]) fun _ _ _ _ _ _ us hl => match us, hl with | [_], _ => rfl, PySem.W.mg_of X G a10⟩
  have F11 := fun_mk (st := sLeft) l11 c11 k11
  have D11 : Df K mg "how_many_left" sLeft ["kept", "spot"] _ _ := ⟨F11, F11.binds (ps := ["kept", "spot"]) fun _ _ _ _ _ _ us hl => match us, hl with | [_, _], _ => rfl, PySem.W.mg_of X G a11⟩
  have F12 := fun_mk (st := sNears) l12 c12 k12
  have D12 : Df K mg "spots_near" sNears ["kept", "left", "spot", "most"] _ _ := ⟨F12, F12.binds (ps := ["kept", "left", "spot", "most"]) fun _ _ _ _ _ _ us hl => match us, hl with | [_, _, _, _], _ => rfl, PySem.W.mg_of X G a12⟩
  have B0 : mg "range" = none := PySem.W.mg_none_of X G z0
  have B1 : mg "len" = none := PySem.W.mg_none_of X G z1
  have B2 : mg "max" = none := PySem.W.mg_none_of X G z2
  have B3 : mg "min" = none := PySem.W.mg_none_of X G z3
  have B4 : mg "sorted" = none := PySem.W.mg_none_of X G z4
  have C0 : mg "MOST_POINTS" = some (.int 4096 tk0) := PySem.W.mg_of X G cst0
  exact ⟨PySem.W.fnOf "nearest" "nearest" (defArgs sNearest) (defBody sNearest) (defScope sNearest) .none kV1 dc1 pm1 an1 cd1 ct1, fun s us hu => match us, hu with | [_, _], _ => .of_eq rfl, fun base kb _ hbm => ok_nearest (by decide) cc0 (PySem.W.codeHd_of_K kb ch0) cc1 (PySem.W.codeHd_of_K kb ch1) hbm D1 D2 D3 D4 D5 D6 D7 D8 D9 D10 D11 D12 C0 B0 B1 B2 B3 B4⟩
end Ex
open PySem PySem.W PyProof.Rows
set_option maxRecDepth 100000 in
set_option maxHeartbeats 0 in
theorem PySem.Challenge.cw_exactplane_s07_nearest_holds : PySem.Challenge.rw_exactplane_s07_nearest.Holds := by
  w_on; k_headS; (case hw => exact ⟨[.int 1, .list []], by decide +kernel, by decide +kernel⟩)
  k_fillS
  refine Lm.walk_specT (r := PySem.Challenge.rw_exactplane_s07_nearest) (k := 6) (CX := L2.CX0) (ps := ["n", "p"]) (sp := fun K => Ex.spNearest K 63 82) [(65, 63), (86, 82)] [("nearest_of_different", 65, 63), ("how_many_left", 86, 82)] (by decide +kernel) rfl rfl ⟨rfl, by decide, by decide⟩ (fun w h Y => PySem.W.kIn_of Y) ?NT rfl (by decide +kernel) ?IN ?F ?S (fun _ _ _ _ z => z)
  case NT => exact fun w => by kernel_rfl
  case IN => exact fun w => List.forall_mem_cons.mpr ⟨by kernel_rfl, List.forall_mem_cons.mpr ⟨by kernel_rfl, fun _ h => nomatch h⟩⟩
  case F =>
    intro w mg fa h Y KX G hmg
    refine' Ex.all_mk KX G hmg ?a1 ?l1 ?c1 ?k1 ?a2 ?l2 ?c2 ?k2 ?a3 ?l3 ?c3 ?k3 ?a4 ?l4 ?c4 ?k4 ?a5 ?l5 ?c5 ?k5 ?a6 ?l6 ?c6 ?k6 ?a7 ?l7 ?c7 ?k7 ?a8 ?l8 ?c8 ?k8 ?a9 ?l9 ?c9 ?k9 ?a10 ?l10 ?c10 ?k10 ?a11 ?l11 ?c11 ?k11 ?a12 ?l12 ?c12 ?k12 ?z0 ?z1 ?z2 ?z3 ?z4 ?cst0 ?cc0 ?ch0 ?cc1 ?ch1
    (case a1 => k_is)
    (case l1 => k_is)
    (case c1 => k_is)
    (case k1 => k_is)
    (case a2 => k_is)
    (case l2 => k_is)
    (case c2 => k_is)
    (case k2 => k_is)
    (case a3 => k_is)
    (case l3 => k_is)
    (case c3 => k_is)
    (case k3 => k_is)
    (case a4 => k_is)
    (case l4 => k_is)
    (case c4 => k_is)
    (case k4 => k_is)
    (case a5 => k_is)
    (case l5 => k_is)
    (case c5 => k_is)
    (case k5 => k_is)
    (case a6 => k_is)
    (case l6 => k_is)
    (case c6 => k_is)
    (case k6 => k_is)
    (case a7 => k_is)
    (case l7 => k_is)
    (case c7 => k_is)
    (case k7 => k_is)
    (case a8 => k_is)
    (case l8 => k_is)
    (case c8 => k_is)
    (case k8 => k_is)
    (case a9 => k_is)
    (case l9 => k_is)
    (case c9 => k_is)
    (case k9 => k_is)
    (case a10 => k_is)
    (case l10 => k_is)
    (case c10 => k_is)
    (case k10 => k_is)
    (case a11 => k_is)
    (case l11 => k_is)
    (case c11 => k_is)
    (case k11 => k_is)
    (case a12 => k_is)
    (case l12 => k_is)
    (case c12 => k_is)
    (case k12 => k_is)
    (case z0 => k_is)
    (case z1 => k_is)
    (case z2 => k_is)
    (case z3 => k_is)
    (case z4 => k_is)
    (case cst0 => k_is)
    (case cc0 => exact rfl)
    (case ch0 => kernel_rfl)
    (case cc1 => exact rfl)
    (case ch1 => kernel_rfl)
  case S =>
    intro K H xs a hO hwi hask hx
    cases hx with
    | cons h1 h2 =>
      cases h2 with
      | cons h3 h4 =>
        cases h4
        cases h1
        cases h3 with
        | lst hs ha =>
          have e := L2.ints_dw a.2.1 _ ha
          subst e
          have q : (Codec.inInt (-2147483648) 2147483647 a.1 && ((Codec.inLen 0 8192 a.2.1 && a.2.1.all (Codec.inInt (-9223372036854775808) 9223372036854775807)) && true)) = true := hwi
          rw [Bool.and_eq_true, Bool.and_eq_true, Bool.and_eq_true] at q
          have ask : PySw12.nearest_asked a.1 a.2.1 = true := hask
          refine ⟨_, a.1, a.2.1, rfl, hs, fun n1 n2 => RM.asked_nearest ask n1 n2, fun z hz => ?_, .inl (hO (65, 63) (by simp)), .inl (hO (86, 82) (by simp)), fun H' p hp => .lst (L2.SqL.of hp) (L2.dw_ints _)⟩
          have z2 : Codec.inInt (-9223372036854775808) 9223372036854775807 z = true := List.all_eq_true.mp q.2.1.2 z hz
          unfold Codec.inInt at z2
          simp only [Bool.and_eq_true, decide_eq_true_eq] at z2
          exact z2
#print axioms PySem.Challenge.cw_exactplane_s07_nearest_holds
