import PyProof.Rows.All
import Wide.All
import OpenK.AllK
import Wide.FinOn
import PyProof.EqAt
import PyProof.EqKinds
import PyProof.TupleCall
import KE.BitLaws
import Open.SpecLaws
import KE.OsHead
import KE.OsGo
import PyFlatLaws
import PySem.Challenge.RW_oddmodulus_s01_answers
set_option Elab.async false
set_option linter.all false
set_option maxRecDepth 100000
namespace L2
open PySem PySem.Spec PyProof.Rows
/-- a key: an int or a str -/
abbrev Key := Sum Int Str
def keyIs : Key → Value → Bool
  | .inl k, v => Value.isInt k v
  | .inr x, v => Value.isStrOf x v
def keyH (w : World) : Key → Int
  | .inl k => hashInt k
  | .inr x => hashStr w x
theorem keyIs_shape : ∀ {k : Key} {v : Value}, keyIs k v = true → (∃ i t, k = Sum.inl i ∧ v = Value.int i t) ∨ (∃ x t, k = Sum.inr x ∧ v = Value.str x t)
  | .inl i, v, h => by
    obtain ⟨t, e⟩ := Value.isInt_shape (k := i) (v := v) h
    exact .inl ⟨i, t, rfl, e⟩
  | .inr x, v, h => by
    obtain ⟨t, e⟩ := Value.isStrOf_shape (x := x) (v := v) h
    exact .inr ⟨x, t, rfl, e⟩
theorem key_ll (a b : Int) : decide ((Sum.inl a : Key) = Sum.inl b) = (a == b) := by
  by_cases e : a = b
  · subst e; simp
  · have h : ¬ (Sum.inl a : Key) = Sum.inl b := fun q => e (Sum.inl.inj q)
    rw [decide_eq_false h]
    exact (beq_eq_false_iff_ne.mpr e).symm
theorem key_rr (a b : Str) : decide ((Sum.inr a : Key) = Sum.inr b) = decide (a = b) := by
  by_cases e : a = b
  · subst e; simp
  · have h : ¬ (Sum.inr a : Key) = Sum.inr b := fun q => e (Sum.inr.inj q)
    rw [decide_eq_false h, decide_eq_false e]
theorem key_lr (a : Int) (b : Str) : decide ((Sum.inl a : Key) = Sum.inr b) = false := decide_eq_false (fun q => nomatch q)
theorem key_rl (a : Str) (b : Int) : decide ((Sum.inr a : Key) = Sum.inl b) = false := decide_eq_false (fun q => nomatch q)
def mixKind (prog : Program) (w : World) : PySem.KeyKind prog w Key where
  is := keyIs
  hash := keyH w
  inj := fun v a b ha hb => by
    rcases keyIs_shape ha with ⟨i, t, rfl, rfl⟩ | ⟨x, t, rfl, rfl⟩
    · rcases keyIs_shape hb with ⟨j, u, rfl, e⟩ | ⟨y, u, rfl, e⟩
      · injection e with e1 _; rw [e1]
      · exact nomatch e
    · rcases keyIs_shape hb with ⟨j, u, rfl, e⟩ | ⟨y, u, rfl, e⟩
      · exact nomatch e
      · injection e with e1 _; rw [e1]
  byValue := fun k v h => by
    rcases keyIs_shape h with ⟨i, t, rfl, rfl⟩ | ⟨x, t, rfl, rfl⟩ <;> rfl
  pyHash := fun hv h => by
    rcases keyIs_shape hv with ⟨i, t, rfl, rfl⟩ | ⟨x, t, rfl, rfl⟩
    · exact wpAny_pyHash_int h
    · exact wpAny_pyHash_str h
  eqBool := fun hu hv h => by
    rcases keyIs_shape hu with ⟨i, t, rfl, rfl⟩ | ⟨x, t, rfl, rfl⟩
    · rcases keyIs_shape hv with ⟨j, u, rfl, rfl⟩ | ⟨y, u, rfl, rfl⟩
      · rw [key_ll] at h; exact wpAny_eqBool_int h
      · rw [key_lr] at h; exact SeqAt.EqAt.int_str i t y u _ _ _ _ h
    · rcases keyIs_shape hv with ⟨j, u, rfl, rfl⟩ | ⟨y, u, rfl, rfl⟩
      · rw [key_rl] at h; exact SeqAt.EqAt.str_int x t j u _ _ _ _ h
      · rw [key_rr] at h; exact wpAny_eqBool_str h
  «strs» := fun k x t v h => by
    rcases keyIs_shape h with ⟨i, u, rfl, e⟩ | ⟨y, u, rfl, e⟩
    · exact nomatch e
    · injection e with e1 _
      subst e1
      cases v <;> rfl
end L2
namespace L2
open PySem PySem.Spec PyProof.Rows
/-- a value, without the heap -/
inductive V where
  | non | bl (b : Bool) | int (i : Int) | str (x : Str) | byt (b : Array UInt8) | flt (b : UInt64) | ref (a : Addr) | ty (n : String)
  deriving DecidableEq
def RelV : V → Value → Prop
  | .non, u => u = Value.none
  | .bl b, u => u = Value.bool b
  | .int i, u => ∃ t, u = Value.int i t
  | .str x, u => ∃ t, u = Value.str x t
  | .byt b, u => ∃ t, u = Value.bytes b t
  | .flt b, u => ∃ t, u = Value.float b t
  | .ref a, u => u = Value.ref a
  | .ty n, u => u = Value.type n
abbrev Vals : List V → List Value → Prop := Paired RelV
theorem Vals.length {xs : List V} {us : List Value} (r : Vals xs us) : xs.length = us.length := Paired.length r
theorem Vals.get : ∀ {xs : List V} {us : List Value} {i : Nat} {x : V}, Vals xs us → xs[i]? = some x → ∃ u, us[i]? = some u ∧ RelV x u
  | _, _, _, _, .nil, e => by simp at e
  | _, _, 0, _, .cons r _, e => by simp at e; subst e; exact ⟨_, rfl, r⟩
  | _, _, i + 1, x, .cons _ t, e => by
    obtain ⟨u, h1, h2⟩ := Vals.get (i := i) (x := x) t (by simpa using e)
    exact ⟨u, by simpa using h1, h2⟩
theorem Vals.set {x : V} {u : Value} (r : RelV x u) : ∀ {xs : List V} {us : List Value} (i : Nat), Vals xs us → Vals (xs.set i x) (us.set i u)
  | _, _, _, .nil => .nil
  | _, _, 0, .cons _ t => .cons r t
  | _, _, i + 1, .cons q t => .cons q (Vals.set r i t)
theorem Vals.append : ∀ {xs ys : List V} {us ws : List Value}, Vals xs us → Vals ys ws → Vals (xs ++ ys) (us ++ ws)
  | _, _, _, _, .nil, s => s
  | _, _, _, _, .cons r t, s => .cons r (Vals.append t s)
theorem Vals.take : ∀ {xs : List V} {us : List Value} (n : Nat), Vals xs us → Vals (xs.take n) (us.take n)
  | _, _, 0, _ => .nil
  | _, _, _ + 1, .nil => .nil
  | _, _, n + 1, .cons r t => .cons r (Vals.take n t)
theorem Vals.drop : ∀ {xs : List V} {us : List Value} (n : Nat), Vals xs us → Vals (xs.drop n) (us.drop n)
  | _, _, 0, r => r
  | _, _, _ + 1, .nil => .nil
  | _, _, n + 1, .cons _ t => Vals.drop n t
theorem Vals.none_of : ∀ {xs : List V} {us : List Value} {i : Nat}, Vals xs us → xs[i]? = none → us[i]? = none := fun {xs us i} r e => by
  have h1 := r.length
  have h2 : xs.length ≤ i := List.getElem?_eq_none_iff.mp e
  exact List.getElem?_eq_none_iff.mpr (by omega)
def RelO : Option V → Option Value → Prop
  | some v, some u => RelV v u
  | none, none => True
  | _, _ => False
def KV {κ : Type} : List (κ × V) → List (κ × Value) → Prop := Paired fun (p : κ × V) (q : κ × Value) => p.1 = q.1 ∧ RelV p.2 q.2
/-- a key of a dict (00_mix): an int or a text -/
def kV : Key → V
  | .inl i => .int i
  | .inr x => .str x
/-- what stands at a tracked address -/
inductive HO where
  /-- a list -/
  | lst (xs : List V)
  /-- a tuple (never changes) -/
  | tup (xs : List V)
  /-- a dict whose keys are ints and texts; one whose keys are tuples of ints and texts (the empty one is both) -/
  | dK (kvs : List (Key × V)) | dT (kvs : List (List Key × V))
  /-- a set of ints: its members, its size -/
  | set (S : Int → Bool) (n : Nat)
  /-- an instance of the class at C, its dict at dx, its attributes -/
  | ins (C dx : Addr) (fs : List (Str × V))
  /-- the dict of the instance at x -/
  | own (x : Addr)
  /-- the dict of an exception -/
  | xd (fs : List (Str × V))
  /-- a bound method, f of x -/
  | met (f x : Addr)
  /-- a range object lo, lo + 1, .. below hi -/
  | rng (lo hi : Int)
  /-- a thing that is known to the object (the script; a dict while a loop walks it): read, never written while it is so -/
  | frz (o : Obj) (u : HO)
  /-- a code object's table -/
  | tbl (ps : Array Value)
  /-- any other thing, by what is true of its one object (a def of one's own: SetO a S n := HO.ext fun h => ..) -/
  | ext (φ : Heap → Prop)
abbrev Hp := Addr → Option HO
def upd (H : Hp) (a : Addr) (o : HO) : Hp := fun b => if b = a then some o else H b
theorem upd_same {H : Hp} {a : Addr} {o : HO} : upd H a o a = some o := by unfold upd; rw [if_pos rfl]
theorem upd_ne {H : Hp} {a b : Addr} {o : HO} (h : b ≠ a) : upd H a o b = H b := by unfold upd; rw [if_neg h]
theorem upd_upd {H : Hp} {a : Addr} {o u : HO} : upd (upd H a o) a u = upd H a u := by
  funext b; unfold upd; split <;> rfl
/-- two objects of different content stand apart -/
theorem ne_of {H : Hp} {a b : Addr} {o u : HO} (h : H a = some o) (h' : H b = some u) (d : o ≠ u) : a ≠ b := by
  intro e; subst e; rw [h] at h'; exact d (Option.some.inj h')
theorem ne_of_none {H : Hp} {a b : Addr} {o : HO} (h : H a = some o) (h' : H b = none) : a ≠ b := by
  intro e; subst e; rw [h] at h'; cases h'
section
variable (P : Program) (w : World)
def ObjOk (H : Hp) (h : Heap) (a : Addr) : HO → Prop
  | .lst xs => xs.length ≤ sizeLine ∧ ∃ (its : List Value) (n : Nat), Vals xs its ∧ h.get? a = some { cls := .type "list", data := .seq its.toArray n }
  | .tup xs => xs.length ≤ sizeLine ∧ ∃ its : List Value, Vals xs its ∧ IsTup h a its.toArray
  | .dK kvs => kvs.length ≤ sizeLine ∧ (a == sysModules) = false ∧ ∃ vs, KV kvs vs ∧ h.DictOf (mixKind P w) a vs
  | .dT kvs => kvs.length ≤ sizeLine ∧ (a == sysModules) = false ∧ ∃ xs : List (List Key × Addr × Value),
      Paired (fun (p : List Key × V) (q : List Key × Addr × Value) => p.1 = q.1 ∧ H q.2.1 = some (.tup (p.1.map kV)) ∧ RelV p.2 q.2.2) kvs xs ∧
      ∃ o es ep, h.get? a = some o ∧ o.ExactDict ∧ o.data = .dict es ep ∧ es.toList = xs.map (entryOfKey (tupleKind (mixKind P w))) ∧ (xs.map (·.1)).Nodup
  | .set S n => h.SetOf (intKind P w) a S n
  | .ins C dx fs => H dx = some (.own a) ∧ fs.length ≤ 1000 ∧ dx ≠ a ∧ h.get? a = some (PySem.W.instObj C dx) ∧
      ∃ mA, h.Ns1 dx mA ∧ (∀ f, RelO (fs.lookup f) (mA f)) ∧ PySem.Within mA (fs.map (·.1))
  | .own _ => ∃ o, h.get? a = some o
  | .xd fs => ∃ mA, h.Ns1 a mA ∧ ∀ f, RelO (fs.lookup f) (mA f)
  | .rng lo hi => ∃ t u v, h.get? a = some { cls := .type "range", data := .fields #[.int lo t, .int hi u, .int 1 v] }
  | .frz o u => h.get? a = some o ∧ ObjOk H h a u
  | .tbl ps => h.get? a = some { cls := .none, data := .fields ps }
  | .met f x => h.get? a = some (PySem.W.methodObj (.ref f) (.ref x))
  | .ext φ => φ h ∧ (∃ o, h.get? a = some o) ∧ ∀ h1 h2 : Heap, φ h1 → (∀ o, h1.get? a = some o → h2.get? a = some o) → φ h2
/-- the abstract heap is held -/
def HOk (H : Hp) (h : Heap) : Prop := ∀ a o, H a = some o → ObjOk P w H h a o
end
section
variable {P : Program} {w : World} {H H' : Hp} {h h' : Heap} {a : Addr} {o : HO}
theorem ObjOk.lt (x : ObjOk P w H h a o) : a < h.objs.size := by
  cases o with
  | lst xs => obtain ⟨_, _, _, _, e⟩ := x; exact Heap.lt_size e
  | tup xs => obtain ⟨_, _, _, p⟩ := x; exact p.lt
  | dK kvs => obtain ⟨_, _, _, _, o, _, _, e, _⟩ := x; exact Heap.lt_size e
  | dT kvs => obtain ⟨_, _, _, _, o, _, _, e, _⟩ := x; exact Heap.lt_size e
  | set S n => obtain ⟨o, _, _, _, e, _⟩ := x; exact Heap.lt_size e
  | ins C dx fs => obtain ⟨_, _, _, e, _⟩ := x; exact Heap.lt_size e
  | own y => obtain ⟨_, e⟩ := x; exact Heap.lt_size e
  | xd fs => obtain ⟨_, ⟨_, _, _, e, _⟩, _⟩ := x; exact Heap.lt_size e
  | rng lo hi => obtain ⟨_, _, _, e⟩ := x; exact Heap.lt_size e
  | frz ob u => obtain ⟨e, _⟩ := x; exact Heap.lt_size e
  | tbl ps => exact Heap.lt_size (show h.get? a = some _ from x)
  | met f y => exact Heap.lt_size (show h.get? a = some _ from x)
  | ext φ => obtain ⟨_, ⟨_, e⟩, _⟩ := x; exact Heap.lt_size e
theorem Paired.mapP {α β : Type} {F G : α → β → Prop} : ∀ {l₁ : List α} {l₂ : List β}, Paired F l₁ l₂ → (∀ a b, F a b → G a b) → Paired G l₁ l₂
  | _, _, .nil, _ => .nil
  | _, _, .cons r t, f => .cons (f _ _ r) (Paired.mapP t f)
/-- what an object's description leans on: its own object, its own dict, the tuples -/
theorem ObjOk.stay (x : ObjOk P w H h a o) (k : ∀ b u, (b = a ∨ H b = some (.own a)) → h.get? b = some u → h'.get? b = some u)
    (ho : ∀ b, H b = some (.own a) → H' b = some (.own a)) (ht : ∀ b xs, H b = some (.tup xs) → H' b = some (.tup xs)) : ObjOk P w H' h' a o := by
  induction o with
  | lst xs => obtain ⟨z, its, n, r, e⟩ := x; exact ⟨z, its, n, r, k _ _ (.inl rfl) e⟩
  | tup xs => obtain ⟨z, its, r, ob, e, c⟩ := x; exact ⟨z, its, r, ob, k _ _ (.inl rfl) e, c⟩
  | dK kvs => obtain ⟨z, y, vs, r, ob, es, ep, e, c⟩ := x; exact ⟨z, y, vs, r, ob, es, ep, k _ _ (.inl rfl) e, c⟩
  | dT kvs =>
    obtain ⟨z, y, xs, r, ob, es, ep, e, c⟩ := x
    exact ⟨z, y, xs, Paired.mapP r fun p q z => ⟨z.1, ht _ _ z.2.1, z.2.2⟩, ob, es, ep, k _ _ (.inl rfl) e, c⟩
  | set S n => obtain ⟨ob, es, ep, t, e, c⟩ := x; exact ⟨ob, es, ep, t, k _ _ (.inl rfl) e, c⟩
  | ins C dx fs =>
    obtain ⟨d, z, ne, e, mA, ⟨od, es, ep, e2, c⟩, r⟩ := x
    exact ⟨ho _ d, z, ne, k _ _ (.inl rfl) e, mA, ⟨od, es, ep, k _ _ (.inr d) e2, c⟩, r⟩
  | own y => obtain ⟨ob, e⟩ := x; exact ⟨ob, k _ _ (.inl rfl) e⟩
  | xd fs => obtain ⟨mA, ⟨od, es, ep, e, c⟩, r⟩ := x; exact ⟨mA, ⟨od, es, ep, k _ _ (.inl rfl) e, c⟩, r⟩
  | rng lo hi => obtain ⟨t, u, v, e⟩ := x; exact ⟨t, u, v, k _ _ (.inl rfl) e⟩
  | frz ob u ih => obtain ⟨e, q⟩ := x; exact ⟨k _ _ (.inl rfl) e, ih q⟩
  | tbl ps =>
    have e : h.get? a = some { cls := .none, data := .fields ps } := x
    show h'.get? a = some { cls := .none, data := .fields ps }
    exact k a _ (.inl rfl) e
  | met f y =>
    have e : h.get? a = some (PySem.W.methodObj (.ref f) (.ref y)) := x
    show h'.get? a = some (PySem.W.methodObj (.ref f) (.ref y))
    exact k a _ (.inl rfl) e
  | ext φ => obtain ⟨p, ⟨o, e⟩, st⟩ := x; exact ⟨st _ _ p fun o q => k _ _ (.inl rfl) q, ⟨o, k _ _ (.inl rfl) e⟩, st⟩
theorem HOk.lt (x : HOk P w H h) (e : H a = some o) : a < h.objs.size := (x a o e).lt
theorem HOk.fresh (x : HOk P w H h) (e : h.objs.size ≤ a) : H a = none := by
  cases q : H a with
  | none => rfl
  | some u => exact absurd (Nat.lt_of_lt_of_le (x.lt q) e) (Nat.lt_irrefl _)
/-- every object of the heap is kept -/
theorem HOk.kept (x : HOk P w H h) (k : ∀ b u, h.get? b = some u → h'.get? b = some u) : HOk P w H h' := fun a o e =>
  (x a o e).stay (fun b u _ q => k b u q) (fun _ q => q) fun _ _ q => q
/-- a new object is laid and tracked -/
theorem HOk.laid (x : HOk P w H h) (k : ∀ b u, h.get? b = some u → h'.get? b = some u) (hp : h.objs.size ≤ a) (new : ObjOk P w (upd H a o) h' a o) : HOk P w (upd H a o) h' := fun b u e => by
  have hn := x.fresh hp
  by_cases hb : b = a
  · subst hb; rw [upd_same] at e; cases e; exact new
  · rw [upd_ne hb] at e
    exact (x b u e).stay (fun c v _ q => k c v q) (fun c q => by rw [upd_ne (ne_of_none q hn)]; exact q) fun c xs q => by rw [upd_ne (ne_of_none q hn)]; exact q
end
/-- what may be read as u: it is u, or a known u -/
def Rd (H : Hp) (a : Addr) (u : HO) : Prop := H a = some u ∨ ∃ o, H a = some (.frz o u)
theorem Rd.of {H : Hp} {a : Addr} {u : HO} (h : H a = some u) : Rd H a u := .inl h
theorem Rd.ok {P : Program} {w : World} {H : Hp} {h : Heap} {a : Addr} {u : HO} (r : Rd H a u) (x : HOk P w H h) : ObjOk P w H h a u := by
  rcases r with r | ⟨o, r⟩
  · exact x a u r
  · obtain ⟨_, q⟩ := x a _ r
    exact q
/-- what may be written -/
def Mut : Option HO → Prop
  | some (.lst _) => True
  | some (.dK _) => True
  | some (.dT _) => True
  | some (.set _ _) => True
  | some (.ins _ _ _) => True
  | some (.ext _) => True
  | _ => False
section
variable {P : Program} {w : World} {H : Hp} {h h' : Heap} {x e : Addr} {o' : HO}
/-- the object at e is changed: x itself, or the dict of the instance x -/
theorem HOk.write (ok : HOk P w H h) (mu : Mut (H x)) (he : e = x ∨ H e = some (.own x)) (k : ∀ b u, b ≠ e → h.get? b = some u → h'.get? b = some u) (heo : ∃ u, h'.get? e = some u)
    (new : ObjOk P w (upd H x o') h' x o') : HOk P w (upd H x o') h' := fun b u q => by
  have nown : ∀ c y, H c = some (.own y) → c ≠ x := fun c y r z => by subst z; rw [r] at mu; exact mu
  have ntup : ∀ c xs, H c = some (.tup xs) → c ≠ x := fun c xs r z => by subst z; rw [r] at mu; exact mu
  by_cases hb : b = x
  · subst hb; rw [upd_same] at q; cases q; exact new
  · rw [upd_ne hb] at q
    by_cases hbe : b = e
    · have q' : H b = some (.own x) := by
        rcases he with z | z
        · exact absurd (hbe.trans z) hb
        · rw [hbe]; exact z
      rw [q] at q'; cases q'
      obtain ⟨v, hv⟩ := heo
      exact ⟨v, by rw [hbe]; exact hv⟩
    · refine (ok b u q).stay (fun c v hc r => k c v ?_ r) (fun c r => by rw [upd_ne (nown c b r)]; exact r) fun c xs r => by rw [upd_ne (ntup c xs r)]; exact r
      rcases hc with rfl | hc
      · exact hbe
      · rintro rfl
        rcases he with z | z
        · exact nown c b hc z
        · rw [hc] at z; cases z; exact hb rfl
end
structure Un (fs ex : List Addr) (H H' : Hp) (h h' : Heap) : Prop where
  keep : ∀ b o, h.get? b = some o → H b = none → b ∉ fs → b ∉ ex → h'.get? b = some o
  slot : ∀ b o, h.get? b = some o → H b = none → b ∈ fs → b ∉ ex → ∃ sl, h'.get? b = some { o with slots := sl }
  free : ∀ b o, h.get? b = some o → H b = none → b ∉ ex → H' b = none
  there : ∀ b o, h.get? b = some o → b ∉ ex → ∃ o', h'.get? b = some o'
  tups : ∀ b xs, H b = some (.tup xs) → H' b = some (.tup xs)
  frzs : ∀ b o u, H b = some (.frz o u) → H' b = some (.frz o u)
  tbls : ∀ b ps, H b = some (.tbl ps) → ∃ more, H' b = some (.tbl (ps ++ more))
section
variable {fs fs' ex ex' : List Addr} {H H1 H2 : Hp} {h h1 h2 h' : Heap} {a x e : Addr} {o : HO}
theorem Un.any (u : Un fs ex H H1 h h1) {b : Addr} {ob : Obj} (q : h.get? b = some ob) (n : H b = none) (hx : b ∉ ex) : ∃ sl, h1.get? b = some { ob with slots := sl } := by
  by_cases hb : b ∈ fs
  · exact u.slot b ob q n hb hx
  · exact ⟨ob.slots, u.keep b ob q n hb hx⟩
theorem Un.trans (a : Un fs ex H H1 h h1) (b : Un fs ex H1 H2 h1 h2) : Un fs ex H H2 h h2 where
  keep := fun c ob q n hc hx => b.keep c ob (a.keep c ob q n hc hx) (a.free c ob q n hx) hc hx
  slot := fun c ob q n hc hx => by
    obtain ⟨sl, e1⟩ := a.slot c ob q n hc hx
    obtain ⟨sl', e2⟩ := b.slot c _ e1 (a.free c ob q n hx) hc hx
    exact ⟨sl', e2⟩
  free := fun c ob q n hx => by
    obtain ⟨o', e1⟩ := a.there c ob q hx
    exact b.free c o' e1 (a.free c ob q n hx) hx
  there := fun c ob q hx => by
    obtain ⟨o', e1⟩ := a.there c ob q hx
    exact b.there c o' e1 hx
  tups := fun c xs q => b.tups c xs (a.tups c xs q)
  frzs := fun c ob xs q => b.frzs c ob xs (a.frzs c ob xs q)
  tbls := fun c ps q => by
    obtain ⟨m1, e1⟩ := a.tbls c ps q
    obtain ⟨m2, e2⟩ := b.tbls c _ e1
    exact ⟨m1 ++ m2, by rw [e2, Array.append_assoc]⟩
theorem Un.kept (k : ∀ b u, h.get? b = some u → h'.get? b = some u) : Un fs ex H H h h' :=
  ⟨fun b ob q _ _ _ => k b ob q, fun b ob q _ _ _ => ⟨ob.slots, k b ob q⟩, fun _ _ _ n _ => n, fun b ob q _ => ⟨ob, k b ob q⟩, fun _ _ q => q, fun _ _ _ q => q, fun _ ps q => ⟨#[], by rw [q]; simp⟩⟩
theorem Un.refl : Un fs ex H H h h := Un.kept fun _ _ q => q
theorem Un.laid (k : ∀ b u, h.get? b = some u → h'.get? b = some u) (hp : h.objs.size ≤ a) (hn : H a = none) : Un fs ex H (upd H a o) h h' where
  keep := fun b u q _ _ _ => k b u q
  slot := fun b u q _ _ _ => ⟨u.slots, k b u q⟩
  free := fun b u q n _ => by rw [upd_ne (Nat.ne_of_lt (Nat.lt_of_lt_of_le (Heap.lt_size q) hp))]; exact n
  there := fun b u q _ => ⟨u, k b u q⟩
  tups := fun b xs q => by rw [upd_ne (ne_of_none q hn)]; exact q
  frzs := fun b u xs q => by rw [upd_ne (ne_of_none q hn)]; exact q
  tbls := fun b ps q => ⟨#[], by rw [upd_ne (ne_of_none q hn), q]; simp⟩
theorem Un.write (mu : Mut (H x)) (he : e = x ∨ H e = some (.own x)) (k : ∀ b u, b ≠ e → h.get? b = some u → h'.get? b = some u) (heo : ∃ u, h'.get? e = some u) : Un fs ex H (upd H x o) h h' := by
  have hx : ∀ b, H b = none → b ≠ x := fun b n z => by subst z; rw [n] at mu; exact mu
  have hb : ∀ b, H b = none → b ≠ e := fun b n z => by
    subst z
    rcases he with r | r
    · exact hx b n r
    · rw [n] at r; cases r
  have hm : ∀ b u, H b = some u → ¬ Mut (some u) → b ≠ x := fun b u q nm z => by subst z; rw [q] at mu; exact nm mu
  refine ⟨fun b u q n _ _ => k b u (hb b n) q, fun b u q n _ _ => ⟨u.slots, k b u (hb b n) q⟩, fun b u q n _ => by rw [upd_ne (hx b n)]; exact n, fun b u q _ => ?_,
    fun b xs q => by rw [upd_ne (hm b _ q fun z => z)]; exact q, fun b u xs q => by rw [upd_ne (hm b _ q fun z => z)]; exact q, fun b ps q => ⟨#[], by rw [upd_ne (hm b _ q fun z => z), q]; simp⟩⟩
  by_cases hbe : b = e
  · subst hbe; exact heo
  · exact ⟨u, k b u hbe q⟩
theorem Un.mono (u : Un fs ex H H1 h h1) (hs : ∀ b ∈ fs, b ∈ fs') (hx : ∀ b ∈ ex, b ∈ ex') : Un fs' ex' H H1 h h1 :=
  ⟨fun b ob q n hb he => u.keep b ob q n (fun z => hb (hs b z)) fun z => he (hx b z), fun _ _ q n _ he => u.any q n fun z => he (hx _ z), fun b ob q n he => u.free b ob q n fun z => he (hx b z), fun b ob q he => u.there b ob q fun z => he (hx b z), u.tups, u.frzs, u.tbls⟩
end
def trk (h : Heap) (H : Hp) : List Addr := (List.range h.objs.size).filter fun a => (H a).isSome
def hidT (h : Heap) (H : Hp) : Heap := PySem.W.hideAll h (trk h H)
theorem hidT_size (h : Heap) (H : Hp) : (hidT h H).objs.size = h.objs.size := PySem.W.hideAll_size _ _
theorem hidT_get {h : Heap} {H : Hp} {b : Addr} {o : Obj} (e : h.get? b = some o) (n : H b = none) : (hidT h H).get? b = some o :=
  PySem.W.hideAll_get _ e fun hm => by
    have q : (H b).isSome = true := (List.mem_filter.mp hm).2
    rw [n] at q; simp at q
theorem of_hidT {h : Heap} {H : Hp} {b : Addr} {o : Obj} (e : (hidT h H).get? b = some o) : h.get? b = some o ∧ H b = none := by
  have e' : h.get? b = some o := PySem.W.of_hideAll (trk h H) e
  refine ⟨e', ?_⟩
  cases q : H b with
  | none => rfl
  | some x =>
    have hm : b ∈ trk h H := List.mem_filter.mpr ⟨List.mem_range.mpr (Heap.lt_size e'), by simp [q]⟩
    have z : (hidT h H).get? b = none := PySem.W.hideAll_none (trk h H) hm
    rw [z] at e; cases e
def allNews (g h : Heap) (L : Addr) : List (Addr × Obj) := (List.range h.objs.size).filterMap fun a => if a = L ∨ (g.get? a).isSome = true then none else (h.get? a).map fun o => (a, o)
def rest (g h : Heap) (L d : Addr) : List (Addr × Obj) := (allNews g h L).filter fun p => decide (p.1 ≠ d)
end L2
namespace L2
open PySem PySem.Spec PyProof.Rows
/-- the module's facts, over the base: the heap at the law's entry without what is tracked there -/
structure Mod (K : PySem.W.Frag) (mg : Str → Option Value) (base : Heap) : Prop where
  kin : K.In base
  glob : base.Ns mainGlobals mg
  blt : ∃ mb, base.Ns builtinsNs mb ∧ ∀ x : Str, x ≠ "__name__" → mb x = bootBuiltins x
  nolimit : base.NoLimit
/-- the context: a def's body (or a comprehension's block) running. base: fixed through the whole law; s₀, H₀: the entry; outer: the frames whose slots others may change (a def's callers); stack: all frames that run;
   ex: iterators that were made ahead of the entry and are walked here (a comprehension's); fn: the names whose cells were made at the entry (a def: all; a comprehension's block: its own); calm: not within an except suite; pn: pins that every state bears; xe: what is wanted of an exception that leaves the code -/
structure Cx where
  prog : Program
  w : World
  K : PySem.W.Frag
  mg : Str → Option Value
  base : Heap
  A : Around
  N : List Str
  s_0 : Shared
  H_0 : Hp
  env : Env
  outer : List Env
  stack : List Env
  ex : List Addr
  fn : Str → Bool
  calm : Bool
  pn : List (Addr × Obj)
  xe : Value → Shared → Prop
/-- the callers' frames -/
def frs (l : List Env) : List Addr := l.filterMap (·.frame)
abbrev Cx.fs (X : Cx) : List Addr := frs X.outer
def Vis (sc : Scope) (x : Str) : Prop := sc.names.lookup x = some .local ∨ sc.names.lookup x = some .cell ∨ sc.names.lookup x = some .free
def Loc (sc : Scope) (x : Str) : Prop := sc.names.lookup x = some .local ∨ sc.names.lookup x = some .cell
def Look (env : Env) (h : Heap) (m : Str → Option Value) (x : Str) (u : Value) : Prop :=
  (env.kindOf x = some .local ∧ m x = some u) ∨ ((env.kindOf x = some .cell ∨ env.kindOf x = some .free) ∧ ∃ c, env.cells.lookup x = some c ∧ h.IsCell c (some u))
structure Cx.Ok (X : Cx) : Prop where
  mod : Mod X.K X.mg X.base
  kind : X.env.scope.kind = .function
  glob : X.env.globals = mainGlobals
  blt : X.env.builtins = builtinsNs
  above : X.s_0.heap.objs.size ≤ X.env.locals
  inj : ∀ x y c, X.env.cells.lookup x = some c → X.env.cells.lookup y = some c → x = y
  has : ∀ x, (X.env.kindOf x = some .cell ∨ X.env.kindOf x = some .free) → ∃ c, X.env.cells.lookup x = some c
  cab : ∀ x c, X.fn x = true → X.env.cells.lookup x = some c → X.s_0.heap.objs.size ≤ c
  hd : X.calm = true → X.A.handled = none
  frames : X.A.frames = some X.stack
  stk : X.stack = X.outer ∨ (X.stack = X.env :: X.outer ∧ X.env.frame = some X.env.locals)
  exf : ∀ b ∈ X.ex, b ≠ X.env.locals ∧ ∀ x c, X.env.cells.lookup x = some c → c ≠ b
  bs : ∀ b o, X.base.get? b = some o → X.s_0.heap.get? b = some o ∧ X.H_0 b = none
  bsz : X.base.objs.size ≤ X.s_0.heap.objs.size
  noex : ∀ b o, X.base.get? b = some o → b ∉ X.ex
  exfs : ∀ b ∈ X.ex, b ∉ X.fs
  funs : X.s_0.heap.FunFrames X.base X.outer
  frf : ∀ b ∈ X.fs, X.H_0 b = none
structure Inv (X : Cx) (pins : List (Addr × Obj)) (σ : List (Option V)) (H : Hp) (s : Shared) : Prop where
  ok : X.Ok
  os : s.os = X.s_0.os
  bare : AllBare s.gens
  base : Un X.fs X.ex X.H_0 H X.s_0.heap s.heap
  loc : ∃ m, s.heap.Ns X.env.locals m ∧ ∀ (i : Nat) (x : Str) (v : V), X.N[i]? = some x → σ[i]? = some (some v) → Vis X.env.scope x → ∃ u, RelV v u ∧ Look X.env s.heap m x u
  cell : ∀ x c, X.env.cells.lookup x = some c → ∃ v, s.heap.IsCell c v
  free : H X.env.locals = none
  freeC : ∀ x c, X.env.cells.lookup x = some c → H c = none
  pin : ∀ p ∈ X.pn ++ pins, s.heap.get? p.1 = some p.2 ∧ H p.1 = none ∧ p.1 ≠ X.env.locals ∧ p.1 ∉ X.fs ∧ ∀ v, p.2.data ≠ .cell v
  hok : HOk X.prog X.w H s.heap
  len : σ.length = X.N.length
section
variable {X : Cx} {pins : List (Addr × Obj)} {σ : List (Option V)} {H H' : Hp} {s : Shared} {h' : Heap}
theorem Cx.Ok.nofr (ok : X.Ok) {b : Addr} {o : Obj} (e : X.base.get? b = some o) : b ∉ X.fs := fun hb => by
  have := (ok.funs.mem hb).1
  rw [e] at this; cases this
theorem Inv.bs (I : Inv X pins σ H s) : ∀ b o, X.base.get? b = some o → s.heap.get? b = some o ∧ H b = none := fun b o e =>
  ⟨I.base.keep b o (I.ok.bs b o e).1 (I.ok.bs b o e).2 (I.ok.nofr e) (I.ok.noex b o e), I.base.free b o (I.ok.bs b o e).1 (I.ok.bs b o e).2 (I.ok.noex b o e)⟩
theorem Inv.bk (I : Inv X pins σ H s) : ∀ b o, X.base.get? b = some o → s.heap.get? b = some o := fun b o e => (I.bs b o e).1
theorem Inv.mod (I : Inv X pins σ H s) : Mod X.K X.mg X.base := I.ok.mod
theorem Inv.kIn (I : Inv X pins σ H s) : X.K.In s.heap := I.ok.mod.kin.keeps I.bk
theorem Inv.nolimit (I : Inv X pins σ H s) : s.heap.NoLimit := I.ok.mod.nolimit.keeps I.bk
/-- the frame over the base: for OpenK's rules (K.In X.base is I.mod.kin) -/
theorem Inv.fr (I : Inv X pins σ H s) : ∃ m, Fr X.base X.env.locals s.heap m :=
  let ⟨m, hn, _⟩ := I.loc
  ⟨m, hn, I.bk, Nat.le_trans I.ok.bsz I.ok.above⟩
theorem Inv.lt (I : Inv X pins σ H s) : X.env.locals < s.heap.objs.size := let ⟨_, hn, _⟩ := I.loc; hn.lt
theorem Inv.sz (I : Inv X pins σ H s) : X.s_0.heap.objs.size ≤ s.heap.objs.size := Nat.le_trans I.ok.above (Nat.le_of_lt I.lt)
theorem Inv.nofs (I : Inv X pins σ H s) {a : Addr} (h : s.heap.objs.size ≤ a) : a ∉ X.fs := fun hb => by
  obtain ⟨_, o, ho, _⟩ := I.ok.funs.mem hb
  exact absurd (Nat.lt_of_lt_of_le (Heap.lt_size ho) (Nat.le_trans I.sz h)) (Nat.lt_irrefl _)
theorem Inv.cne (I : Inv X pins σ H s) : ∀ x c, X.env.cells.lookup x = some c → c ≠ X.env.locals := fun x c e z => by
  obtain ⟨v, o, ho, hd⟩ := I.cell x c e
  obtain ⟨m, ⟨o', es, ep, ho', hd', _⟩, _⟩ := I.loc
  rw [z, ho'] at ho; cases ho; rw [hd'] at hd; cases hd
theorem Inv.funs (I : Inv X pins σ H s) : s.heap.FunFrames X.base X.outer := by
  have all : ∀ (l : List Env), (∀ b ∈ frs l, b ∈ X.fs) → X.s_0.heap.FunFrames X.base l → s.heap.FunFrames X.base l := by
    intro l
    induction l with
    | nil => intro _ _; trivial
    | cons env r ih =>
      intro hs hl
      obtain ⟨hk, ⟨L, o, hf, hn, ho, hd⟩, hr⟩ := hl
      have hL : L ∈ X.fs := hs L (by unfold frs; rw [List.filterMap_cons, hf]; exact List.mem_cons_self)
      obtain ⟨sl, e⟩ := I.base.slot L o ho (I.ok.frf L hL) hL fun z => I.ok.exfs L z hL
      exact ⟨hk, ⟨L, _, hf, hn, e, hd⟩, ih (fun b hb => hs b (by unfold frs; rw [List.filterMap_cons, hf]; exact List.mem_cons_of_mem _ hb)) hr⟩
  exact all X.outer (fun _ hb => hb) I.ok.funs
/-- the frames that run, for a call -/
theorem Inv.stack (I : Inv X pins σ H s) : s.heap.FunFrames X.base X.stack := by
  rcases I.ok.stk with e | ⟨e, hf⟩
  · rw [e]; exact I.funs
  · rw [e]
    obtain ⟨m, hn, _⟩ := I.loc
    refine .cons (by rw [I.ok.kind]; decide) hf hn ?_ I.funs
    exact Heap.get?_none_of_le (Nat.le_trans I.ok.bsz I.ok.above)
theorem Inv.stkSub (I : Inv X pins σ H s) : ∀ b ∈ frs X.stack, b ∈ X.env.locals :: X.fs := fun b hb => by
  rcases I.ok.stk with e | ⟨e, hf⟩
  · rw [e] at hb; exact List.mem_cons_of_mem _ hb
  · rw [e] at hb
    unfold frs at hb
    rw [List.filterMap_cons, hf] at hb
    exact hb
theorem Inv.stkFree (I : Inv X pins σ H s) : ∀ b ∈ frs X.stack, H b = none := fun b hb => by
  rcases List.mem_cons.mp (I.stkSub b hb) with e | hb
  · rw [e]; exact I.free
  · obtain ⟨_, o, ho, _⟩ := I.ok.funs.mem hb
    exact I.base.free b o ho (I.ok.frf b hb) fun z => I.ok.exfs b z hb
/-- THE STEP: the untracked objects but the frame and the records at ch are kept (the callers' frames up to slots), the frame's map is kept, the new abstract heap is held -/
theorem Inv.step {g' : Array GenState} {t' : Nat} {d' : Drawn} {ch : List Addr} (I : Inv X pins σ H s)
    (hch : ∀ b ∈ ch, (b ∈ X.ex ∨ X.s_0.heap.objs.size ≤ b) ∧ b ≠ X.env.locals ∧ (∀ x c, X.env.cells.lookup x = some c → c ≠ b) ∧ ∀ p ∈ X.pn ++ pins, p.1 ≠ b)
    (keep : ∀ b o, b ≠ X.env.locals → b ∉ X.fs → b ∉ ch → s.heap.get? b = some o → H b = none → h'.get? b = some o)
    (slot : ∀ b o, b ≠ X.env.locals → b ∈ X.fs → b ∉ ch → s.heap.get? b = some o → H b = none → ∃ sl, h'.get? b = some { o with slots := sl }) (free : ∀ b o, b ∉ ch → s.heap.get? b = some o → H b = none → H' b = none)
    (there : ∀ b o, b ∉ ch → s.heap.get? b = some o → ∃ o', h'.get? b = some o')
    (tups : ∀ b xs, H b = some (.tup xs) → H' b = some (.tup xs)) (frzs : ∀ b o u, H b = some (.frz o u) → H' b = some (.frz o u)) (tbls : ∀ b ps, H b = some (.tbl ps) → ∃ more, H' b = some (.tbl (ps ++ more)))
    (ns : ∀ m, s.heap.Ns X.env.locals m → h'.Ns X.env.locals m) (hok : HOk X.prog X.w H' h') (hg : AllBare g') :
    Inv X pins σ H' { s with heap := h', gens := g', drawn := d', toks := t' } := by
  have neL : ∀ b o, X.s_0.heap.get? b = some o → b ≠ X.env.locals := fun b o e => Nat.ne_of_lt (Nat.lt_of_lt_of_le (Heap.lt_size e) I.ok.above)
  have neC : ∀ b o, X.s_0.heap.get? b = some o → b ∉ X.ex → b ∉ ch := fun b o e hx hb => by
    rcases (hch b hb).1 with z | z
    · exact hx z
    · exact absurd (Nat.lt_of_lt_of_le (Heap.lt_size e) z) (Nat.lt_irrefl _)
  have cellK : ∀ x c, X.env.cells.lookup x = some c → ∀ v, s.heap.IsCell c v → h'.IsCell c v := fun x c e v ⟨o, ho, hd⟩ => by
    have nch : c ∉ ch := fun z => (hch c z).2.2.1 x c e rfl
    by_cases hc : c ∈ X.fs
    · obtain ⟨sl, q⟩ := slot c o (I.cne x c e) hc nch ho (I.freeC x c e)
      exact ⟨_, q, hd⟩
    · exact ⟨o, keep c o (I.cne x c e) hc nch ho (I.freeC x c e), hd⟩
  refine ⟨I.ok, I.os, hg, ⟨fun b o e n hb hx => ?_, fun b o e n hb hx => ?_, fun b o e n hx => ?_, fun b o e hx => ?_, fun b xs e => tups b xs (I.base.tups b xs e), fun b o xs e => frzs b o xs (I.base.frzs b o xs e), fun b ps e => ?_⟩, ?_, fun x c e => ?_, ?_, fun x c e => ?_, fun p hp => ?_, hok, I.len⟩
  · exact keep b o (neL b o e) hb (neC b o e hx) (I.base.keep b o e n hb hx) (I.base.free b o e n hx)
  · obtain ⟨sl, e1⟩ := I.base.slot b o e n hb hx
    obtain ⟨sl', e2⟩ := slot b _ (neL b o e) hb (neC b o e hx) e1 (I.base.free b o e n hx)
    exact ⟨sl', e2⟩
  · obtain ⟨o', e1⟩ := I.base.there b o e hx
    exact free b o' (neC b o e hx) e1 (I.base.free b o e n hx)
  · obtain ⟨o', e1⟩ := I.base.there b o e hx
    exact there b o' (neC b o e hx) e1
  · obtain ⟨m1, e1⟩ := I.base.tbls b ps e
    obtain ⟨m2, e2⟩ := tbls b _ e1
    exact ⟨m1 ++ m2, by rw [e2, Array.append_assoc]⟩
  · obtain ⟨m, hn, hl⟩ := I.loc
    refine ⟨m, ns m hn, fun i x v e1 e2 e3 => ?_⟩
    obtain ⟨u, r, l⟩ := hl i x v e1 e2 e3
    refine ⟨u, r, ?_⟩
    rcases l with l | ⟨k, c, e, z⟩
    · exact .inl l
    · exact .inr ⟨k, c, e, cellK x c e _ z⟩
  · obtain ⟨v, z⟩ := I.cell x c e
    exact ⟨v, cellK x c e v z⟩
  · obtain ⟨m, ⟨o, _, _, ho, _⟩, _⟩ := I.loc
    exact free _ o (fun z => (hch _ z).2.1 rfl) ho I.free
  · obtain ⟨v, o, ho, hd⟩ := I.cell x c e
    exact free c o (fun z => (hch c z).2.2.1 x c e rfl) ho (I.freeC x c e)
  · obtain ⟨e, n, ne, nf, d⟩ := I.pin p hp
    have nch : p.1 ∉ ch := fun z => (hch p.1 z).2.2.2 p hp rfl
    exact ⟨keep p.1 p.2 ne nf nch e n, free p.1 p.2 nch e n, ne, nf, d⟩
/-- .. where the frame's own object is kept too -/
theorem Inv.un {t' : Nat} (I : Inv X pins σ H s) (u : Un X.fs [] H H' s.heap h') (hok : HOk X.prog X.w H' h') : Inv X pins σ H' { s with heap := h', toks := t' } := by
  obtain ⟨m, ⟨o, es, ep, ho, r⟩, _⟩ := id I.loc
  obtain ⟨sl, hL⟩ := u.any ho I.free (by simp)
  exact I.step (g' := s.gens) (d' := s.drawn) (ch := []) (fun _ z => nomatch z) (fun b o _ hb _ e n => u.keep b o e n hb (by simp)) (fun b o _ hb _ e n => u.slot b o e n hb (by simp)) (fun b o _ e n => u.free b o e n (by simp)) (fun b o _ e => u.there b o e (by simp)) u.tups u.frzs u.tbls (fun m' hm => by
    obtain ⟨o', es', ep', ho', r'⟩ := hm
    rw [ho] at ho'; cases ho'
    exact ⟨_, es', ep', hL, r'⟩) hok I.bare
/-- behind a call (or a comprehension's block): the slots of this frame may have changed too, the records at ch may have turned -/
theorem Inv.call {g' : Array GenState} {t' : Nat} {d' : Drawn} {ch : List Addr} (I : Inv X pins σ H s) (u : Un (frs X.stack) ch H H' s.heap h') (hok : HOk X.prog X.w H' h') (hg : AllBare g')
    (hch : ∀ b ∈ ch, (b ∈ X.ex ∨ X.s_0.heap.objs.size ≤ b) ∧ b ≠ X.env.locals ∧ (∀ x c, X.env.cells.lookup x = some c → c ≠ b) ∧ ∀ p ∈ X.pn ++ pins, p.1 ≠ b) :
    Inv X pins σ H' { s with heap := h', gens := g', drawn := d', toks := t' } := by
  obtain ⟨m, ⟨o, es, ep, ho, r⟩, _⟩ := id I.loc
  obtain ⟨sl, hL⟩ := u.any ho I.free fun z => (hch _ z).2.1 rfl
  exact I.step (ch := ch) hch (fun b o hL hb hc e n => u.keep b o e n (fun z => (List.mem_cons.mp (I.stkSub b z)).elim hL hb) hc) (fun b o _ _ hc e n => u.any e n hc) (fun b o hc e n => u.free b o e n hc) (fun b o hc e => u.there b o e hc) u.tups u.frzs u.tbls (fun m' hm => by
    obtain ⟨o', es', ep', ho', r'⟩ := hm
    rw [ho] at ho'; cases ho'
    exact ⟨_, es', ep', hL, r'⟩) hok hg
/-- an untracked record of ours (an iterator) has turned -/
theorem Inv.turned {t' : Nat} {it : Addr} (I : Inv X pins σ H s) (k : ∀ b o, b ≠ it → s.heap.get? b = some o → h'.get? b = some o) (hn : H it = none) (hL : it ≠ X.env.locals)
    (h1 : it ∈ X.ex ∨ X.s_0.heap.objs.size ≤ it) (h2 : ∀ x c, X.env.cells.lookup x = some c → c ≠ it) (h3 : ∀ p ∈ X.pn ++ pins, p.1 ≠ it) : Inv X pins σ H { s with heap := h', toks := t' } := by
  have nit : ∀ b u, H b = some u → b ≠ it := fun b u e z => by rw [z, hn] at e; cases e
  refine I.step (g' := s.gens) (d' := s.drawn) (ch := [it]) (fun b hb => ?_) (fun b o _ _ hc e _ => k b o (fun z => hc (by simp [z])) e) (fun b o _ _ hc e _ => ⟨o.slots, k b o (fun z => hc (by simp [z])) e⟩) (fun _ _ _ _ n => n)
    (fun b o hc e => ⟨o, k b o (fun z => hc (by simp [z])) e⟩) (fun _ _ e => e) (fun _ _ _ e => e) (fun b ps e => ⟨#[], by rw [e]; simp⟩) (fun m hm => ?_) (fun b u e => ?_) I.bare
  · have e : b = it := by simpa using hb
    subst e
    exact ⟨h1, hL, h2, h3⟩
  · obtain ⟨o, es, ep, ho, r⟩ := hm
    exact ⟨o, es, ep, k _ o (Ne.symm hL) ho, r⟩
  · refine (I.hok b u e).stay (fun c v hc q => k c v ?_ q) (fun _ q => q) fun _ _ q => q
    rcases hc with z | z
    · rw [z]; exact nit b u e
    · exact nit c _ z
theorem Inv.tok (I : Inv X pins σ H s) (t : Nat) : Inv X pins σ H { s with toks := t } := I.un (h' := s.heap) (t' := t) Un.refl I.hok
/-- all objects kept -/
theorem Inv.kept {t' : Nat} (I : Inv X pins σ H s) (k : ∀ b u, s.heap.get? b = some u → h'.get? b = some u) : Inv X pins σ H { s with heap := h', toks := t' } := I.un (Un.kept k) (I.hok.kept k)
/-- a new object laid and tracked -/
theorem Inv.laid {a : Addr} {o : HO} {t' : Nat} (I : Inv X pins σ H s) (k : ∀ b u, s.heap.get? b = some u → h'.get? b = some u) (hp : s.heap.objs.size ≤ a) (new : ObjOk X.prog X.w (upd H a o) h' a o) :
    Inv X pins σ (upd H a o) { s with heap := h', toks := t' } := I.un (Un.laid k hp (I.hok.fresh hp)) (I.hok.laid k hp new)
/-- an object written -/
theorem Inv.write {x e : Addr} {o : HO} {t' : Nat} (I : Inv X pins σ H s) (mu : Mut (H x)) (he : e = x ∨ H e = some (.own x)) (k : ∀ b u, b ≠ e → s.heap.get? b = some u → h'.get? b = some u) (heo : ∃ u, h'.get? e = some u)
    (new : ObjOk X.prog X.w (upd H x o) h' x o) : Inv X pins σ (upd H x o) { s with heap := h', toks := t' } := I.un (Un.write mu he k heo) (I.hok.write mu he k heo new)
/-- forgetting slots, pins -/
theorem Inv.weak {σ' : List (Option V)} (I : Inv X pins σ H s) (hl : σ'.length = σ.length) (w : ∀ (i : Nat) v, σ'[i]? = some (some v) → σ[i]? = some (some v)) : Inv X pins σ' H s :=
  ⟨I.ok, I.os, I.bare, I.base, let ⟨m, hn, hl'⟩ := I.loc; ⟨m, hn, fun i x v e1 e2 e3 => hl' i x v e1 (w i v e2) e3⟩, I.cell, I.free, I.freeC, I.pin, I.hok, hl.trans I.len⟩
theorem Inv.pins_of {pins' : List (Addr × Obj)} (I : Inv X pins σ H s) (h : ∀ p ∈ pins', s.heap.get? p.1 = some p.2 ∧ H p.1 = none ∧ p.1 ≠ X.env.locals ∧ p.1 ∉ X.fs ∧ ∀ v, p.2.data ≠ .cell v) : Inv X pins' σ H s :=
  ⟨I.ok, I.os, I.bare, I.base, I.loc, I.cell, I.free, I.freeC, fun p hp => (List.mem_append.mp hp).elim (fun z => I.pin p (List.mem_append_left _ z)) (h p), I.hok, I.len⟩
theorem nodup_ix {N : List Str} (hN : N.Nodup) {i j : Nat} {x : Str} (a : N[i]? = some x) (b : N[j]? = some x) : i = j := by
  obtain ⟨h1, e1⟩ := List.getElem?_eq_some_iff.mp a
  obtain ⟨h2, e2⟩ := List.getElem?_eq_some_iff.mp b
  exact (List.getElem_inj hN).mp (e1.trans e2.symm)
/-- a name is stored; what changed -/
theorem store_ok2 {M : Model} {A : Around} {E : Value → Shared → Prop} {i : Nat} {x : Str} {v : V} {u : Value} {Q : Unit → Shared → Prop} (I : Inv X pins σ H s) (hN : X.N.Nodup) (hi : X.N[i]? = some x) (hx : Loc X.env.scope x) (r : RelV v u)
    (h : ∀ s', Inv X pins (σ.set i (some v)) H s' → (∃ a, Heap.SameBut a s.heap s'.heap ∧ (a = X.env.locals ∨ X.env.cells.lookup x = some a)) → Q () s') (hf : X.fn x = true ∨ X.env.scope.names.lookup x = some .local := by first | exact .inl rfl | exact .inr rfl | assumption) : wpAny M A (storeName X.env x u) Q E s := by
  obtain ⟨m, hn, hl⟩ := id I.loc
  have hcls : (X.env.scope.kind == .class || (X.env.scope.kind == .module && X.env.locals != X.env.globals)) = false := by rw [I.ok.kind]; rfl
  have hiσ : i < σ.length := by rw [I.len]; exact (List.getElem?_eq_some_iff.mp hi).1
  have cne := I.cne
  have tracked : ∀ {a : Addr} {h' : Heap}, (∃ o, s.heap.get? a = some o ∧ H a = none) → Heap.SameBut a s.heap h' → HOk X.prog X.w H h' := fun {a h'} ha hs b ob e => by
    obtain ⟨_, _, hfree⟩ := ha
    refine (I.hok b ob e).stay (fun c w' hc q => (hs.2 c ?_).trans q) (fun _ q => q) fun _ _ q => q
    rintro rfl
    rcases hc with rfl | hc
    · rw [hfree] at e; cases e
    · rw [hfree] at hc; cases hc
  rcases hx with hk | hk
  · refine wpAny_storeName_local hk hn (fun h' hn' hs => ?_) hcls
    obtain ⟨oL, _, _, hoL, _⟩ := id hn
    refine h _ ⟨I.ok, I.os, I.bare, ⟨fun b o e n hb hx => ?_, fun b o e n hb hx => ?_, I.base.free, fun b o e hx => ?_, I.base.tups, I.base.frzs, I.base.tbls⟩, ⟨_, hn', fun j y v' e1 e2 e3 => ?_⟩, fun y c e => ?_, I.free, I.freeC, fun p hp => ?_, tracked ⟨oL, hoL, I.free⟩ hs, by simpa using I.len⟩ ⟨_, hs, .inl rfl⟩
    · exact (hs.2 b (Nat.ne_of_lt (Nat.lt_of_lt_of_le (Heap.lt_size e) I.ok.above))).trans (I.base.keep b o e n hb hx)
    · obtain ⟨sl, e1⟩ := I.base.slot b o e n hb hx
      exact ⟨sl, (hs.2 b (Nat.ne_of_lt (Nat.lt_of_lt_of_le (Heap.lt_size e) I.ok.above))).trans e1⟩
    · obtain ⟨o', e1⟩ := I.base.there b o e hx
      exact ⟨o', (hs.2 b (Nat.ne_of_lt (Nat.lt_of_lt_of_le (Heap.lt_size e) I.ok.above))).trans e1⟩
    · by_cases hj : j = i
      · subst hj
        rw [hi] at e1; cases e1
        rw [List.getElem?_set_self hiσ] at e2
        cases e2
        exact ⟨u, r, .inl ⟨hk, by simp⟩⟩
      · rw [List.getElem?_set_ne (Ne.symm hj)] at e2
        obtain ⟨u', r', q⟩ := hl j y v' e1 e2 e3
        refine ⟨u', r', ?_⟩
        rcases q with ⟨k, e⟩ | ⟨k, c, e, z⟩
        · refine .inl ⟨k, ?_⟩
          have : y ≠ x := fun e => hj (nodup_ix hN e1 (e ▸ hi))
          simp [this, e]
        · exact .inr ⟨k, c, e, z.sameBut hs (cne y c e)⟩
    · obtain ⟨w', z⟩ := I.cell y c e
      exact ⟨w', z.sameBut hs (cne y c e)⟩
    · obtain ⟨e, n, ne, nf, d⟩ := I.pin p hp
      exact ⟨(hs.2 p.1 ne).trans e, n, ne, nf, d⟩
  · have hfn : X.fn x = true := by
      rcases hf with z | z
      · exact z
      · rw [z] at hk; cases hk
    obtain ⟨c, hc⟩ := I.ok.has x (.inl hk)
    obtain ⟨w', z⟩ := I.cell x c hc
    refine wpAny_storeName_cell I.ok.kind hk hc z (fun h' hc' hs => ?_)
    obtain ⟨oc, hoc, hocd⟩ := id z
    refine h { s with heap := h' } ⟨I.ok, I.os, I.bare, ⟨fun b o e n hb hx => ?_, fun b o e n hb hx => ?_, I.base.free, fun b o e hx => ?_, I.base.tups, I.base.frzs, I.base.tbls⟩, ⟨m, hn.sameBut hs (Ne.symm (cne x c hc)), fun j y v' e1 e2 e3 => ?_⟩, fun y c' e => ?_, I.free, I.freeC, fun p hp => ?_, tracked ⟨oc, hoc, I.freeC x c hc⟩ hs, by simpa using I.len⟩ ⟨c, hs, .inr hc⟩
    · exact (hs.2 b (Nat.ne_of_lt (Nat.lt_of_lt_of_le (Heap.lt_size e) (I.ok.cab x c hfn hc)))).trans (I.base.keep b o e n hb hx)
    · obtain ⟨sl, e1⟩ := I.base.slot b o e n hb hx
      exact ⟨sl, (hs.2 b (Nat.ne_of_lt (Nat.lt_of_lt_of_le (Heap.lt_size e) (I.ok.cab x c hfn hc)))).trans e1⟩
    · obtain ⟨o', e1⟩ := I.base.there b o e hx
      exact ⟨o', (hs.2 b (Nat.ne_of_lt (Nat.lt_of_lt_of_le (Heap.lt_size e) (I.ok.cab x c hfn hc)))).trans e1⟩
    · by_cases hj : j = i
      · subst hj
        rw [hi] at e1; cases e1
        rw [List.getElem?_set_self hiσ] at e2
        cases e2
        exact ⟨u, r, .inr ⟨.inl hk, c, hc, hc'⟩⟩
      · rw [List.getElem?_set_ne (Ne.symm hj)] at e2
        obtain ⟨u', r', q⟩ := hl j y v' e1 e2 e3
        refine ⟨u', r', ?_⟩
        rcases q with q | ⟨k, c', e, z'⟩
        · exact .inl q
        · refine .inr ⟨k, c', e, z'.sameBut hs ?_⟩
          rintro rfl
          exact hj (nodup_ix hN e1 (I.ok.inj _ _ _ e hc ▸ hi))
    · by_cases hcc : c' = c
      · subst hcc; exact ⟨_, hc'⟩
      · obtain ⟨w2, z2⟩ := I.cell y c' e
        exact ⟨w2, z2.sameBut hs hcc⟩
    · obtain ⟨e, n, ne, nf, d⟩ := I.pin p hp
      refine ⟨(hs.2 p.1 ?_).trans e, n, ne, nf, d⟩
      intro q
      rw [q, hoc] at e
      have q' : oc = p.2 := Option.some.inj e
      exact d w' (by rw [← q']; exact hocd)
theorem store_ok {M : Model} {A : Around} {E : Value → Shared → Prop} {i : Nat} {x : Str} {v : V} {u : Value} {Q : Unit → Shared → Prop} (I : Inv X pins σ H s) (hN : X.N.Nodup) (hi : X.N[i]? = some x) (hx : Loc X.env.scope x) (r : RelV v u)
    (h : ∀ s', Inv X pins (σ.set i (some v)) H s' → Q () s') (hf : X.fn x = true ∨ X.env.scope.names.lookup x = some .local := by first | exact .inl rfl | exact .inr rfl | assumption) : wpAny M A (storeName X.env x u) Q E s :=
  store_ok2 I hN hi hx r (fun s' I' _ => h s' I') hf
/-- behind a call or a block, the state as it is -/
theorem Inv.call' {s' : Shared} {ch : List Addr} (I : Inv X pins σ H s) (ho : s'.os = s.os) (u : Un (frs X.stack) ch H H' s.heap s'.heap) (hok : HOk X.prog X.w H' s'.heap) (hg : AllBare s'.gens)
    (hch : ∀ b ∈ ch, (b ∈ X.ex ∨ X.s_0.heap.objs.size ≤ b) ∧ b ≠ X.env.locals ∧ (∀ x c, X.env.cells.lookup x = some c → c ≠ b) ∧ ∀ p ∈ X.pn ++ pins, p.1 ≠ b) : Inv X pins σ H' s' := by
  obtain ⟨h', g', d', t', o'⟩ := s'
  have e : o' = s.os := ho
  subst e
  exact I.call (g' := g') (t' := t') (d' := d') u hok hg hch
end
/-- an exception: its class, its own dict's address (where it has one), the abstract heap behind it -/
abbrev XK := Value → Option Addr → Hp → Prop
abbrev St := List (Option V)
abbrev VK := V → Hp → Prop
/-- an expression's reading; a test's; an argument list's -/
abbrev TE := St → Hp → VK → Prop
abbrev TT := St → Hp → (Bool → Hp → Prop) → Prop
abbrev TA := St → Hp → (List V → Hp → Prop) → Prop
/-- what is wanted behind a statement -/
structure Ends where
  nx : St → Hp → Prop
  rt : VK
  bk : St → Hp → Prop := fun _ _ => False
  ct : St → Hp → Prop := fun _ _ => False
abbrev TS := Ends → St → Hp → Prop
def EP (X : Cx) (pins : List (Addr × Obj)) (σ : St) (Q : VK) (u : Value) (s' : Shared) : Prop := ∃ v H', Inv X pins σ H' s' ∧ RelV v u ∧ Q v H'
def TP (X : Cx) (pins : List (Addr × Obj)) (σ : St) (Q : Bool → Hp → Prop) (b : Bool) (s' : Shared) : Prop := ∃ H', Inv X pins σ H' s' ∧ Q b H'
def AP (X : Cx) (pins : List (Addr × Obj)) (σ : St) (Q : List V → Hp → Prop) (us : List Value) (s' : Shared) : Prop := ∃ vs H', Inv X pins σ H' s' ∧ Vals vs us ∧ Q vs H'
def SP (X : Cx) (pins : List (Addr × Obj)) (D : Ends) (f : Flow) (s' : Shared) : Prop :=
  match f with
  | .next => ∃ σ' H', Inv X pins σ' H' s' ∧ D.nx σ' H'
  | .brk => ∃ σ' H', Inv X pins σ' H' s' ∧ D.bk σ' H'
  | .cont => ∃ σ' H', Inv X pins σ' H' s' ∧ D.ct σ' H'
  | .ret u => ∃ v σ' H', Inv X pins σ' H' s' ∧ RelV v u ∧ D.rt v H'
def PE (X : Cx) (e : Expr) (t : TE) : Prop :=
  ∀ (pins : List (Addr × Obj)) (s : Shared) (σ : St) (H : Hp) (Q : VK), Inv X pins σ H s → t σ H Q → wpAny (model X.prog X.w) X.A (eval e X.env) (EP X pins σ Q) X.xe s
def PT (X : Cx) (e : Expr) (t : TT) : Prop :=
  ∀ (pins : List (Addr × Obj)) (s : Shared) (σ : St) (H : Hp) (Q : Bool → Hp → Prop), Inv X pins σ H s → t σ H Q → wpAny (model X.prog X.w) X.A (isTrue e X.env (eval e X.env)) (TP X pins σ Q) X.xe s
/-- a test whatever its 'whole' is (and, or) -/
def PW (X : Cx) (e : Expr) (t : TT) : Prop :=
  ∀ (whole : Sem Value) (pins : List (Addr × Obj)) (s : Shared) (σ : St) (H : Hp) (Q : Bool → Hp → Prop), Inv X pins σ H s → t σ H Q → wpAny (model X.prog X.w) X.A (isTrue e X.env whole) (TP X pins σ Q) X.xe s
theorem PW.pt {X : Cx} {e : Expr} {t : TT} (h : PW X e t) : PT X e t := h _
/-- an argument list (no star), from the left -/
def PA (X : Cx) (es : List Expr) (t : TA) : Prop :=
  ∀ (pos : Pos) (pins : List (Addr × Obj)) (s : Shared) (σ : St) (H : Hp) (Q : List V → Hp → Prop), Inv X pins σ H s → t σ H Q → wpAny (model X.prog X.w) X.A (spliced (backTo pos (starEach es X.env))) (AP X pins σ Q) X.xe s
def PS (X : Cx) (st : Stmt) (t : TS) : Prop :=
  ∀ (pins : List (Addr × Obj)) (s : Shared) (σ : St) (H : Hp) (D : Ends), Inv X pins σ H s → t D σ H → wpAny (model X.prog X.w) X.A (exec st X.env) (SP X pins D) X.xe s
def PSs (X : Cx) (st : List Stmt) (t : TS) : Prop :=
  ∀ (pins : List (Addr × Obj)) (s : Shared) (σ : St) (H : Hp) (D : Ends), Inv X pins σ H s → t D σ H → wpAny (model X.prog X.w) X.A (execs st X.env) (SP X pins D) X.xe s
/-- weaken the end -/
theorem thn {α : Type} {t : Sem α} {Q Q' : α → Shared → Prop} {M : Model} {A : Around} {E : Value → Shared → Prop} {s : Shared} (h : wpAny M A t Q E s) (hQ : ∀ a s, Q a s → Q' a s) : wpAny M A t Q' E s := wpAny_mono h hQ fun _ _ x => x
end L2
namespace L2
open PySem PySem.Spec PyProof.Rows
section
variable {X : Cx}
def tVar (i : Nat) : TE := fun σ H Q => ∃ v, σ[i]? = some (some v) ∧ Q v H
def tC (v : V) : TE := fun _ H Q => Q v H
theorem pe_var {i : Nat} {x : Str} {pos : Pos} (hN : X.N[i]? = some x) (hv : Vis X.env.scope x) (hd : (x == ("__debug__" : Str)) = false := by decide) (hcd : (x == ("__classdict__" : Str)) = false := by decide) : PE X (.Name x pos) (tVar i) := by
  intro pins s σ H Q I h
  obtain ⟨v, e, h⟩ := h
  obtain ⟨m, hn, hl⟩ := I.loc
  obtain ⟨u, r, l⟩ := hl i x v hN e hv
  have fin : EP X pins σ Q u s := ⟨v, H, I, r, h⟩
  rcases l with ⟨hk, hm⟩ | ⟨hk, c, hc, hcell⟩
  · exact wpAny_Name (wpAny_loadName_local I.ok.kind hk hn hm fin) hd
  · rcases hk with hk | hk
    · exact wpAny_Name (wpAny_loadName_cell I.ok.kind hk hc hcell fin) hd
    · exact wpAny_Name (wpAny_loadName_free I.ok.kind hk hc hcell fin hcd) hd
theorem pe_int {i j pos} : PE X (.Constant (.int i) j pos) (tC (.int i)) := fun _ _ _ H _ I h => wpAny_Constant_int ⟨.int i, H, I.tok _, ⟨_, rfl⟩, h⟩
/-- a global name of the def -/
def Gl (X : Cx) (x : Str) : Prop := X.env.kindOf x = some .globalImplicit
theorem ld_glob {E : Value → Shared → Prop} {pins : List (Addr × Obj)} {s : Shared} {σ : St} {H : Hp} {x : Str} {u : Value} {pos : Pos} {Q : Value → Shared → Prop} (I : Inv X pins σ H s) (hg : Gl X x) (hm : X.mg x = some u) (h : Q u s)
    (hd : (x == ("__debug__" : Str)) = false := by decide) : wpAny (model X.prog X.w) X.A (eval (.Name x pos) X.env) Q E s :=
  Calls.Name_function_global I.ok.kind hg (Calls.loadGlobal_global (by rw [I.ok.glob]; exact I.mod.glob.keeps I.bk) hm h) hd
theorem ld_blt {E : Value → Shared → Prop} {pins : List (Addr × Obj)} {s : Shared} {σ : St} {H : Hp} {x : Str} {u : Value} {pos : Pos} {Q : Value → Shared → Prop} (I : Inv X pins σ H s) (hg : Gl X x) (hm : X.mg x = none) (hv : bootBuiltins x = some u) (h : Q u s)
    (hn : x ≠ "__name__" := by decide) (hd : (x == ("__debug__" : Str)) = false := by decide) : wpAny (model X.prog X.w) X.A (eval (.Name x pos) X.env) Q E s := by
  obtain ⟨mb, h1, h2⟩ := I.mod.blt
  exact Calls.Name_function_global I.ok.kind hg (Calls.loadGlobal_builtin (by rw [I.ok.glob]; exact I.mod.glob.keeps I.bk) hm (by rw [I.ok.blt]; exact h1.keeps I.bk) ((h2 x hn).trans hv) h) hd
/-- a module's constant, a class, a function, as a value -/
theorem pe_glob {x : Str} {v : V} {u : Value} {pos : Pos} (hg : Gl X x) (hm : X.mg x = some u) (r : RelV v u) (hd : (x == ("__debug__" : Str)) = false := by decide) : PE X (.Name x pos) (tC v) :=
  fun _ _ _ H _ I h => ld_glob I hg hm ⟨v, H, I, r, h⟩ hd
variable {a b : Expr} {ta tb : TE} {pos : Pos}
/-- a comparison as a value, as a test -/
def tB (t : TE) : TT := fun σ H Q => t σ H fun x H1 => ∃ c, x = .bl c ∧ Q c H1
/-- an expression whose value is a bool, as a test -/
theorem pt_val {e : Expr} {t : TE} (h : PE X e t) (he : ∀ whole, isTrue e X.env whole = (do let v ← whole; standAt e.pos; holding [v] (truthy v)) := by intro _; rfl) : PT X e (tB t) := by
  intro pins s σ H Q I hw
  refine isTrue_plain (thn (h pins s σ H _ I hw) fun v s1 ⟨x, H1, I1, r1, q1⟩ => ?_) (he _)
  obtain ⟨d, rfl, q⟩ := q1
  cases r1
  exact wpAny_truthy_bool ⟨H1, I1, q⟩
variable {tA tB' : TT} {rest : List Expr}
def tAnd (t u : TT) : TT := fun σ H Q => t σ H fun c H1 => if c = true then u σ H1 Q else Q false H1
def tOr (t u : TT) : TT := fun σ H Q => t σ H fun c H1 => if c = true then Q true H1 else u σ H1 Q
def tNot (t : TT) : TT := fun σ H Q => t σ H fun c H1 => Q (!c) H1
theorem pw_or1 (ha : PT X a tA) : PW X (.BoolOp .Or [a] pos) tA := by
  intro wh pins s σ H Q I h
  refine isTrue_or (thn (ha pins s σ H Q I h) fun c s1 e => ?_)
  cases c with
  | false => exact isTrue_or_nil e
  | true => exact e
theorem pw_or (ha : PT X a tA) (hb : PW X (.BoolOp .Or (b :: rest) pos) tB') : PW X (.BoolOp .Or (a :: b :: rest) pos) (tOr tA tB') := by
  intro wh pins s σ H Q I h
  refine isTrue_or (thn (ha pins s σ H _ I h) fun c s1 ⟨H1, I1, q1⟩ => ?_)
  cases c with
  | true => exact ⟨H1, I1, q1⟩
  | false => exact hb wh pins s1 σ H1 Q I1 q1
theorem pt_not (ha : PT X a tA) : PT X (.UnaryOp .Not a pos) (tNot tA) := by
  intro pins s σ H Q I h
  exact isTrue_not (ha pins s σ H (fun c H1 => Q (!c) H1) I h)
/-- .. as values (bools) -/
def tAndV (ta tb : TE) : TE := fun σ H Q => ta σ H fun x H1 => ∃ c, x = .bl c ∧ if c = true then tb σ H1 Q else Q (.bl false) H1
def tOrV (ta tb : TE) : TE := fun σ H Q => ta σ H fun x H1 => ∃ c, x = .bl c ∧ if c = true then Q (.bl true) H1 else tb σ H1 Q
def tNotV (ta : TE) : TE := fun σ H Q => ta σ H fun x H1 => ∃ c, x = .bl c ∧ Q (.bl (!c)) H1
theorem pe_one {op} {t : TE} (h : PE X a t) : PE X (.BoolOp op [a] pos) t := fun pins s σ H Q I hw => BoolOp_one (h pins s σ H Q I hw)
theorem pe_and (ha : PE X a ta) (hb : PE X (.BoolOp .And (b :: rest) pos) tb) : PE X (.BoolOp .And (a :: b :: rest) pos) (tAndV ta tb) := by
  intro pins s σ H Q I h
  refine BoolOp_and (thn (ha pins s σ H _ I h) fun v s1 ⟨x, H1, I1, r1, q1⟩ => ?_)
  obtain ⟨c, rfl, q1⟩ := q1
  cases r1
  refine wpAny_truthy_bool ?_
  cases c with
  | true => exact hb pins s1 σ H1 Q I1 q1
  | false => exact ⟨.bl false, H1, I1, rfl, q1⟩
/-- a if t else b -/
def tIf (t : TT) (ta tb : TE) : TE := fun σ H Q => t σ H fun c H1 => if c = true then ta σ H1 Q else tb σ H1 Q
end
end L2
namespace L2
open PySem PySem.Spec PyProof.Rows
def SqL (K : PySem.W.Frag) (H : Hp) (a : Addr) (xs : List V) : Prop :=
  Rd H a (.lst xs) ∨
    ∃ (o : Obj) (its : Array Value) (n : Nat), K.lookup a = some o ∧ o.cls = .type "list" ∧ o.dict = none ∧ o.data = .seq its n ∧ its.size ≤ sizeLine ∧ Vals xs its.toList
def SqT (K : PySem.W.Frag) (H : Hp) (a : Addr) (xs : List V) : Prop :=
  Rd H a (.tup xs) ∨
    ∃ (o : Obj) (its : Array Value) (n : Nat), K.lookup a = some o ∧ o.cls = .type "tuple" ∧ o.data = .seq its n ∧ its.size ≤ sizeLine ∧ Vals xs its.toList
def absV : Value → Option V
  | .none => some .non
  | .bool b => some (.bl b)
  | .int i _ => some (.int i)
  | .str x _ => some (.str x)
  | .bytes b _ => some (.byt b)
  | .float b _ => some (.flt b)
  | .ref a => some (.ref a)
  | .type n => some (.ty n)
  | _ => none
theorem RelV.abs {x : V} {u : Value} (r : RelV x u) : absV u = some x := by
  cases x with
  | non => cases r; rfl
  | bl _ => cases r; rfl
  | int _ => obtain ⟨t, rfl⟩ := r; rfl
  | str _ => obtain ⟨t, rfl⟩ := r; rfl
  | byt _ => obtain ⟨t, rfl⟩ := r; rfl
  | flt _ => obtain ⟨t, rfl⟩ := r; rfl
  | ref _ => cases r; rfl
  | ty _ => cases r; rfl
theorem RelV.inj {x y : V} {u : Value} (r : RelV x u) (q : RelV y u) : x = y := Option.some.inj (r.abs.symm.trans q.abs)
theorem Vals.inj : ∀ {xs ys : List V} {us : List Value}, Vals xs us → Vals ys us → xs = ys
  | _, _, _, .nil, .nil => rfl
  | _, _, _, .cons r t, .cons r' t' => by rw [r.inj r', Vals.inj t t']
section
variable {X : Cx} {pins : List (Addr × Obj)} {σ : St} {H : Hp} {s : Shared} {a : Addr} {xs ys : List V}
theorem SqL.of {K : PySem.W.Frag} (h : H a = some (.lst xs)) : SqL K H a xs := .inl (.inl h)
theorem SqT.of {K : PySem.W.Frag} (h : H a = some (.tup xs)) : SqT K H a xs := .inl (.inl h)
theorem Inv.list (I : Inv X pins σ H s) (h : SqL X.K H a xs) : ∃ its : List Value, Vals xs its ∧ PlainL s.heap a its.toArray ∧ xs.length ≤ sizeLine := by
  rcases h with h | ⟨o, its, n, hk, hc, hd, hs, hz, r⟩
  · obtain ⟨z, its, n, r, e⟩ := h.ok I.hok
    exact ⟨its, r, ⟨_, n, e, rfl, rfl, rfl⟩, z⟩
  · refine ⟨its.toList, r, ⟨o, n, I.kIn a o hk, hc, hd, by simpa using hs⟩, ?_⟩
    have e := r.length
    simp only [Array.length_toList] at e
    omega
theorem Inv.tuple (I : Inv X pins σ H s) (h : SqT X.K H a xs) : ∃ its : List Value, Vals xs its ∧ IsTup s.heap a its.toArray ∧ xs.length ≤ sizeLine := by
  rcases h with h | ⟨o, its, n, hk, hc, hs, hz, r⟩
  · obtain ⟨z, its, r, p⟩ := h.ok I.hok
    exact ⟨its, r, p, z⟩
  · refine ⟨its.toList, r, ⟨o, I.kIn a o hk, hc, n, by simpa using hs⟩, ?_⟩
    have e := r.length
    simp only [Array.length_toList] at e
    omega
theorem Inv.list_inj (I : Inv X pins σ H s) (h : SqL X.K H a xs) (h' : SqL X.K H a ys) : xs = ys := by
  obtain ⟨its, r, ⟨o, n, e, _, _, d⟩, _⟩ := I.list h
  obtain ⟨its', r', ⟨o', n', e', _, _, d'⟩, _⟩ := I.list h'
  rw [e] at e'; cases e'
  rw [d] at d'
  injection d' with d1 _
  have : its = its' := by simpa using congrArg Array.toList d1
  subst this
  exact r.inj r'
theorem Inv.tuple_inj (I : Inv X pins σ H s) (h : SqT X.K H a xs) (h' : SqT X.K H a ys) : xs = ys := by
  obtain ⟨its, r, ⟨o, e, _, n, d⟩, _⟩ := I.tuple h
  obtain ⟨its', r', ⟨o', e', _, n', d'⟩, _⟩ := I.tuple h'
  rw [e] at e'; cases e'
  rw [d] at d'
  injection d' with d1 _
  have : its = its' := by simpa using congrArg Array.toList d1
  subst this
  exact r.inj r'
end
abbrev Cx.wish (X : Cx) (E : Value → Shared → Prop) : Cx := { X with xe := E }
/-- no exception leaves -/
abbrev Cx.nox (X : Cx) : Cx := X.wish fun _ _ => False
theorem Cx.Ok.wish {X : Cx} (ok : X.Ok) (E : Value → Shared → Prop) : (X.wish E).Ok :=
  ⟨ok.mod, ok.kind, ok.glob, ok.blt, ok.above, ok.inj, ok.has, ok.cab, ok.hd, ok.frames, ok.stk, ok.exf, ok.bs, ok.bsz, ok.noex, ok.exfs, ok.funs, ok.frf⟩
theorem Cx.Ok.unwish {X : Cx} {E : Value → Shared → Prop} (ok : (X.wish E).Ok) : X.Ok :=
  ⟨ok.mod, ok.kind, ok.glob, ok.blt, ok.above, ok.inj, ok.has, ok.cab, ok.hd, ok.frames, ok.stk, ok.exf, ok.bs, ok.bsz, ok.noex, ok.exfs, ok.funs, ok.frf⟩
section
variable {X : Cx} {pins : List (Addr × Obj)} {σ : St} {H : Hp} {s : Shared} {E : Value → Shared → Prop}
theorem Inv.wish (I : Inv X pins σ H s) (E : Value → Shared → Prop) : Inv (X.wish E) pins σ H s := ⟨I.ok.wish E, I.os, I.bare, I.base, I.loc, I.cell, I.free, I.freeC, I.pin, I.hok, I.len⟩
theorem Inv.unwish (I : Inv (X.wish E) pins σ H s) : Inv X pins σ H s := ⟨I.ok.unwish, I.os, I.bare, I.base, I.loc, I.cell, I.free, I.freeC, I.pin, I.hok, I.len⟩
theorem SP.unwish {D : Ends} {f : Flow} {s' : Shared} (h : SP (X.wish E) pins D f s') : SP X pins D f s' := by
  cases f with
  | next => obtain ⟨σ', H', I, q⟩ := h; exact ⟨σ', H', I.unwish, q⟩
  | brk => obtain ⟨σ', H', I, q⟩ := h; exact ⟨σ', H', I.unwish, q⟩
  | cont => obtain ⟨σ', H', I, q⟩ := h; exact ⟨σ', H', I.unwish, q⟩
  | ret u => obtain ⟨v, σ', H', I, r, q⟩ := h; exact ⟨v, σ', H', I.unwish, r, q⟩
theorem PE.nox {e : Expr} {t : TE} (h : PE X.nox e t) : PE X e t := fun pins s σ H Q I hw =>
  wpAny_mono (h pins s σ H Q (I.wish _) hw) (fun _ _ ⟨v, H', I', r, q⟩ => ⟨v, H', I'.unwish, r, q⟩) fun _ _ z => False.elim z
theorem PT.nox {e : Expr} {t : TT} (h : PT X.nox e t) : PT X e t := fun pins s σ H Q I hw =>
  wpAny_mono (h pins s σ H Q (I.wish _) hw) (fun _ _ ⟨H', I', q⟩ => ⟨H', I'.unwish, q⟩) fun _ _ z => False.elim z
theorem PSs.nox {st : List Stmt} {t : TS} (h : PSs X.nox st t) : PSs X st t := fun pins s σ H D I hw =>
  wpAny_mono (h pins s σ H D (I.wish _) hw) (fun _ _ q => q.unwish) fun _ _ z => False.elim z
end
section
variable {X : Cx} {st : Stmt} {rest : List Stmt} {t u : TS} {e : Expr} {te : TE} {pos : Pos}
def tNext : TS := fun D σ H => D.nx σ H
def tSeq (t u : TS) : TS := fun D σ H => t { D with nx := u D } σ H
theorem pss_nil : PSs X [] tNext := fun _ _ σ H _ I h => wpAny_execs_nil ⟨σ, H, I, h⟩
theorem pss_cons (h1 : PS X st t) (h2 : PSs X rest u) : PSs X (st :: rest) (tSeq t u) := by
  intro pins s σ H D I h
  refine wpAny_execs_cons (thn (h1 pins s σ H { D with nx := u D } I h) fun f s1 q => ?_)
  cases f with
  | next =>
    obtain ⟨σ', H', I', q⟩ := q
    exact h2 pins s1 σ' H' D I' q
  | ret v => exact q
  | brk => exact q
  | cont => exact q
theorem pss_one (h1 : PS X st t) : PSs X [st] t := by
  intro pins s σ H D I h
  refine wpAny_execs_cons (thn (h1 pins s σ H D I h) fun f s1 q => ?_)
  cases f with
  | next => exact wpAny_execs_nil q
  | ret v => exact q
  | brk => exact q
  | cont => exact q
/-- in a def's body nothing is shown -/
theorem Inv.quiet {pins : List (Addr × Obj)} {σ : St} {H : Hp} {s : Shared} (I : Inv X pins σ H s) : interactive X.env = false := by simp [interactive, I.ok.kind]
/-- an expression whose value is dropped -/
def tDrop (te : TE) : TS := fun D σ H => te σ H fun _ H1 => D.nx σ H1
theorem ps_expr (he : PE X e te) (hs : swapsWith e none pos.line X.env = pure false := by rfl) : PS X (.Expr e pos) (tDrop te) := by
  intro pins s σ H D I h
  exact wpAny_Expr_any (thn (he pins s σ H _ I h) fun v s1 ⟨x, H1, I1, r1, q1⟩ => ⟨σ, H1, I1, q1⟩) I.quiet hs
def tRet (te : TE) : TS := fun D σ H => te σ H D.rt
theorem ps_ret (he : PE X e te) : PS X (.Return (some e) pos) (tRet te) := by
  intro pins s σ H D I h
  exact wpAny_Return_some (thn (he pins s σ H _ I h) fun v s1 ⟨x, H1, I1, r1, q1⟩ => ⟨x, σ, H1, I1, r1, q1⟩)
def tRetN : TS := fun D _ H => D.rt .non H
def tIfS (c : TT) (t u : TS) : TS := fun D σ H => c σ H fun b H1 => if b = true then t D σ H1 else u D σ H1
theorem ps_if {c : Expr} {a b : List Stmt} {tc : TT} (hc : PT X c tc) (ha : PSs X a t) (hb : PSs X b u) : PS X (.If c a b pos) (tIfS tc t u) := by
  intro pins s σ H D I h
  refine wpAny_If (thn (hc pins s σ H _ I h) fun d s1 ⟨H1, I1, q1⟩ => ?_)
  cases d with
  | true => exact ha pins s1 σ H1 D I1 q1
  | false => exact hb pins s1 σ H1 D I1 q1
/-- code that the proof never comes to -/
def tNever : TS := fun _ _ _ => False
theorem ps_never : PS X st tNever := fun _ _ _ _ _ _ h => h.elim
end
abbrev TG := V → St → Hp → (St → Hp → Prop) → Prop
def PG (X : Cx) (target : Expr) (t : TG) : Prop :=
  ∀ (pins : List (Addr × Obj)) (s : Shared) (σ : St) (H : Hp) (v : V) (u : Value) (Q : St → Hp → Prop), Inv X pins σ H s → RelV v u → t v σ H Q →
    wpAny (model X.prog X.w) X.A (assign target X.env u) (fun _ s' => ∃ σ' H', Inv X pins σ' H' s' ∧ Q σ' H') X.xe s
/-- o[i] = v, by values -/
abbrev TSet := V → V → V → Hp → (Hp → Prop) → Prop
def PSet (X : Cx) (t : TSet) : Prop :=
  ∀ (pins : List (Addr × Obj)) (s : Shared) (σ : St) (H : Hp) (o i v : V) (ov iv u : Value) (Q : Hp → Prop), Inv X pins σ H s → RelV o ov → RelV i iv → RelV v u → t o i v H Q →
    wpAny (model X.prog X.w) X.A (setItem ov iv u) (fun _ s' => ∃ H', Inv X pins σ H' s' ∧ Q H') X.xe s
section
variable {X : Cx} {pos : Pos}
def gName (i : Nat) : TG := fun v σ H Q => Q (σ.set i (some v)) H
theorem pg_name {i : Nat} {x : Str} (hN : X.N.Nodup) (hi : X.N[i]? = some x) (hx : Loc X.env.scope x) (hf : X.fn x = true ∨ X.env.scope.names.lookup x = some .local := by first | exact .inl rfl | exact .inr rfl | assumption) : PG X (.Name x pos) (gName i) := by
  intro pins s σ H v u Q I r h
  exact wpAny_assign_Name (store_ok I hN hi hx r (fun s' I' => ⟨_, H, I', h⟩) hf)
/-- o[i] = .. -/
def gSub (to ti : TE) (t : TSet) : TG := fun v σ H Q => to σ H fun o H1 => ti σ H1 fun i H2 => t o i v H2 fun H3 => Q σ H3
theorem pg_sub {o i : Expr} {to ti : TE} {t : TSet} (ho : PE X o to) (hi : PE X i ti) (hs : PSet X t)
    (ha : ∀ v, assign (.Subscript o i pos) X.env v = (do
      let ov ← holding [v] (eval o X.env)
      let iv ← holding [v, ov] (eval i X.env)
      standAt pos
      holding [v, ov, iv] (setItem ov iv v)
      release [v, ov, iv] []) := by intro _; rfl) : PG X (.Subscript o i pos) (gSub to ti t) := by
  intro pins s σ H v u Q I r h
  rw [ha]
  refine wpAny_bind (wpAny_holding (thn (ho pins s σ H _ I h) fun ov s1 ⟨x, H1, I1, r1, q1⟩ => ?_))
  refine wpAny_bind (wpAny_holding (thn (hi pins s1 σ H1 _ I1 q1) fun iv s2 ⟨y, H2, I2, r2, q2⟩ => ?_))
  refine wpAny_bind (wpAny_standAt (wpAny_bind (wpAny_holding (thn (hs pins s2 σ H2 x y v ov iv u _ I2 r1 r2 r q2) fun _ s3 ⟨H3, I3, q3⟩ => ?_))))
  exact wpAny_release ⟨σ, H3, I3, q3⟩
/-- target = value -/
def tAsg (te : TE) (g : TG) : TS := fun D σ H => te σ H fun x H1 => g x σ H1 D.nx
theorem ps_asg {tg e : Expr} {te : TE} {g : TG} (he : PE X e te) (hg : PG X tg g) (hs : swapsWithSole [tg] e pos.line X.env = pure false := by rfl) (hw : swappedStores [tg] e X.env = pure none := by rfl)
    (h1 : (assignEach [tg] X.env).map (·.2) = [assign tg X.env] := by rfl) : PS X (.Assign [tg] e pos) (tAsg te g) := by
  intro pins s σ H D I h
  refine wpAny_Assign_stores (thn (he pins s σ H _ I h) fun v s1 ⟨x, H1, I1, r1, q1⟩ => ?_) hs hw
  rw [h1]
  exact thn (hg pins s1 σ H1 x v _ I1 r1 q1) fun _ s2 q => q
/-- name = value -/
theorem ps_set {i : Nat} {x : Str} {e : Expr} {te : TE} {pos' : Pos} (hN : X.N.Nodup) (hi : X.N[i]? = some x) (hx : Loc X.env.scope x) (he : PE X e te) (hs : swapsWith e (some (.Name x pos')) pos.line X.env = pure false := by rfl) (hf : X.fn x = true ∨ X.env.scope.names.lookup x = some .local := by first | exact .inl rfl | exact .inr rfl | assumption) :
    PS X (.Assign [.Name x pos'] e pos) (tAsg te (gName i)) := by
  intro pins s σ H D I h
  refine wpAny_Assign_Name (thn (he pins s σ H _ I h) fun v s1 ⟨y, H1, I1, r1, q1⟩ => ?_) hs
  exact store_ok I1 hN hi hx r1 (fun s2 I2 => ⟨_, H1, I2, q1⟩) hf
end
section
variable {X : Cx} {pos : Pos}
/-- the invariant W with its measure -/
def tWhile (c : TT) (tb : TS) : TS := fun D σ H => ∃ W : Nat → St → Hp → Prop, (∃ m, W m σ H) ∧ ∀ m σ H, W m σ H →
  c σ H fun b H1 => if b = true then ∃ N : St → Hp → Prop, (∀ σ' H', N σ' H' → ∃ m', m' < m ∧ W m' σ' H') ∧ tb { D with nx := N, ct := N, bk := D.nx } σ H1 else D.nx σ H1
theorem ps_while {c : Expr} {body : List Stmt} {tc : TT} {tb : TS} (hp : PassesOwn (model X.prog X.w) X.A X.env X.xe) (hc : PT X c tc) (hb : PSs X body tb) : PS X (.While c body [] pos) (tWhile tc tb) := by
  intro pins s σ H D I h
  obtain ⟨W, ⟨m0, w0⟩, turn⟩ := h
  refine wpAny_While (codeAny_whileLoop (fun n s' => ∃ σ' H', Inv X pins σ' H' s' ∧ W n σ' H') ?_ m0 ⟨σ, H, I, w0⟩)
  rintro n s1 ⟨σ1, H1, I1, w1⟩
  refine wpAny_passesOwn hp (thn (hc pins s1 σ1 H1 _ I1 (turn n σ1 H1 w1)) fun b s2 ⟨H2, I2, q2⟩ => ?_)
  cases b with
  | true =>
    obtain ⟨N, hN, q2⟩ := q2
    rw [if_pos rfl]
    refine wpAny_passesOwn hp (thn (hb pins s2 σ1 H2 _ I2 q2) fun f s3 q3 => ?_)
    cases f with
    | next =>
      obtain ⟨σ3, H3, I3, n3⟩ := q3
      obtain ⟨m', hm, w3⟩ := hN σ3 H3 n3
      exact ⟨m', hm, σ3, H3, I3, w3⟩
    | cont =>
      obtain ⟨σ3, H3, I3, n3⟩ := q3
      obtain ⟨m', hm, w3⟩ := hN σ3 H3 n3
      exact ⟨m', hm, σ3, H3, I3, w3⟩
    | brk => exact q3
    | ret v => exact q3
  | false =>
    rw [if_neg Bool.false_ne_true]
    exact wpAny_execs_nil ⟨σ1, H2, I2, q2⟩
end
/-- at turn i: it yields x (the heap may grow), or it stops -/
structure It where
  go : Nat → Hp → Prop
  yld : Nat → Hp → V → Hp → Prop
  stop : Nat → Hp → Prop
/-- the iterator's own objects may turn: they are not the frame's, not pinned, younger than the entry (or a comprehension's own) -/
def FpOk (X : Cx) (pins : List (Addr × Obj)) (H : Hp) (b : Addr) : Prop :=
  H b = none ∧ b ≠ X.env.locals ∧ b ∉ X.fs ∧ (b ∈ X.ex ∨ X.s_0.heap.objs.size ≤ b) ∧ (∀ x c, X.env.cells.lookup x = some c → c ≠ b) ∧ ∀ p ∈ X.pn ++ pins, p.1 ≠ b
theorem Inv.fpOk {X : Cx} {pins : List (Addr × Obj)} {σ : St} {H H' : Hp} {s : Shared} {b : Addr} (I : Inv X pins σ H s) (hb : s.heap.objs.size ≤ b) (hn : H' b = none) : FpOk X pins H' b := by
  refine ⟨hn, Nat.ne_of_gt (Nat.lt_of_lt_of_le I.lt hb), I.nofs hb, .inr (Nat.le_trans I.sz hb), fun x c e z => ?_, fun p hp z => ?_⟩
  · obtain ⟨v, q⟩ := I.cell x c e
    exact absurd (Nat.lt_of_lt_of_le q.lt (by rw [z]; exact hb)) (Nat.lt_irrefl _)
  · exact absurd (Nat.lt_of_lt_of_le (Heap.lt_size (I.pin p hp).1) (by rw [z]; exact hb)) (Nat.lt_irrefl _)
structure Turn (P : Program) (w : World) (K : PySem.W.Frag) (tg : Expr) (J : It) (fp : List Addr) (it : Addr) (tn : Nat → Heap → Prop) : Prop where
  mem : it ∈ fp
  obj : ∀ i h, tn i h → ∀ b ∈ fp, ∃ o, h.get? b = some o ∧ ∀ v, o.data ≠ .cell v
  keep : ∀ i h h', tn i h → (∀ b ∈ fp, ∀ o, h.get? b = some o → h'.get? b = some o) → tn i h'
  item : ∀ (X : Cx), X.prog = P → X.w = w → X.K = K → X.calm = true → ∀ (i : Nat) (pins : List (Addr × Obj)) (s : Shared) (σ : St) (H : Hp) (E : Value → Shared → Prop), Inv X pins σ H s → (∀ b ∈ fp, FpOk X pins H b) → tn i s.heap → J.go i H →
    wpAny (model P w) X.A (pyNext (.ref it)) (fun r s1 => ∃ u, r = some u ∧
      wpAny (model P w) X.A (letOwnedTupleGo tg (.ref it) u) (fun _ s2 => ∃ x H', Inv X pins σ H' s2 ∧ RelV x u ∧ J.yld i H x H' ∧ tn (i + 1) s2.heap ∧ ∀ b ∈ fp, H' b = none) E s1) E s
  done : ∀ (X : Cx), X.prog = P → X.w = w → X.K = K → X.calm = true → ∀ (i : Nat) (pins : List (Addr × Obj)) (s : Shared) (σ : St) (H : Hp) (E : Value → Shared → Prop), Inv X pins σ H s → (∀ b ∈ fp, FpOk X pins H b) → tn i s.heap → J.stop i H →
    wpAny (model P w) X.A (pyNext (.ref it)) (fun r s1 => r = none ∧ Inv X pins σ H s1) E s
  self : ∀ (A : Around) (i : Nat) (s : Shared) (Q : Value → Shared → Prop) (E : Value → Shared → Prop), tn i s.heap → Q (.ref it) s → wpAny (model P w) A (pyIter (.ref it)) Q E s
abbrev TI := St → Hp → (It → Hp → Prop) → Prop
/-- an iterator has come -/
def PIE (X : Cx) (pins : List (Addr × Obj)) (σ : St) (tg : Expr) (R : It → Hp → Prop) (itv : Value) (s2 : Shared) : Prop :=
  ∃ (it : Addr) (fp : List Addr) (tn : Nat → Heap → Prop) (J : It) (H' : Hp), itv = .ref it ∧ Inv X pins σ H' s2 ∧ Turn X.prog X.w X.K tg J fp it tn ∧ tn 0 s2.heap ∧ (∀ b ∈ fp, FpOk X pins H' b) ∧ R J H'
def PI (X : Cx) (tg iter : Expr) (wi : TI) : Prop :=
  ∀ (pins : List (Addr × Obj)) (s : Shared) (σ : St) (H : Hp) (R : It → Hp → Prop), Inv X pins σ H s → wi σ H R →
    wpAny (model X.prog X.w) X.A (eval iter X.env) (fun v s1 => wpAny (model X.prog X.w) X.A (pyIter v) (PIE X pins σ tg R) X.xe s1) X.xe s
/-- the step ahead of the store is nothing for an iterator that keeps no tuple -/
theorem go_of {M : Model} {A : Around} {E : Value → Shared → Prop} {s : Shared} {tg : Expr} {it : Addr} {u : Value} {o : Obj} {n : String} {vs : Array Value} {Q : Unit → Shared → Prop} (ho : s.heap.get? it = some o) (hc : o.cls = .type n) (hd : o.data = .fields vs)
    (hn : ["enumerate", "zip", "dict_itemiterator", "dict_reverseitemiterator", "odict_iterator", "itertools.zip_longest", "itertools.pairwise"].contains n = false) (hQ : Q () s) : wpAny M A (letOwnedTupleGo tg (.ref it) u) Q E s := by
  unfold letOwnedTupleGo
  cases tg <;> first
    | exact wpAny_pure hQ
    | (cases u <;> first
        | exact wpAny_pure hQ
        | (refine wpAny_bind (wpAny_load ho ?_)
           rw [hc, hd]
           show wpAny M A (if (["enumerate", "zip", "dict_itemiterator", "dict_reverseitemiterator", "odict_iterator", "itertools.zip_longest", "itertools.pairwise"].contains n && vs[0]? == some (rawInt _)) = true then _ else _) Q E s
           rw [if_neg (by intro h; rw [hn, Bool.false_and] at h; cases h)]
           exact wpAny_pure hQ))
def Itt (K : PySem.W.Frag) (a : Addr) : It :=
  ⟨fun i H => ∃ xs x, SqT K H a xs ∧ xs[i]? = some x, fun i H x H' => H' = H ∧ ∀ xs, SqT K H a xs → xs[i]? = some x, fun i H => ∃ xs, SqT K H a xs ∧ xs.length ≤ i⟩
/-- lo, lo + 1, .. (n of them) -/
def Itr (lo : Int) (n : Nat) : It := ⟨fun i _ => i < n, fun i H x H' => H' = H ∧ x = .int (lo + i), fun i _ => n ≤ i⟩
theorem turn_tuple {P : Program} {w : World} {K : PySem.W.Frag} {tg : Expr} (a it : Addr) : Turn P w K tg (Itt K a) [it] it (fun i h => h.IsTupleIter it a i) where
  mem := by simp
  obj := fun i h st b hb => by
    have e : b = it := by simpa using hb
    subst e
    obtain ⟨o, e, c, d⟩ := st
    exact ⟨o, e, fun v z => by rw [d] at z; cases z⟩
  keep := fun i h h' st k => st.at fun o e => k it (by simp) o e
  item := by
    intro X hP hw hK hc i pins s σ H E I hf st hg
    subst hP hw hK
    obtain ⟨xs, x, hq, hx⟩ := hg
    obtain ⟨its, rv, p, hz⟩ := I.tuple hq
    obtain ⟨u, hu, ru⟩ := rv.get hx
    obtain ⟨f0, f1, f2, f3, f4, f5⟩ := hf it (by simp)
    refine wpAny_pyNext_tuple_item st (show s.heap.IsTuple a its.toArray from p) (x := u) (by simpa using hu) fun h' st' sb => ?_
    have I1 : Inv X pins σ H { s with heap := h' } := I.turned (t' := s.toks) (fun b o hb e => (sb.2 b hb).trans e) f0 f1 f3 f4 f5
    obtain ⟨o, e, c, d⟩ := id st'
    exact ⟨u, rfl, go_of (s := { s with heap := h' }) e c d (by decide) ⟨x, H, I1, ru, ⟨rfl, fun ys hy => by rw [I.tuple_inj hy hq]; exact hx⟩, st', fun b hb => (hf b hb).1⟩⟩
  done := by
    intro X hP hw hK hc i pins s σ H E I hf st hg
    subst hP hw hK
    obtain ⟨xs, hq, hx⟩ := hg
    obtain ⟨its, rv, p, hz⟩ := I.tuple hq
    obtain ⟨f0, f1, f2, f3, f4, f5⟩ := hf it (by simp)
    have hl := rv.length
    exact wpAny_pyNext_tuple_end (I.ok.hd hc) st (show s.heap.IsTuple a its.toArray from p) (by simp; omega) fun h' eb => ⟨rfl, I.turned (t' := s.toks) (fun b o hb e => eb b o hb e) f0 f1 f3 f4 f5⟩
  self := fun _ _ _ _ _ st h => wpAny_pyIter_tupleiter st h
theorem turn_range {P : Program} {w : World} {K : PySem.W.Frag} {tg : Expr} (it : Addr) (lo : Int) (n : Nat) : Turn P w K tg (Itr lo n) [it] it (fun i h => IsRangeIter h it (lo + (i : Nat) * 1) ((n : Int) - (i : Nat)) 1) where
  mem := by simp
  obj := fun i h st b hb => by
    have e : b = it := by simpa using hb
    subst e
    exact ⟨_, st, fun v z => by
      have z' : Data.fields _ = Data.cell v := z
      cases z'⟩
  keep := fun i h h' st k => k it (by simp) _ st
  item := by
    intro X hP hw hK hc i pins s σ H E I hf st hg
    subst hP hw hK
    obtain ⟨f0, f1, f2, f3, f4, f5⟩ := hf it (by simp)
    have W := Walks.range (prog := X.prog) (w := X.w) (I.ok.hd hc) it lo 1 n
    refine W.item i s _ _ hg st fun v h' tk hv st' kk => ?_
    obtain ⟨t, rfl⟩ := hv
    have I1 : Inv X pins σ H { s with heap := h', toks := tk } := I.turned (fun b o hb e => kk b o (by simpa using hb) e) f0 f1 f3 f4 f5
    refine ⟨_, rfl, go_of (s := { s with heap := h', toks := tk }) (n := "range_iterator") st' rfl rfl (by decide) ⟨.int (lo + i), H, I1, ⟨t, ?_⟩, ⟨rfl, rfl⟩, st', fun b hb => (hf b hb).1⟩⟩
    rw [Int.mul_one]
  done := by
    intro X hP hw hK hc i pins s σ H E I hf st hg
    subst hP hw hK
    obtain ⟨f0, f1, f2, f3, f4, f5⟩ := hf it (by simp)
    exact wpAny_pyNext_range_end (I.ok.hd hc) st (by have : n ≤ i := hg; omega) fun h' eb => ⟨rfl, I.turned (t' := s.toks) (fun b o hb e => eb b o hb e) f0 f1 f3 f4 f5⟩
  self := fun _ _ _ _ _ st h => wpAny_pyIter_rangeiter st h
end L2
namespace L2
open PySem PySem.Spec PyProof.Rows
section
variable {X : Cx} {tg : Expr}
def iTup (K : PySem.W.Frag) (tl : TE) : TI := fun σ H R => tl σ H fun x H1 => ∃ a, x = .ref a ∧ (∃ xs, SqT K H1 a xs) ∧ R (Itt K a) H1
theorem pi_tup {l : Expr} {tl : TE} (hl : PE X l tl) : PI X tg l (iTup X.K tl) := by
  intro pins s σ H R I h
  refine thn (hl pins s σ H _ I h) fun v s1 ⟨x, H1, I1, r1, q1⟩ => ?_
  obtain ⟨a, e, ⟨xs, hq⟩, q⟩ := q1
  subst e
  cases r1
  obtain ⟨its, rv, p, hz⟩ := I1.tuple hq
  refine wpAny_pyIter_tuple (show s1.heap.IsTuple a its.toArray from p) ?_
  refine ⟨s1.heap.objs.size, [s1.heap.objs.size], _, _, H1, rfl, I1.kept (t' := s1.toks) fun b o e => Heap.get?_push_of_some _ e, turn_tuple a _, ⟨_, Heap.get?_push_size _ rfl, rfl, rfl⟩, fun b hb => ?_, q⟩
  have e : b = s1.heap.objs.size := by simpa using hb
  subst e
  exact I1.fpOk (Nat.le_refl _) (I1.hok.fresh (Nat.le_refl _))
/-- a range object just made, walked -/
theorem range_it {pins : List (Addr × Obj)} {σ : St} {H : Hp} {s : Shared} {R : It → Hp → Prop} {E : Value → Shared → Prop} {lo hi : Int} {t u v : Tok} {tk : Nat} (I : Inv X pins σ H s) (h1 : -(2 ^ 62) ≤ lo) (h2 : lo < 2 ^ 62) (h3 : -(2 ^ 62) ≤ hi) (h4 : hi < 2 ^ 62)
    (q : R (Itr lo (hi - lo).toNat) H) : wpAny (model X.prog X.w) X.A (pyIter (.ref s.heap.objs.size)) (PIE X pins σ tg R) E { s with heap := s.heap.push { cls := .type "range", data := .fields #[.int lo t, .int hi u, .int 1 v] }, toks := tk } := by
  refine wpAny_pyIter_range (IsRange.new ..) (small_one h1 h2 h3 h4) ?_
  have I1 : Inv X pins σ H { s with heap := s.heap.push { cls := .type "range", data := .fields #[.int lo t, .int hi u, .int 1 v] }, toks := tk } := I.kept fun b o e => Heap.get?_push_of_some _ e
  refine ⟨(s.heap.push { cls := .type "range", data := .fields #[.int lo t, .int hi u, .int 1 v] }).objs.size, [(s.heap.push { cls := .type "range", data := .fields #[.int lo t, .int hi u, .int 1 v] }).objs.size], _, _, H, rfl,
    I1.kept (t' := tk) fun b o e => Heap.get?_push_of_some _ e, turn_range _ lo (hi - lo).toNat, ?_, fun b hb => ?_, q⟩
  · have e1 : lo + ((0 : Nat) : Int) * 1 = lo := by simp
    have e2 : (((hi - lo).toNat : Nat) : Int) - ((0 : Nat) : Int) = Builtin.Range.rangeSize lo hi 1 := by rw [rangeSize_one]; split <;> omega
    show IsRangeIter _ _ (lo + ((0 : Nat) : Int) * 1) ((((hi - lo).toNat : Nat) : Int) - ((0 : Nat) : Int)) 1
    rw [e1, e2]
    exact Heap.get?_push_size _ rfl
  · have e : b = (s.heap.push { cls := .type "range", data := .fields #[.int lo t, .int hi u, .int 1 v] }).objs.size := by simpa using hb
    subst e
    exact I1.fpOk (Nat.le_refl _) (I1.hok.fresh (Nat.le_refl _))
def iRng1 (ta : TA) : TI := fun σ H R => ta σ H fun vs H1 => ∃ j : Int, vs = [.int j] ∧ -(2 ^ 62) ≤ j ∧ j < 2 ^ 62 ∧ R (Itr 0 j.toNat) H1
def iRng2 (ta : TA) : TI := fun σ H R => ta σ H fun vs H1 => ∃ i j : Int, vs = [.int i, .int j] ∧ (-(2 ^ 62) ≤ i ∧ i < 2 ^ 62 ∧ -(2 ^ 62) ≤ j ∧ j < 2 ^ 62) ∧ R (Itr i (j - i).toNat) H1
theorem pi_range1 {a : Expr} {ta : TA} {p pos : Pos} (hg : Gl X "range") (hm : X.mg "range" = none) (ha : PA X [a] ta) (hs : starEach [a] X.env = [(false, eval a X.env)] := by rfl) : PI X tg (.Call (.Name "range" p) [a] [] pos) (iRng1 ta) := by
  intro pins s σ H R I h
  refine Call_ (ld_blt I hg hm boot_range (PyProof.Rows.callWith_type1 (thn (ha pos pins s σ H _ I h) fun us s1 ⟨vs, H1, I1, r1, q1⟩ => ?_) hs rfl))
  obtain ⟨j, e, q1, q2, q⟩ := q1
  subst e
  cases r1 with
  | cons r rr =>
    cases rr
    obtain ⟨t, rfl⟩ := r
    exact call_range_1 (range_it I1 (by omega) (by omega) q1 q2 (by simpa using q))
theorem pi_range2 {a b : Expr} {ta : TA} {p pos : Pos} (hg : Gl X "range") (hm : X.mg "range" = none) (ha : PA X [a, b] ta) (hs : starEach [a, b] X.env = [(false, eval a X.env), (false, eval b X.env)] := by rfl) (hs2 : starEach [b] X.env = [(false, eval b X.env)] := by rfl) :
    PI X tg (.Call (.Name "range" p) [a, b] [] pos) (iRng2 ta) := by
  intro pins s σ H R I h
  refine Call_ (ld_blt I hg hm boot_range (PyProof.Rows.callWith_type1 (thn (ha pos pins s σ H _ I h) fun us s1 ⟨vs, H1, I1, r1, q1⟩ => ?_) (by rw [hs, hs2]) (by rw [hs2]; rfl)))
  obtain ⟨i, j, e, ⟨q1, q2, q3, q4⟩, q⟩ := q1
  subst e
  cases r1 with
  | cons r rr =>
    cases rr with
    | cons r' rr =>
      cases rr
      obtain ⟨t, rfl⟩ := r
      obtain ⟨t', rfl⟩ := r'
      exact call_range_2 (range_it I1 q1 q2 q3 q4 q)
/-- W: the invariant by the turn and a measure; N: what the body is to reach -/
def tFor (wi : TI) (g : TG) (tb : TS) : TS := fun D σ H => wi σ H fun J H1 => ∃ W : Nat → Nat → St → Hp → Prop, (∃ m, W 0 m σ H1) ∧ ∀ i m σ H, W i m σ H →
  (J.stop i H ∧ D.nx σ H) ∨ (J.go i H ∧ ∃ N : St → Hp → Prop, (∀ σ' H', N σ' H' → ∃ m', m' < m ∧ W (i + 1) m' σ' H') ∧ ∀ x H', J.yld i H x H' → g x σ H' fun σ2 H2 => tb { D with nx := N, ct := N, bk := D.nx } σ2 H2)
/-- the records at fp as they stand -/
def pinsAt (fp : List Addr) (h : Heap) : List (Addr × Obj) := fp.filterMap fun b => (h.get? b).map fun o => (b, o)
theorem mem_pinsAt {fp : List Addr} {h : Heap} {b : Addr} {o : Obj} (hb : b ∈ fp) (e : h.get? b = some o) : (b, o) ∈ pinsAt fp h := List.mem_filterMap.mpr ⟨b, hb, by rw [e]; rfl⟩
theorem of_pinsAt {fp : List Addr} {h : Heap} {p : Addr × Obj} (hp : p ∈ pinsAt fp h) : p.1 ∈ fp ∧ h.get? p.1 = some p.2 := by
  obtain ⟨b, hb, e⟩ := List.mem_filterMap.mp hp
  cases q : h.get? b with
  | none => rw [q] at e; cases e
  | some o =>
    rw [q] at e
    have e' : (b, o) = p := Option.some.inj e
    subst e'
    exact ⟨hb, q⟩
theorem Inv.pinned {pins : List (Addr × Obj)} {σ : St} {H : Hp} {s : Shared} {fp : List Addr} (I : Inv X pins σ H s) (hf : ∀ b ∈ fp, FpOk X pins H b) (ho : ∀ b ∈ fp, ∃ o, s.heap.get? b = some o ∧ ∀ v, o.data ≠ .cell v) : Inv X (pins ++ pinsAt fp s.heap) σ H s :=
  I.pins_of fun p hp => (List.mem_append.mp hp).elim (fun z => I.pin p (List.mem_append_right _ z)) fun z => by
    obtain ⟨hb, e⟩ := of_pinsAt z
    obtain ⟨f0, f1, f2, _⟩ := hf p.1 hb
    obtain ⟨o, e', d⟩ := ho p.1 hb
    rw [e] at e'; cases e'
    exact ⟨e, f0, f1, f2, d⟩
theorem Inv.unpinned {pins pl : List (Addr × Obj)} {σ : St} {H : Hp} {s : Shared} (I : Inv X (pins ++ pl) σ H s) : Inv X pins σ H s := I.pins_of fun p hp => I.pin p (List.mem_append_right _ (List.mem_append_left _ hp))
theorem ps_for {iter : Expr} {body : List Stmt} {wi : TI} {g : TG} {tb : TS} {pos : Pos} (hp : PassesOwn (model X.prog X.w) X.A X.env X.xe) (hc : X.calm = true) (hi : PI X tg iter wi) (hg : PG X tg g) (hb : PSs X body tb)
    (hs : ∀ x, foldedSetIterable iter X.env x = pure x := by intro _; rfl) : PS X (.For tg iter body [] pos) (tFor wi g tb) := by
  intro pins s σ H D I h
  refine wpAny_For (thn (hi pins s σ H _ I h) fun v s1 h1 => thn h1 fun itv s2 h2 => ?_) hs
  obtain ⟨it, fp, tn, J, H2, e, I2, T, st2, f2, W, ⟨m0, w0⟩, turn⟩ := h2
  subst e
  -- what stays true of the iterator's objects through the loop
  have stat : ∀ {H' : Hp}, (∀ b ∈ fp, H' b = none) → ∀ b ∈ fp, FpOk X pins H' b := fun hn b hb => ⟨hn b hb, (f2 b hb).2⟩
  refine codeAny_forLoop_any (fun n s' => ∃ i σ' H', Inv X pins σ' H' s' ∧ tn i s'.heap ∧ (∀ b ∈ fp, H' b = none) ∧ W i n σ' H') ?_ m0 ⟨0, σ, H2, I2, st2, fun b hb => (f2 b hb).1, w0⟩
  rintro n s3 ⟨i, σ3, H3, I3, st3, fr3, w3⟩
  rcases turn i n σ3 H3 w3 with ⟨stop, qn⟩ | ⟨go, N, hN, step⟩
  · refine wpAny_passesOwn hp (thn (T.done X rfl rfl rfl hc i pins s3 σ3 H3 X.xe I3 (stat fr3) st3 stop) fun r s4 ⟨hr, I4⟩ => ?_)
    subst hr
    exact wpAny_execs_nil ⟨σ3, H3, I4, qn⟩
  · refine wpAny_passesOwn hp (thn (T.item X rfl rfl rfl hc i pins s3 σ3 H3 X.xe I3 (stat fr3) st3 go) fun r s4 ⟨u, hr, h4⟩ => ?_)
    subst hr
    refine wpAny_passesOwn hp (thn h4 fun _ s5 ⟨x, H5, I5, r5, y5, st5, fr5⟩ => ?_)
    have I5' := I5.pinned (stat fr5) (T.obj _ _ st5)
    refine wpAny_passesOwn hp (thn (hg _ s5 σ3 H5 x u _ I5' r5 (step x H5 y5)) fun _ s6 ⟨σ6, H6, I6, q6⟩ => ?_)
    refine wpAny_passesOwn hp (thn (hb _ s6 σ6 H6 _ I6 q6) fun f s7 q7 => ?_)
    have again : ∀ {σ7 : St} {H7 : Hp}, Inv X (pins ++ pinsAt fp s5.heap) σ7 H7 s7 → N σ7 H7 → ∃ m, m < n ∧ ∃ i σ' H', Inv X pins σ' H' s7 ∧ tn i s7.heap ∧ (∀ b ∈ fp, H' b = none) ∧ W i m σ' H' := fun {σ7 H7} I7 n7 => by
      obtain ⟨m', hm, w7⟩ := hN σ7 H7 n7
      refine ⟨m', hm, i + 1, σ7, H7, I7.unpinned, T.keep _ _ _ st5 fun b hb o e => (I7.pin (b, o) (List.mem_append_right _ (List.mem_append_right _ (mem_pinsAt hb e)))).1, fun b hb => ?_, w7⟩
      obtain ⟨o, e, d⟩ := T.obj _ _ st5 b hb
      exact (I7.pin (b, o) (List.mem_append_right _ (List.mem_append_right _ (mem_pinsAt hb e)))).2.1
    cases f with
    | next => obtain ⟨σ7, H7, I7, n7⟩ := q7; exact again I7 n7
    | cont => obtain ⟨σ7, H7, I7, n7⟩ := q7; exact again I7 n7
    | brk => obtain ⟨σ7, H7, I7, q7⟩ := q7; exact ⟨σ7, H7, I7.unpinned, q7⟩
    | ret v => obtain ⟨x7, σ7, H7, I7, r7, q7⟩ := q7; exact ⟨x7, σ7, H7, I7.unpinned, r7, q7⟩
end
theorem for_tup {K : PySem.W.Frag} {a : Addr} {xs : List V} {g : TG} {tb : TS} {D : Ends} {σ : St} {H : Hp} (Pv : Nat → St → Hp → Prop) (h0 : Pv 0 σ H) (hl : ∀ i σ H, i ≤ xs.length → Pv i σ H → SqT K H a xs)
    (hs : ∀ i x σ H, xs[i]? = some x → Pv i σ H → g x σ H fun σ2 H2 => tb { D with nx := Pv (i + 1), ct := Pv (i + 1), bk := D.nx } σ2 H2) (hd : ∀ σ H, Pv xs.length σ H → D.nx σ H) :
    ∃ W : Nat → Nat → St → Hp → Prop, (∃ m, W 0 m σ H) ∧ ∀ i m σ H, W i m σ H →
      ((Itt K a).stop i H ∧ D.nx σ H) ∨ ((Itt K a).go i H ∧ ∃ N : St → Hp → Prop, (∀ σ' H', N σ' H' → ∃ m', m' < m ∧ W (i + 1) m' σ' H') ∧ ∀ x H', (Itt K a).yld i H x H' → g x σ H' fun σ2 H2 => tb { D with nx := N, ct := N, bk := D.nx } σ2 H2) := by
  refine ⟨fun i m σ H => m = xs.length - i ∧ i ≤ xs.length ∧ Pv i σ H, ⟨xs.length, by simp, Nat.zero_le _, h0⟩, ?_⟩
  rintro i m σ H ⟨rfl, hi, p⟩
  have q := hl i σ H hi p
  by_cases hlt : i < xs.length
  · refine .inr ⟨⟨xs, xs[i], q, by simp [hlt]⟩, Pv (i + 1), fun σ' H' p' => ⟨xs.length - (i + 1), by omega, rfl, hlt, p'⟩, fun x H' y => ?_⟩
    obtain ⟨e, y⟩ := y
    subst e
    exact hs i x σ _ (y xs q) p
  · have e : i = xs.length := by omega
    subst e
    exact .inl ⟨⟨xs, q, Nat.le_refl _⟩, hd σ H p⟩
theorem for_range {lo : Int} {n : Nat} {g : TG} {tb : TS} {D : Ends} {σ : St} {H : Hp} (Pv : Nat → St → Hp → Prop) (h0 : Pv 0 σ H)
    (hs : ∀ i σ H, i < n → Pv i σ H → g (.int (lo + i)) σ H fun σ2 H2 => tb { D with nx := Pv (i + 1), ct := Pv (i + 1), bk := D.nx } σ2 H2) (hd : ∀ σ H, Pv n σ H → D.nx σ H) :
    ∃ W : Nat → Nat → St → Hp → Prop, (∃ m, W 0 m σ H) ∧ ∀ i m σ H, W i m σ H →
      ((Itr lo n).stop i H ∧ D.nx σ H) ∨ ((Itr lo n).go i H ∧ ∃ N : St → Hp → Prop, (∀ σ' H', N σ' H' → ∃ m', m' < m ∧ W (i + 1) m' σ' H') ∧ ∀ x H', (Itr lo n).yld i H x H' → g x σ H' fun σ2 H2 => tb { D with nx := N, ct := N, bk := D.nx } σ2 H2) := by
  refine ⟨fun i m σ H => m = n - i ∧ i ≤ n ∧ Pv i σ H, ⟨n, by simp, Nat.zero_le _, h0⟩, ?_⟩
  rintro i m σ H ⟨rfl, hi, p⟩
  by_cases hlt : i < n
  · refine .inr ⟨hlt, Pv (i + 1), fun σ' H' p' => ⟨n - (i + 1), by omega, rfl, hlt, p'⟩, fun x H' y => ?_⟩
    obtain ⟨e, y⟩ := y
    subst e y
    exact hs i σ _ hlt p
  · have e : i = n := by omega
    subst e
    exact .inl ⟨Nat.le_refl _, hd σ H p⟩
end L2
namespace L2
open PySem PySem.Spec PyProof.Rows
abbrev R2 := V → V → Hp → VK → Prop
/-- a two-place operation on values: f is binaryOp op, inplaceOp op or compareOp op -/
def OpR (X : Cx) (f : Value → Value → Sem Value) (r : R2) : Prop :=
  ∀ (pins : List (Addr × Obj)) (s : Shared) (σ : St) (H : Hp) (x y : V) (v u : Value) (Q : VK), Inv X pins σ H s → RelV x v → RelV y u → r x y H Q →
    wpAny (model X.prog X.w) X.A (f v u) (EP X pins σ Q) X.xe s
/-- a one-place operation -/
def UnR (X : Cx) (f : Value → Sem Value) (r : V → Hp → VK → Prop) : Prop :=
  ∀ (pins : List (Addr × Obj)) (s : Shared) (σ : St) (H : Hp) (x : V) (v : Value) (Q : VK), Inv X pins σ H s → RelV x v → r x H Q →
    wpAny (model X.prog X.w) X.A (f v) (EP X pins σ Q) X.xe s
/-- a call of a value that is known (a builtin, a type) with values -/
def CallR (X : Cx) (f : Value) (r : List V → Hp → VK → Prop) : Prop :=
  ∀ (pins : List (Addr × Obj)) (s : Shared) (σ : St) (H : Hp) (xs : List V) (us : List Value) (Q : VK), Inv X pins σ H s → Vals xs us → r xs H Q →
    wpAny (model X.prog X.w) X.A (call f us) (EP X pins σ Q) X.xe s
def tOp (r : R2) (ta tb : TE) : TE := fun σ H Q => ta σ H fun x H1 => tb σ H1 fun y H2 => r x y H2 Q
def tUn (r : V → Hp → VK → Prop) (ta : TE) : TE := fun σ H Q => ta σ H fun x H1 => r x H1 Q
/-- ints in, under C, and a value out -/
def rI (C : Int → Int → Prop) (g : Int → Int → V) : R2 := fun x y H Q => ∃ i j, x = .int i ∧ y = .int j ∧ C i j ∧ Q (g i j) H
def rI0 (g : Int → Int → V) : R2 := fun x y H Q => ∃ i j, x = .int i ∧ y = .int j ∧ Q (g i j) H
def rU (g : Int → V) : V → Hp → VK → Prop := fun x H Q => ∃ i, x = .int i ∧ Q (g i) H
section
variable {X : Cx} {a b c : Expr} {ta tb tc : TE} {pos : Pos}
theorem binT (ha : PE X a ta) (hb : PE X b tb) {pins : List (Addr × Obj)} {s : Shared} {σ : St} {H : Hp} {R : V → V → Hp → Prop} (I : Inv X pins σ H s)
    (h : ta σ H fun x H1 => tb σ H1 fun y H2 => R x y H2) {Q : Value → Shared → Prop} {f : Value → Value → Sem Value}
    (hf : ∀ v u s2 x y H2, Inv X pins σ H2 s2 → RelV x v → RelV y u → R x y H2 → wpAny (model X.prog X.w) X.A (f v u) Q X.xe s2) :
    wpAny (model X.prog X.w) X.A (eval a X.env) (fun v s₁ => wpAny (model X.prog X.w) X.A (eval b X.env) (fun u s₂ => wpAny (model X.prog X.w) X.A (f v u) Q X.xe s₂) X.xe s₁) X.xe s := by
  refine thn (ha pins s σ H _ I h) fun v s1 ⟨x, H1, I1, r1, q1⟩ => ?_
  refine thn (hb pins s1 σ H1 _ I1 q1) fun u s2 ⟨y, H2, I2, r2, q2⟩ => ?_
  exact hf v u s2 x y H2 I2 r1 r2 q2
theorem pe_op {op : Operator} {r : R2} (ho : OpR X (binaryOp op) r) (ha : PE X a ta) (hb : PE X b tb) : PE X (.BinOp a op b pos) (tOp r ta tb) := by
  intro pins s σ H Q I h
  exact wpAny_BinOp (binT ha hb I h fun v u s2 x y H2 I2 rx ry q => ho pins s2 σ H2 x y v u Q I2 rx ry q)
theorem pe_un {op : UnaryOp} {r : V → Hp → VK → Prop} (ho : UnR X (unaryOp op) r) (ha : PE X a ta) : PE X (.UnaryOp op a pos) (tUn r ta) := by
  intro pins s σ H Q I h
  exact UnaryOp_ (thn (ha pins s σ H _ I h) fun v s1 ⟨x, H1, I1, r1, q1⟩ => ho pins s1 σ H1 x v Q I1 r1 q1)
theorem opI {f : Value → Value → Sem Value} {C : Int → Int → Prop} {g : Int → Int → Int}
    (rule : ∀ (i j : Int) (t u : Tok) (s : Shared) (Q : Value → Shared → Prop) (E : Value → Shared → Prop), C i j → Q (.int (g i j) s.toks) { s with toks := s.toks + 1 } → wpAny (model X.prog X.w) X.A (f (.int i t) (.int j u)) Q E s) :
    OpR X f (rI C fun i j => .int (g i j)) := by
  intro pins s σ H x y v u Q I rx ry h
  obtain ⟨i, j, rfl, rfl, hc, q⟩ := h
  obtain ⟨t, rfl⟩ := rx
  obtain ⟨t', rfl⟩ := ry
  exact rule i j t t' s _ _ hc ⟨.int (g i j), H, I.tok _, ⟨_, rfl⟩, q⟩
theorem opI0 {f : Value → Value → Sem Value} {g : Int → Int → Int}
    (rule : ∀ (i j : Int) (t u : Tok) (s : Shared) (Q : Value → Shared → Prop) (E : Value → Shared → Prop), Q (.int (g i j) s.toks) { s with toks := s.toks + 1 } → wpAny (model X.prog X.w) X.A (f (.int i t) (.int j u)) Q E s) :
    OpR X f (rI0 fun i j => .int (g i j)) := by
  intro pins s σ H x y v u Q I rx ry h
  obtain ⟨i, j, rfl, rfl, q⟩ := h
  obtain ⟨t, rfl⟩ := rx
  obtain ⟨t', rfl⟩ := ry
  exact rule i j t t' s _ _ ⟨.int (g i j), H, I.tok _, ⟨_, rfl⟩, q⟩
theorem opB0 {f : Value → Value → Sem Value} {g : Int → Int → Bool}
    (rule : ∀ (i j : Int) (t u : Tok) (s : Shared) (Q : Value → Shared → Prop) (E : Value → Shared → Prop), Q (.bool (g i j)) s → wpAny (model X.prog X.w) X.A (f (.int i t) (.int j u)) Q E s) :
    OpR X f (rI0 fun i j => .bl (g i j)) := by
  intro pins s σ H x y v u Q I rx ry h
  obtain ⟨i, j, rfl, rfl, q⟩ := h
  obtain ⟨t, rfl⟩ := rx
  obtain ⟨t', rfl⟩ := ry
  exact rule i j t t' s _ _ ⟨.bl (g i j), H, I, rfl, q⟩
def CDiv (i j : Int) : Prop := 0 < j ∧ j < 1073741824
theorem two_pow_nn (k : Nat) : (0 : Int) ≤ 2 ^ k := by
  rw [two_pow_cast]
  exact Int.natCast_nonneg _
theorem op_add : OpR X (binaryOp .Add) (rI0 fun i j => .int (i + j)) := opI0 fun _ _ _ _ _ _ _ q => add_int q
theorem op_sub : OpR X (binaryOp .Sub) (rI0 fun i j => .int (i - j)) := opI0 fun _ _ _ _ _ _ _ q => sub_int q
/-- // by a positive divisor -/
theorem op_fdiv : OpR X (binaryOp .FloorDiv) (rI CDiv fun i j => .int (i / j)) := opI fun i j _ _ _ _ _ hc q => by
  have h1 : (0 : Int) < j := hc.1
  have h2 : j < 1073741824 := hc.2
  exact floordiv_int (by omega) (by rw [Int.fdiv_eq_ediv_of_nonneg i (by omega)]; exact q) (.inl (PyProof.noPylong_small (by omega)))
/-- % by a positive divisor of any size -/
theorem op_mod : OpR X (binaryOp .Mod) (rI (fun _ j => 0 < j) fun i j => .int (i % j)) := opI fun i j _ _ _ _ _ hc q => by
  have h1 : (0 : Int) < j := hc
  exact mod_int' (by omega) (by rw [Int.fmod_eq_emod_of_nonneg i (by omega)]; exact q)
theorem op_shr : OpR X (binaryOp .RShift) (rI (fun _ j => 0 ≤ j) fun i j => .int (i / 2 ^ j.toNat)) := opI fun i j _ _ _ _ _ hc q =>
  rshift_int hc (by rw [Int.fdiv_eq_ediv_of_nonneg i (two_pow_nn _)]; exact q)
theorem op_and : OpR X (binaryOp .BitAnd) (rI0 fun i j => .int (Builtin.bitAnd i j)) := opI0 fun _ _ _ _ _ _ _ q => and_int q
theorem op_or : OpR X (binaryOp .BitOr) (rI0 fun i j => .int (Builtin.bitOr i j)) := opI0 fun _ _ _ _ _ _ _ q => or_int q
theorem unI {f : Value → Sem Value} {g : Int → Int}
    (rule : ∀ (i : Int) (t : Tok) (s : Shared) (Q : Value → Shared → Prop) (E : Value → Shared → Prop), Q (.int (g i) s.toks) { s with toks := s.toks + 1 } → wpAny (model X.prog X.w) X.A (f (.int i t)) Q E s) :
    UnR X f (rU fun i => .int (g i)) := by
  intro pins s σ H x v Q I rx h
  obtain ⟨i, rfl, q⟩ := h
  obtain ⟨t, rfl⟩ := rx
  exact rule i t s _ _ ⟨.int (g i), H, I.tok _, ⟨_, rfl⟩, q⟩
theorem un_neg : UnR X (unaryOp .USub) (rU fun i => .int (-i)) := unI fun _ _ _ _ _ q => neg_int q
end
/-- the scalars that == tells apart as data does -/
def scal : V → V → Bool
  | .non, .non => true | .non, .int _ => true | .int _, .non => true | .non, .bl _ => true | .bl _, .non => true | .non, .str _ => true | .str _, .non => true
  | .int _, .int _ => true | .bl _, .bl _ => true | .str _, .str _ => true | .byt _, .byt _ => true
  | .int _, .str _ => true | .str _, .int _ => true | .bl _, .str _ => true | .str _, .bl _ => true
  | _, _ => false
def rEq : R2 := fun x y H Q => scal x y = true ∧ Q (.bl (decide (x = y))) H
def rNe : R2 := fun x y H Q => scal x y = true ∧ Q (.bl (!decide (x = y))) H
theorem dec_int {i j : Int} : decide (V.int i = V.int j) = (i == j) := by
  rw [Bool.eq_iff_iff]
  simp
theorem dec_bl {i j : Bool} : decide (V.bl i = V.bl j) = (i == j) := by
  rw [Bool.eq_iff_iff]
  simp
theorem dec_str {i j : Str} : decide (V.str i = V.str j) = (i == j) := by
  rw [Bool.eq_iff_iff]
  simp
theorem dec_byt {i j : Array UInt8} : decide (V.byt i = V.byt j) = (i.toList == j.toList) := by
  rw [Bool.eq_iff_iff]
  cases i
  cases j
  simp
section
variable {X : Cx} {a b c : Expr} {ta tb tc : TE} {pos : Pos}
theorem fin_bl {pins : List (Addr × Obj)} {σ : St} {H : Hp} {s : Shared} {Q : VK} {k k' : Bool} (I : Inv X pins σ H s) (q : Q (.bl k) H) (e : k = k') : EP X pins σ Q (.bool k') s := by
  subst e
  exact ⟨.bl k, H, I, rfl, q⟩
theorem op_eq : OpR X (compareOp .Eq) rEq := by
  intro pins s σ H x y v u Q I rx ry h
  obtain ⟨hs, q⟩ := h
  cases x with
  | non =>
    cases rx
    cases y with
    | non => cases ry; exact PySem.EqNone.eq_none_none (fin_bl I q (by simp))
    | bl j => cases ry; exact PySem.EqNone.eq_none_bool (fin_bl I q (by simp))
    | int j => obtain ⟨t', rfl⟩ := ry; exact PySem.EqNone.eq_none_int (fin_bl I q (by simp))
    | str j => obtain ⟨t', rfl⟩ := ry; exact PySem.EqNone.eq_none_str (fin_bl I q (by simp))
    | _ => exact absurd (show false = true from hs) Bool.false_ne_true
  | bl i =>
    cases rx
    cases y with
    | non => cases ry; exact PySem.EqNone.eq_bool_none (fin_bl I q (by simp))
    | bl j => cases ry; exact eq_bool (fin_bl I q dec_bl)
    | str j => obtain ⟨t', rfl⟩ := ry; exact PySem.EqMixed.eq_bool_str (fin_bl I q (by simp))
    | _ => exact absurd (show false = true from hs) Bool.false_ne_true
  | int i =>
    obtain ⟨t, rfl⟩ := rx
    cases y with
    | non => cases ry; exact PySem.EqNone.eq_int_none (fin_bl I q (by simp))
    | int j => obtain ⟨t', rfl⟩ := ry; exact eq_int (fin_bl I q dec_int)
    | str j => obtain ⟨t', rfl⟩ := ry; exact PySem.EqMixed.eq_int_str (fin_bl I q (by simp))
    | _ => exact absurd (show false = true from hs) Bool.false_ne_true
  | str i =>
    obtain ⟨t, rfl⟩ := rx
    cases y with
    | non => cases ry; exact PySem.EqNone.eq_str_none (fin_bl I q (by simp))
    | bl j => cases ry; exact PySem.EqMixed.eq_str_bool (fin_bl I q (by simp))
    | int j => obtain ⟨t', rfl⟩ := ry; exact PySem.EqMixed.eq_str_int (fin_bl I q (by simp))
    | str j => obtain ⟨t', rfl⟩ := ry; exact eq_str (fin_bl I q dec_str)
    | _ => exact absurd (show false = true from hs) Bool.false_ne_true
  | byt i =>
    obtain ⟨t, rfl⟩ := rx
    cases y with
    | byt j => obtain ⟨t', rfl⟩ := ry; exact PySem.W.eq_bytes (fin_bl I q dec_byt)
    | _ => exact absurd (show false = true from hs) Bool.false_ne_true
  | _ => cases y <;> exact absurd (show false = true from hs) Bool.false_ne_true
theorem op_ne : OpR X (compareOp .NotEq) rNe := by
  intro pins s σ H x y v u Q I rx ry h
  obtain ⟨hs, q⟩ := h
  cases x with
  | non =>
    cases rx
    cases y with
    | non => cases ry; exact PySem.EqNone.ne_none_none (fin_bl I q (by simp))
    | bl j => cases ry; exact PySem.EqNone.ne_none_bool (fin_bl I q (by simp))
    | int j => obtain ⟨t', rfl⟩ := ry; exact PySem.EqNone.ne_none_int (fin_bl I q (by simp))
    | str j => obtain ⟨t', rfl⟩ := ry; exact PySem.EqNone.ne_none_str (fin_bl I q (by simp))
    | _ => exact absurd (show false = true from hs) Bool.false_ne_true
  | bl i =>
    cases rx
    cases y with
    | non => cases ry; exact PySem.EqNone.ne_bool_none (fin_bl I q (by simp))
    | bl j => cases ry; exact ne_bool (fin_bl I q (congrArg not dec_bl))
    | str j => obtain ⟨t', rfl⟩ := ry; exact PySem.EqMixed.ne_bool_str (fin_bl I q (by simp))
    | _ => exact absurd (show false = true from hs) Bool.false_ne_true
  | int i =>
    obtain ⟨t, rfl⟩ := rx
    cases y with
    | non => cases ry; exact PySem.EqNone.ne_int_none (fin_bl I q (by simp))
    | int j => obtain ⟨t', rfl⟩ := ry; exact ne_int (fin_bl I q (congrArg not dec_int))
    | str j => obtain ⟨t', rfl⟩ := ry; exact PySem.EqMixed.ne_int_str (fin_bl I q (by simp))
    | _ => exact absurd (show false = true from hs) Bool.false_ne_true
  | str i =>
    obtain ⟨t, rfl⟩ := rx
    cases y with
    | non => cases ry; exact PySem.EqNone.ne_str_none (fin_bl I q (by simp))
    | bl j => cases ry; exact PySem.EqMixed.ne_str_bool (fin_bl I q (by simp))
    | int j => obtain ⟨t', rfl⟩ := ry; exact PySem.EqMixed.ne_str_int (fin_bl I q (by simp))
    | str j => obtain ⟨t', rfl⟩ := ry; exact ne_str (fin_bl I q (congrArg not dec_str))
    | _ => exact absurd (show false = true from hs) Bool.false_ne_true
  | byt i =>
    obtain ⟨t, rfl⟩ := rx
    cases y with
    | byt j => obtain ⟨t', rfl⟩ := ry; exact PySem.W.ne_bytes (fin_bl I q (congrArg not dec_byt))
    | _ => exact absurd (show false = true from hs) Bool.false_ne_true
  | _ => cases y <;> exact absurd (show false = true from hs) Bool.false_ne_true
theorem op_lt : OpR X (compareOp .Lt) (rI0 fun i j => .bl (decide (i < j))) := opB0 fun _ _ _ _ _ _ _ q => lt_int q
theorem op_le : OpR X (compareOp .LtE) (rI0 fun i j => .bl (decide (i ≤ j))) := opB0 fun _ _ _ _ _ _ _ q => le_int q
theorem op_gt : OpR X (compareOp .Gt) (rI0 fun i j => .bl (decide (j < i))) := opB0 fun _ _ _ _ _ _ _ q => gt_int q
theorem op_ge : OpR X (compareOp .GtE) (rI0 fun i j => .bl (decide (j ≤ i))) := opB0 fun _ _ _ _ _ _ _ q => ge_int q
/-- two rules for one operation: by cases -/
theorem OpR.or {f : Value → Value → Sem Value} {r r' : R2} (h : OpR X f r) (h' : OpR X f r') : OpR X f (fun x y H Q => r x y H Q ∨ r' x y H Q) := by
  intro pins s σ H x y v u Q I rx ry q
  rcases q with q | q
  · exact h pins s σ H x y v u Q I rx ry q
  · exact h' pins s σ H x y v u Q I rx ry q
theorem nomark (b : Expr) {op : CmpOp} (h : op ≠ .In := by decide) (h2 : op ≠ .NotIn := by decide) : behindInMarks op b = false := by
  have e1 : (op == CmpOp.In) = false := by cases op <;> first | rfl | exact absurd rfl h
  have e2 : (op == CmpOp.NotIn) = false := by cases op <;> first | rfl | exact absurd rfl h2
  cases b <;> simp [behindInMarks, e1, e2]
/-- a comparison as a value; hm: nomark b, or (for in, not in) by with_unfolding_all rfl -/
theorem pe_cmpR {op : CmpOp} {r : R2} (ho : OpR X (compareOp op) r) (ha : PE X a ta) (hb : PE X b tb) (hm : behindInMarks op b = false) : PE X (.Compare a [op] [b] pos) (tOp r ta tb) := by
  intro pins s σ H Q I h
  exact wpAny_Compare1 (binT ha hb I h fun v u s2 x y H2 I2 rx ry q => ho pins s2 σ H2 x y v u Q I2 rx ry q) hm
/-- a reading of a value as a test -/
def tTest (t : TE) : TT := fun σ H Q => t σ H fun x H' => ∃ k, x = .bl k ∧ Q k H'
theorem pt_cmpR {op : CmpOp} {r : R2} (ho : OpR X (compareOp op) r) (ha : PE X a ta) (hb : PE X b tb) (hm : behindInMarks op b = false) : PT X (.Compare a [op] [b] pos) (tTest (tOp r ta tb)) := by
  intro pins s σ H Q I h
  refine wpAny_isTrue_Compare1 (thn (ha pins s σ H _ I h) fun v s1 ⟨x, H1, I1, r1, q1⟩ => thn (hb pins s1 σ H1 _ I1 q1) fun u s2 ⟨y, H2, I2, r2, q2⟩ =>
    thn (ho pins s2 σ H2 x y v u _ I2 r1 r2 q2) fun c s3 ⟨z, H3, I3, r3, k, e, q3⟩ => ?_) hm
  subst e
  cases r3
  exact wpAny_truthy_bool ⟨H3, I3, q3⟩
/-- a op1 b op2 c -/
def tChain (r r' : R2) (ta tb tc : TE) : TE := fun σ H Q => ta σ H fun x H1 => tb σ H1 fun y H2 => r x y H2 fun z H3 => ∃ k, z = .bl k ∧
  (if k = true then tc σ H3 fun w' H4 => r' y w' H4 Q else Q (.bl false) H3)
theorem pe_chain {op op' : CmpOp} {r r' : R2} (ho : OpR X (compareOp op) r) (ho' : OpR X (compareOp op') r') (ha : PE X a ta) (hb : PE X b tb) (hc : PE X c tc)
    (hm : lastMarks [op, op'] [b, c] = false := by with_unfolding_all rfl) : PE X (.Compare a [op, op'] [b, c] pos) (tChain r r' ta tb tc) := by
  intro pins s σ H Q I h
  refine Compare_chain (thn (ha pins s σ H _ I h) fun v s1 ⟨x, H1, I1, r1, q1⟩ => chain_link (thn (hb pins s1 σ H1 _ I1 q1) fun u s2 ⟨y, H2, I2, r2, q2⟩ =>
    thn (ho pins s2 σ H2 x y v u _ I2 r1 r2 q2) fun d s3 ⟨z, H3, I3, r3, k, e, q3⟩ => ?_)) hm
  subst e
  cases r3
  refine wpAny_truthy_bool ?_
  cases k with
  | false => exact ite_ff ⟨.bl false, H3, I3, rfl, q3⟩
  | true => exact ite_tt (chain_last (thn (hc pins s3 σ H3 _ I3 q3) fun w' s4 ⟨z', H4, I4, r4, q4⟩ => ho' pins s4 σ H4 y z' u w' Q I4 r2 r4 q4))
theorem pt_chain {op op' : CmpOp} {r r' : R2} (ho : OpR X (compareOp op) r) (ho' : OpR X (compareOp op') r') (ha : PE X a ta) (hb : PE X b tb) (hc : PE X c tc)
    (hm : lastMarks [op, op'] [b, c] = false := by with_unfolding_all rfl) : PT X (.Compare a [op, op'] [b, c] pos) (tTest (tChain r r' ta tb tc)) := by
  intro pins s σ H Q I h
  refine isTrue_chain (thn (ha pins s σ H _ I h) fun v s1 ⟨x, H1, I1, r1, q1⟩ => test_link (thn (hb pins s1 σ H1 _ I1 q1) fun u s2 ⟨y, H2, I2, r2, q2⟩ =>
    thn (ho pins s2 σ H2 x y v u _ I2 r1 r2 q2) fun d s3 ⟨z, H3, I3, r3, k, e, q3⟩ => ?_)) hm
  subst e
  cases r3
  refine wpAny_truthy_bool ?_
  cases k with
  | false =>
    obtain ⟨k', e', q'⟩ := q3
    cases e'
    exact ite_ff ⟨H3, I3, q'⟩
  | true =>
    refine ite_tt (test_last (thn (hc pins s3 σ H3 _ I3 q3) fun w' s4 ⟨z', H4, I4, r4, q4⟩ => thn (ho' pins s4 σ H4 y z' u w' _ I4 r2 r4 q4) fun d' s5 ⟨z2, H5, I5, r5, k2, e2, q5⟩ => ?_))
    subst e2
    cases r5
    exact wpAny_truthy_bool ⟨H5, I5, q5⟩
theorem line63 : (sizeLine : Nat) < 2 ^ 63 := by rw [sizeLine_eq]; decide
theorem vals1 {x : V} {us : List Value} (r : Vals [x] us) : ∃ u, us = [u] ∧ RelV x u := by
  cases r with
  | cons r1 r2 => cases r2; exact ⟨_, rfl, r1⟩
theorem vals2 {x y : V} {us : List Value} (r : Vals [x, y] us) : ∃ u w', us = [u, w'] ∧ RelV x u ∧ RelV y w' := by
  cases r with
  | cons r1 r2 =>
    cases r2 with
    | cons r3 r4 => cases r4; exact ⟨_, _, rfl, r1, r3⟩
theorem call_min2 (hc : X.calm = true) : CallR X (.builtin "min") (fun xs H Q => ∃ i j, xs = [.int i, .int j] ∧ Q (.int (if j < i then j else i)) H) := by
  intro pins s σ H xs us Q I r h
  obtain ⟨i, j, rfl, q⟩ := h
  obtain ⟨u, w', rfl, ⟨t, rfl⟩, ⟨t', rfl⟩⟩ := vals2 r
  refine min_two_ints (I.ok.hd hc) fun h' tk k => ⟨_, H, I.kept k, ?_, q⟩
  by_cases hj : j < i
  · rw [if_pos hj, if_pos hj]; exact ⟨_, rfl⟩
  · rw [if_neg hj, if_neg hj]; exact ⟨_, rfl⟩
end
end L2
namespace L2
open PySem PySem.Spec PyProof.Rows
structure ObjM (h : Heap) (x dx C : Addr) (mA : Str → Option Value) : Prop where
  obj : h.get? x = some (PySem.W.instObj C dx)
  ns : h.Ns1 dx mA
  ne : dx ≠ x
theorem lookIn_ns {h : Heap} {dx : Addr} {mA : Str → Option Value} (n : h.Ns1 dx mA) : ∃ od, h.get? dx = some od ∧ ∀ name, PySem.W.lookIn name od = some (mA name) := by
  obtain ⟨o, es, ep, ho, hd, hk, _, hm⟩ := n
  refine ⟨o, ho, fun name => ?_⟩
  have e := hm name
  unfold nsFind findBy at e
  rw [← Array.find?_toList] at e
  unfold PySem.W.lookIn
  rw [hd]
  dsimp only
  split
  · rename_i y q
    rw [q] at e
    exact congrArg some e
  · rename_i q
    rw [q] at e
    have a : es.toList.any (·.refKey) = false := by
      rw [List.any_eq_false]
      intro y hy
      obtain ⟨z, t, hkey⟩ := hk y (Array.mem_toList_iff.mp hy)
      simp [DictEntry.refKey, hkey]
    have a' : ¬ es.toList.any (·.refKey) = true := by rw [a]; exact Bool.false_ne_true
    rw [if_neg a']
    exact congrArg some e
theorem ObjM.look {h : Heap} {x dx C : Addr} {mA : Str → Option Value} (I : ObjM h x dx C mA) : ∃ od, PySem.W.InstAt h x (PySem.W.instObj C dx) C (some od) ∧ ∀ name, PySem.W.lookIn name od = some (mA name) :=
  let ⟨od, ho, hl⟩ := lookIn_ns I.ns
  ⟨od, ⟨I.obj, rfl, rfl, ho⟩, hl⟩
section
variable {prog : Program} {w : World} {A : Around} {E : Value → Shared → Prop} {s : Shared} {K : PySem.W.Frag} {x dx C f : Addr} {mA : Str → Option Value} {name : Str} {v : Value}
theorem get_map {expr : Bool} {Q : Value → Shared → Prop} (X : K.In s.heap) (I : ObjM s.heap x dx C mA) (hg : PySem.W.plainGet K C name = true) (hh : PySem.W.hasDictIn K C = true)
    (ha : PySem.W.findIn K (.ref C) name = some none) (hv : mA name = some v) (hv' : PySem.W.handedIn v = true) (h : Q v { s with toks := s.toks + 1 }) :
    wpAny (model prog w) A (getAttr (.ref x) name expr) Q E s := by
  obtain ⟨od, J, hl⟩ := I.look
  exact PySem.W.get_value X J (PySem.W.plainGet_of hg).1 (PySem.W.findObj_own hh ha rfl (by rw [hl, hv])) hv' h
theorem get_meth {pl : Sem Bool} {Q : Value × List Value → Shared → Prop} (X : K.In s.heap) (I : ObjM s.heap x dx C mA) (hg : PySem.W.plainGet K C name = true)
    (hf : PySem.W.findIn K (.ref C) name = some (some (.ref f))) (ht : PySem.W.isFn K (.ref f) = true) (hv : mA name = none) (h : Q (.ref f, [.ref x]) s) :
    wpAny (model prog w) A (getMethod (.ref x) name pl) Q E s := by
  obtain ⟨od, J, hl⟩ := I.look
  exact PySem.W.method_fn X J (PySem.W.plainGet_of hg).1 (PySem.W.plainGet_of hg).2 hf (beq_iff_eq.mp ht) (by show (PySem.W.lookIn name od).map (·.isSome) = some false; rw [hl, hv]; rfl) h
theorem set_map {ns : List Str} {Q : Unit → Shared → Prop} (X : K.In s.heap) (I : ObjM s.heap x dx C mA)
    (hs : PySem.W.findIn K (.ref C) "__setattr__" = some (some (.builtin "object.__setattr__"))) (hp : PySem.W.plainOver K C = true) (ht : PySem.W.takerIn K C name = some none) (hh : PySem.W.hasDictIn K C = true)
    (hw : PySem.Within mA ns) (hsz : ns.length ≤ sizeLine)
    (h : ∀ h', ObjM h' x dx C (fun y => if y = name then some v else mA y) → Heap.SameBut dx s.heap h' → Q () { s with heap := h', toks := s.toks + 2 }) :
    wpAny (model prog w) A (setAttr (.ref x) name v) Q E s := by
  obtain ⟨od, J, hl⟩ := I.look
  refine PySem.W.set_plain X J hs (PySem.W.osa_open (s := { s with toks := s.toks + 1 }) (r := none) X J hp ht fun b => ?_)
  obtain ⟨cd, hc, hd'⟩ := PySem.W.any_some hh
  have hx : s.heap.get? x = some ⟨.ref C, some dx, .plain, #[]⟩ := I.obj
  refine wpAny_bind (wpAny_pure (wpAny_bind (wpAny_bind (wpAny_loadPart hx (wpAny_bind (PySem.W.Looks.here (s := { s with toks := s.toks + 1 }) (PySem.W.looks_clsIn X hc) ?_))))))
  rw [hd']
  refine wpAny_pure (a := some dx) (wpAny_bind (wpAny_pure (wpAny_bind ?_)))
  refine wpAny_nsSet1 (s := { s with toks := s.toks + 1 }) I.ns fun h' hn2 hs2 => ?_
  obtain ⟨oD, esD, epD, hoD, hdD, hcD⟩ := hn2.count (PySem.Within.cons name v hw)
  refine wpAny_bind (wpAny_lookBehind hoD (by rw [hdD]; exact pastItsLine_dict (Nat.le_trans hcD (by rw [List.length_cons]; omega))) ?_)
  exact wpAny_pure (h _ ⟨(hs2.2 _ (Ne.symm I.ne)).trans I.obj, hn2, I.ne⟩ hs2)
/-- C(..): the dict at the heap's end, the instance behind it; then its __init__ -/
theorem make_map {R : Result → Shared → Prop} {vs : List Value} {kw : List (Str × Value)} (X : K.In s.heap) (hm : PySem.W.makesIn K C = true)
    (hi : PySem.W.findIn K (.ref C) "__init__" = some (some (.ref f))) (hf : PySem.W.typeIn K (.ref f) = some (.type "function"))
    (h : codeAny (model prog w) (A.under (.builtin "type.__call__" ⟨.ref C :: vs, kw⟩)) (.call (.ref f) ⟨.ref (s.heap.objs.size + 1) :: vs, kw⟩) (PySem.W.InitBack (s.heap.objs.size + 1) R)
      { s with heap := (s.heap.push PySem.W.emptyDict).push (PySem.W.instObj C s.heap.objs.size) }) :
    codeAny (model prog w) A (.call (.ref C) ⟨vs, kw⟩) R s := by
  obtain ⟨hh, g, d, t, os⟩ := s
  exact PySem.W.make_core (PySem.W.makes_of X hm) (PySem.W.looks_findIn X hi) (fun self => PySem.W.bind_fn X self hf) (.inl rfl) h
end
def putF (f : Str) (v : V) : List (Str × V) → List (Str × V)
  | [] => [(f, v)]
  | (g, x) :: r => if g = f then (g, v) :: r else (g, x) :: putF f v r
theorem lookup_putF (f g : Str) (v : V) : ∀ fs : List (Str × V), (putF f v fs).lookup g = if g = f then some v else fs.lookup g
  | [] => by
    show List.lookup g [(f, v)] = _
    by_cases h : g = f
    · have hb : (g == f) = true := beq_iff_eq.mpr h
      simp only [List.lookup, hb, if_pos h]
    · have hb : (g == f) = false := beq_eq_false_iff_ne.mpr h
      simp only [List.lookup, hb, if_neg h]
  | (k, x) :: r => by
    have ih := lookup_putF f g v r
    rw [show putF f v ((k, x) :: r) = (if k = f then (k, v) :: r else (k, x) :: putF f v r) from rfl]
    by_cases hk : k = f
    · rw [if_pos hk]
      by_cases h : g = k
      · have hb : (g == k) = true := beq_iff_eq.mpr h
        simp only [List.lookup, hb, if_pos (h.trans hk)]
      · have hb : (g == k) = false := beq_eq_false_iff_ne.mpr h
        simp only [List.lookup, hb, if_neg (fun e : g = f => h (e.trans hk.symm))]
    · rw [if_neg hk]
      by_cases h : g = k
      · have hb : (g == k) = true := beq_iff_eq.mpr h
        simp only [List.lookup, hb, if_neg (fun e : g = f => hk (h.symm.trans e))]
      · have hb : (g == k) = false := beq_eq_false_iff_ne.mpr h
        simp only [List.lookup, hb]
        exact ih
theorem keys_putF (f : Str) (v : V) : ∀ fs : List (Str × V), f ∈ (putF f v fs).map (·.1) ∧ ∀ g, g ∈ fs.map (·.1) → g ∈ (putF f v fs).map (·.1)
  | [] => ⟨by simp [putF], fun g h => by simp at h⟩
  | (k, x) :: r => by
    obtain ⟨i1, i2⟩ := keys_putF f v r
    rw [show putF f v ((k, x) :: r) = (if k = f then (k, v) :: r else (k, x) :: putF f v r) from rfl]
    by_cases hk : k = f
    · rw [if_pos hk]
      subst hk
      exact ⟨by simp, fun g h => by simpa using h⟩
    · rw [if_neg hk]
      refine ⟨?_, fun g h => ?_⟩
      · rw [List.map_cons]
        exact List.mem_cons_of_mem _ i1
      · rw [List.map_cons] at h ⊢
        rcases List.mem_cons.mp h with e | e
        · exact List.mem_cons.mpr (.inl e)
        · exact List.mem_cons_of_mem _ (i2 g e)
theorem length_putF (f : Str) (v : V) : ∀ fs : List (Str × V), (putF f v fs).length ≤ fs.length + 1
  | [] => by simp [putF]
  | (k, x) :: r => by
    have ih := length_putF f v r
    rw [show putF f v ((k, x) :: r) = (if k = f then (k, v) :: r else (k, x) :: putF f v r) from rfl]
    by_cases hk : k = f
    · rw [if_pos hk, List.length_cons, List.length_cons]; omega
    · rw [if_neg hk, List.length_cons, List.length_cons]; omega
theorem RelO.some_of {v : V} {o : Option Value} (r : RelO (some v) o) : ∃ u, o = some u ∧ RelV v u := by
  cases o with
  | none => exact (show False from r).elim
  | some u => exact ⟨u, rfl, r⟩
theorem RelO.none_of {o : Option Value} (r : RelO none o) : o = none := by
  cases o with
  | none => rfl
  | some u => exact (show False from r).elim
theorem handed_of {v : V} {u : Value} (r : RelV v u) : PySem.W.handedIn u = true := by
  cases v with
  | non => cases (show u = Value.none from r); rfl
  | bl b => cases (show u = Value.bool b from r); rfl
  | int i => obtain ⟨t, e⟩ := (show ∃ t, u = Value.int i t from r); cases e; rfl
  | str x => obtain ⟨t, e⟩ := (show ∃ t, u = Value.str x t from r); cases e; rfl
  | byt b => obtain ⟨t, e⟩ := (show ∃ t, u = Value.bytes b t from r); cases e; rfl
  | flt b => obtain ⟨t, e⟩ := (show ∃ t, u = Value.float b t from r); cases e; rfl
  | ref a => cases (show u = Value.ref a from r); rfl
  | ty n => cases (show u = Value.type n from r); rfl
section
variable {P : Program} {w : World} {H H' : Hp} {h h' : Heap} {a C dx : Addr} {fs fs' : List (Str × V)}
theorem ins_get (hok : HOk P w H h) (e : H a = some (.ins C dx fs)) : ∃ mA, ObjM h a dx C mA ∧ (∀ f, RelO (fs.lookup f) (mA f)) ∧ PySem.Within mA (fs.map (·.1)) ∧ fs.length ≤ 1000 ∧ H dx = some (.own a) := by
  obtain ⟨d, z, ne, ob, mA, n, r, q⟩ := (show ObjOk P w H h a (.ins C dx fs) from hok a _ e)
  exact ⟨mA, ⟨ob, n, ne⟩, r, q, z, d⟩
end
structure Cls (K : PySem.W.Frag) (C : Addr) : Prop where
  pg : PySem.W.plainGet K C Str.empty = true
  hd : PySem.W.hasDictIn K C = true
  po : PySem.W.plainOver K C = true
  sa : PySem.W.findIn K (.ref C) "__setattr__" = some (some (.builtin "object.__setattr__"))
theorem Cls.get {K : PySem.W.Frag} {C : Addr} (c : Cls K C) (f : Str) : PySem.W.plainGet K C f = true := c.pg
/-- no class of it has the name -/
def NoAttr (K : PySem.W.Frag) (C : Addr) (f : Str) : Prop := PySem.W.findIn K (.ref C) f = some none
theorem NoAttr.taker {K : PySem.W.Frag} {C : Addr} {f : Str} (n : NoAttr K C f) : PySem.W.takerIn K C f = some none := by
  unfold PySem.W.takerIn
  rw [show PySem.W.findIn K (.ref C) f = some none from n]
  rfl
/-- a method: a plain def of the class or of one above it -/
structure Meth (K : PySem.W.Frag) (C : Addr) (m : Str) (f : Addr) : Prop where
  at_ : PySem.W.findIn K (.ref C) m = some (some (.ref f))
  fn : PySem.W.isFn K (.ref f) = true
  kp : PySem.W.keepIn K (.ref f) = true
section
variable {X : Cx} {pins : List (Addr × Obj)} {σ : St} {H : Hp} {s : Shared} {a C dx : Addr} {fs : List (Str × V)} {f : Str} {v : V} {A : Around} {E : Value → Shared → Prop}
theorem getattr_ok {b : Bool} {Q : Value → Shared → Prop} (I : Inv X pins σ H s) (e : H a = some (.ins C dx fs)) (c : Cls X.K C) (n : NoAttr X.K C f) (l : fs.lookup f = some v)
    (h : ∀ u s', Inv X pins σ H s' → RelV v u → Q u s') : wpAny (model X.prog X.w) A (getAttr (.ref a) f b) Q E s := by
  obtain ⟨mA, O, r, _, _, _⟩ := ins_get I.hok e
  obtain ⟨u, hu, ru⟩ := RelO.some_of (v := v) (o := mA f) (by rw [← l]; exact r f)
  exact get_map I.kIn O (c.get f) c.hd n hu (handed_of ru) (h u _ (I.tok _) ru)
theorem getmeth_ok {m : Str} {g : Addr} {pl : Sem Bool} {Q : Value × List Value → Shared → Prop} (I : Inv X pins σ H s) (e : H a = some (.ins C dx fs)) (c : Cls X.K C) (k : Meth X.K C m g) (l : fs.lookup m = none)
    (h : Q (.ref g, [.ref a]) s) : wpAny (model X.prog X.w) A (getMethod (.ref a) m pl) Q E s := by
  obtain ⟨mA, O, r, _, _, _⟩ := ins_get I.hok e
  have hn : mA m = none := RelO.none_of (by rw [← l]; exact r m)
  exact get_meth I.kIn O (c.get m) k.at_ k.fn hn h
theorem setattr_ok {y : V} {u : Value} {Q : Unit → Shared → Prop} (I : Inv X pins σ H s) (e : H a = some (.ins C dx fs)) (c : Cls X.K C) (n : NoAttr X.K C f) (hl : fs.length < 1000) (ry : RelV y u)
    (h : ∀ s', Inv X pins σ (upd H a (.ins C dx (putF f y fs))) s' → Q () s') : wpAny (model X.prog X.w) A (setAttr (.ref a) f u) Q E s := by
  obtain ⟨mA, O, r, wi, _, ho⟩ := ins_get I.hok e
  have hz : (fs.map (·.1)).length ≤ sizeLine := by rw [List.length_map, sizeLine_eq]; omega
  refine set_map I.kIn O c.sa c.po n.taker c.hd wi hz fun h' O' sb => h _ ?_
  have hd : ∃ o, h'.get? dx = some o := let ⟨o, _, _, e', _⟩ := O'.ns; ⟨o, e'⟩
  refine I.write (x := a) (e := dx) (by rw [e]; exact True.intro) (.inr ho) (fun b q hb z => (sb.2 b hb).trans z) hd ?_
  refine ⟨by rw [upd_ne O.ne]; exact ho, ?_, O.ne, O'.obj, _, O'.ns, fun g => ?_, fun g hg => ?_⟩
  · have := length_putF f y fs; omega
  · show RelO ((putF f y fs).lookup g) (if g = f then some u else mA g)
    rw [lookup_putF]
    by_cases q : g = f
    · rw [if_pos q, if_pos q]; exact ry
    · rw [if_neg q, if_neg q]; exact r g
  · by_cases q : g = f
    · rw [q]; exact (keys_putF f y fs).1
    · refine (keys_putF f y fs).2 g (wi g fun z => hg ?_)
      show (if g = f then some u else mA g) = none
      rw [if_neg q]; exact z
/-- a new instance, tracked, without attributes -/
theorem Inv.made (I : Inv X pins σ H s) : Inv X pins σ (upd (upd H s.heap.objs.size (.own (s.heap.objs.size + 1))) (s.heap.objs.size + 1) (.ins C s.heap.objs.size []))
    { s with heap := (s.heap.push PySem.W.emptyDict).push (PySem.W.instObj C s.heap.objs.size) } := by
  have e1 : (s.heap.push PySem.W.emptyDict).get? s.heap.objs.size = some PySem.W.emptyDict := Heap.get?_push_size s.heap rfl
  have e2 : ((s.heap.push PySem.W.emptyDict).push (PySem.W.instObj C s.heap.objs.size)).get? (s.heap.objs.size + 1) = some (PySem.W.instObj C s.heap.objs.size) := by
    have := Heap.get?_push_size (s.heap.push PySem.W.emptyDict) (o := PySem.W.instObj C s.heap.objs.size) rfl
    rwa [Heap.size_push] at this
  have e3 : (s.heap.push PySem.W.emptyDict).Ns s.heap.objs.size (fun _ => none) := ⟨PySem.W.emptyDict, #[], _, e1, rfl, (fun e he => absurd he (by simp)), fun _ => rfl⟩
  have I1 := I.laid (a := s.heap.objs.size) (o := .own (s.heap.objs.size + 1)) (h' := s.heap.push PySem.W.emptyDict) (t' := s.toks) (fun b u q => Heap.get?_push_of_some _ q) (Nat.le_refl _) ⟨_, e1⟩
  refine I1.laid (a := s.heap.objs.size + 1) (o := .ins C s.heap.objs.size []) (t' := s.toks) (fun b u q => Heap.get?_push_of_some _ q) (Nat.le_of_eq (Heap.size_push _ _)) ?_
  have ne : s.heap.objs.size ≠ s.heap.objs.size + 1 := Nat.ne_of_lt (Nat.lt_succ_self _)
  refine ⟨by rw [upd_ne ne, upd_same], Nat.zero_le _, ne, e2, fun _ => none, (Heap.Ns1.of_empty e3).at fun o q => Heap.get?_push_of_some _ q, fun _ => True.intro, fun y hy => absurd rfl hy⟩
/-- e.f where nothing but the object is asked: through attributeBase (super) and the last hold -/
theorem attr_of {prog : Program} {w : World} {env : Env} {e : Expr} {f : Str} {pos : Pos} {s : Shared} {Q : Value → Shared → Prop} (hb : attributeBase e f env (eval e env) = eval e env)
    (h : wpAny (model prog w) A (eval e env) (fun o s₁ => wpAny (model prog w) A (getAttr o f true) Q E s₁) E s) : wpAny (model prog w) A (eval (.Attribute e f pos) env) Q E s :=
  Attribute_any_ h (by rw [arm_eval_Attribute, hb])
end
/-- e.f, an attribute of the instance -/
def tFld (K : PySem.W.Frag) (ta : TE) (f : Str) : TE := fun σ H Q => ta σ H fun x H1 => ∃ a C dx fs v, x = .ref a ∧ H1 a = some (.ins C dx fs) ∧ Cls K C ∧ NoAttr K C f ∧ fs.lookup f = some v ∧ Q v H1
/-- e.f = value -/
def sFld (K : PySem.W.Frag) (ta tv : TE) (f : Str) : TS := fun D σ H => tv σ H fun y H1 => ta σ H1 fun x H2 => ∃ a C dx fs, x = .ref a ∧ H2 a = some (.ins C dx fs) ∧ Cls K C ∧ NoAttr K C f ∧ fs.length < 1000 ∧
  D.nx σ (upd H2 a (.ins C dx (putF f y fs)))
section
variable {X : Cx} {o e value : Expr} {f : Str} {pos pos' tpos : Pos} {ta tv : TE}
theorem pe_fld (he : PE X e ta) (hb : attributeBase e f X.env (eval e X.env) = eval e X.env) : PE X (.Attribute e f pos) (tFld X.K ta f) := by
  intro pins s σ H Q I h
  refine attr_of hb (thn (he pins s σ H _ I h) fun u s1 ⟨x, H1, I1, rx, a, C, dx, fs, v, ex, ea, c, n, l, q⟩ => ?_)
  subst ex
  obtain rfl : u = Value.ref a := rx
  exact getattr_ok I1 ea c n l fun u' s2 I2 ru => ⟨v, H1, I2, ru, q⟩
theorem ps_fld (ha : PE X o ta) (hv : PE X value tv) (hs : swapsWith value (some (.Attribute o f pos')) pos.line X.env = pure false) : PS X (.Assign [.Attribute o f pos'] value pos) (sFld X.K ta tv f) := by
  intro pins s σ H D I h
  refine plainObj_wpAny_Assign_Attribute (thn (hv pins s σ H _ I h) fun u s1 ⟨y, H1, I1, ry, q⟩ => thn (ha pins s1 σ H1 _ I1 q) fun ov s2 ⟨x, H2, I2, rx, a, C, dx, fs, ex, ea, c, n, l, q2⟩ => ?_) hs
  subst ex
  obtain rfl : ov = Value.ref a := rx
  exact setattr_ok I2 ea c n l ry fun s3 I3 => ⟨σ, _, I3, q2⟩
end
section
variable {X : Cx} {pins : List (Addr × Obj)} {σ : St} {H : Hp} {s : Shared} {A : Around} {E : Value → Shared → Prop} {Q : Value → Shared → Prop} {c : Value} {b : Bool}
end
end L2
namespace L2
open PySem PySem.Spec PyProof.Rows
structure Room (k : Nat) (A : Around) : Prop where
  hd : A.handled = none
  dp : A.depth + 3 * k + 5 < recursionLimit
  un : A.units + 16 * k + 200 < cLine
theorem Room.mono {j k : Nat} {A : Around} (r : Room k A) (h : j ≤ k) : Room j A := ⟨r.hd, by have := r.dp; omega, by have := r.un; omega⟩
theorem Room.deeper {k : Nat} {A : Around} (r : Room (k + 1) A) (env : Env) : Room k (A.deeper env) :=
  ⟨r.hd, by have := r.dp; show A.depth + 1 + 3 * k + 5 < _; omega, by have := r.un; show A.units + 3 + 16 * k + 200 < _; omega⟩
theorem make_depth {A : Around} {C : Addr} {us : List Value} {kw : List (Str × Value)} : (A.under (.builtin "type.__call__" ⟨.ref C :: us, kw⟩)).depth = A.depth + 1 := by
  first | rfl | simp [Around.under, Code.weight, Code.isCreation, Code.isGuard, Code.isCaller, Code.frames, Code.isFrame, guardIds]
theorem make_units {A : Around} {C : Addr} {us : List Value} {kw : List (Str × Value)} : (A.under (.builtin "type.__call__" ⟨.ref C :: us, kw⟩)).units = A.units + 1 := by
  first | rfl | simp [Around.under, Code.cUnits, Code.frames, Code.isFrame]
theorem Room.make {k : Nat} {A : Around} (r : Room (k + 1) A) (C : Addr) (us : List Value) (kw : List (Str × Value)) : Room k (A.under (.builtin "type.__call__" ⟨.ref C :: us, kw⟩)) :=
  ⟨r.hd, by have := r.dp; rw [make_depth]; omega, by have := r.un; rw [make_units]; omega⟩
theorem Room.depth {k : Nat} {A : Around} (r : Room k A) : A.depth < recursionLimit := by have := r.dp; omega
theorem Room.units {k : Nat} {A : Around} (r : Room k A) : A.units + 64 < cLine := by have := r.un; omega
def tNil : TA := fun _ H Q => Q [] H
def tCons (ta : TE) (tr : TA) : TA := fun σ H Q => ta σ H fun x H1 => tr σ H1 fun xs H2 => Q (x :: xs) H2
section
variable {X : Cx} {e : Expr} {es : List Expr} {te : TE} {t : TA} {pos : Pos}
theorem pa_nil : PA X [] tNil := fun _ _ _ _ H Q I h => Calls.spliced_nil ⟨[], H, I, .nil, h⟩
theorem pa_cons (ha : PE X e te) (hr : PA X es t) (hs : starEach (e :: es) X.env = (false, eval e X.env) :: starEach es X.env := by rfl) : PA X (e :: es) (tCons te t) := by
  intro pos pins s σ H Q I h
  rw [hs]
  show wpAny _ _ (spliced ((false, eval e X.env) :: backTo pos (starEach es X.env))) _ _ s
  refine Calls.spliced_cons (thn (ha pins s σ H _ I h) fun u s1 ⟨x, H1, I1, r1, q1⟩ => ?_)
  exact thn (hr pos pins s1 σ H1 _ I1 q1) fun us s2 ⟨xs, H2, I2, r2, q2⟩ => ⟨x :: xs, H2, I2, .cons r1 r2, q2⟩
/-- a tuple, a list of written items -/
def tTup (t : TA) : TE := fun σ H Q => t σ H fun xs H1 => xs.length ≤ sizeLine ∧ ∀ p, H1 p = none → Q (.ref p) (upd H1 p (.tup xs))
def tLst (t : TA) : TE := fun σ H Q => t σ H fun xs H1 => xs.length ≤ sizeLine ∧ ∀ p, H1 p = none → Q (.ref p) (upd H1 p (.lst xs))
theorem pe_tup {x1} (h : PA X es t) : PE X (.Tuple es x1 pos) (tTup t) := by
  intro pins s σ H Q I hq
  refine wpAny_Tuple_spliced (thn (h pos pins s σ H _ I hq) fun us s1 ⟨xs, H1, I1, r, z, q⟩ => ⟨by rw [← r.length]; exact z, ?_⟩)
  have hf : H1 s1.heap.objs.size = none := I1.hok.fresh (Nat.le_refl _)
  refine ⟨.ref s1.heap.objs.size, upd H1 s1.heap.objs.size (.tup xs), I1.laid (t' := s1.toks) (fun b u e => Heap.get?_push_of_some _ e) (Nat.le_refl _) ?_, rfl, q _ hf⟩
  exact ⟨z, us, r, ⟨_, Heap.get?_push_size _ rfl, rfl, _, rfl⟩⟩
theorem pe_lst (h : PA X es t) : PE X (.List es pos) (tLst t) := by
  intro pins s σ H Q I hq
  refine wpAny_List_spliced (thn (h pos pins s σ H _ I hq) fun us s1 ⟨xs, H1, I1, r, z, q⟩ => ⟨by rw [← r.length]; exact z, ?_⟩)
  have hf : H1 s1.heap.objs.size = none := I1.hok.fresh (Nat.le_refl _)
  refine ⟨.ref s1.heap.objs.size, upd H1 s1.heap.objs.size (.lst xs), I1.laid (t' := s1.toks) (fun b u e => Heap.get?_push_of_some _ e) (Nat.le_refl _) ?_, rfl, q _ hf⟩
  exact ⟨z, us, 0, r, Heap.get?_push_size _ rfl⟩
end
/-- a def's promise: the bound arguments in the parameters' order, the heap, the wanted end, the wanted exception -/
abbrev Sp := List V → Hp → VK → XK → Prop
/-- how an exception lies behind a call (file 08 gives it): the callers' frames, abstract heap and state ahead of the call, the wish, the exception, the state -/
abbrev CXT := List Env → Hp → Shared → XK → Value → Shared → Prop
/-- the state at a call -/
structure Env0 (P : Program) (w : World) (K : PySem.W.Frag) (mg : Str → Option Value) (base : Heap) (A : Around) (outer : List Env) (s : Shared) (H : Hp) : Prop where
  frames : A.frames = some outer
  mod : Mod K mg base
  bs : ∀ b o, base.get? b = some o → s.heap.get? b = some o ∧ H b = none
  bsz : base.objs.size ≤ s.heap.objs.size
  funs : s.heap.FunFrames base outer
  frf : ∀ b ∈ frs outer, H b = none
  hok : HOk P w H s.heap
  bare : AllBare s.gens
/-- a call's end -/
def CE (outer : List Env) (P : Program) (w : World) (H : Hp) (s : Shared) (Q : VK) (u : Value) (s' : Shared) : Prop :=
  ∃ v H', s'.os = s.os ∧ AllBare s'.gens ∧ Un (frs outer) [] H H' s.heap s'.heap ∧ HOk P w H' s'.heap ∧ RelV v u ∧ Q v H'
def CR (CX : CXT) (outer : List Env) (P : Program) (w : World) (H : Hp) (s : Shared) (Q : VK) (E : XK) (r : Result) (s' : Shared) : Prop :=
  match r with
  | .ok (.ret u) => CE outer P w H s Q u s'
  | .ok _ => False
  | .error e => CX outer H s E e s'
structure FnOk (P : Program) (w : World) (K : PySem.W.Frag) (mg : Str → Option Value) (base : Heap) (CX : CXT) (k : Nat) (f : Addr) (fd : FuncData) (ps : List Str) (sp : Sp) : Prop where
  len : ∀ vs H Q E, sp vs H Q E → vs.length = ps.length
  run : ∀ (A : Around) (outer : List Env) (s : Shared) (H : Hp) (args : Args) (us : List Value) (vs : List V) (Q : VK) (E : XK), Room k A → Env0 P w K mg base A outer s H → BindsTo s fd args (ps.zip us) → Vals vs us → sp vs H Q E →
    codeAny (model P w) A (.call (.ref f) args) (CR CX outer P w H s Q E) s
theorem FnOk.mono {P : Program} {w : World} {K : PySem.W.Frag} {mg : Str → Option Value} {base : Heap} {CX : CXT} {j k : Nat} {f : Addr} {fd : FuncData} {ps : List Str} {sp : Sp} (F : FnOk P w K mg base CX j f fd ps sp) (h : j ≤ k) :
    FnOk P w K mg base CX k f fd ps sp := ⟨F.len, fun A outer s H args us vs Q E hr => F.run A outer s H args us vs Q E (hr.mono h)⟩
/-- a weaker promise -/
theorem FnOk.imp {P : Program} {w : World} {K : PySem.W.Frag} {mg : Str → Option Value} {base : Heap} {CX : CXT} {k : Nat} {f : Addr} {fd : FuncData} {ps : List Str} {sp sp' : Sp} (F : FnOk P w K mg base CX k f fd ps sp)
    (h : ∀ vs H Q E, sp' vs H Q E → sp vs H Q E) : FnOk P w K mg base CX k f fd ps sp' :=
  ⟨fun vs H Q E q => F.len vs H Q E (h _ _ _ _ q), fun A outer s H args us vs Q E hr he hb hv hs => F.run A outer s H args us vs Q E hr he hb hv (h _ _ _ _ hs)⟩
theorem Env0.make {P : Program} {w : World} {K : PySem.W.Frag} {mg : Str → Option Value} {base : Heap} {A : Around} {outer : List Env} {s : Shared} {H : Hp} (e : Env0 P w K mg base A outer s H) (C : Addr) (us : List Value) (kw : List (Str × Value)) :
    Env0 P w K mg base (A.under (.builtin "type.__call__" ⟨.ref C :: us, kw⟩)) outer s H := ⟨by first | exact e.frames | (simpa [Around.under, Code.envs, Code.isFrame, pushEnvs] using e.frames), e.mod, e.bs, e.bsz, e.funs, e.frf, e.hok, e.bare⟩
section
variable {X : Cx} {pins : List (Addr × Obj)} {σ : St} {H : Hp} {s s' : Shared}
/-- from a body: what a callee wants -/
theorem Inv.env0 (I : Inv X pins σ H s) : Env0 X.prog X.w X.K X.mg X.base X.A X.stack s H :=
  ⟨I.ok.frames, I.ok.mod, I.bs, Nat.le_trans I.ok.bsz I.sz, I.stack, I.stkFree, I.hok, I.bare⟩
/-- behind a call -/
theorem Inv.after {Q : VK} {u : Value} (I : Inv X pins σ H s) (h : CE X.stack X.prog X.w H s Q u s') : EP X pins σ Q u s' := by
  obtain ⟨v, H', os, bare, un, hok, r, q⟩ := h
  obtain ⟨hh, g, d, t, os'⟩ := s'
  obtain rfl : os' = s.os := os
  exact ⟨v, H', I.call (h' := hh) (g' := g) (d' := d) (t' := t) (ch := []) un hok bare (fun b z => absurd z (by simp)), r, q⟩
end
/-- f(..): the written arguments, then the defaults dvs; E: what is wanted of an exception -/
def tCall (sp : Sp) (dvs : List V) (E : XK) (t : TA) : TE := fun σ H Q => t σ H fun vs H1 => sp (vs ++ dvs) H1 Q E
/-- o.m(..) of an instance of the class at C -/
def tMeth (C : Addr) (m : Str) (sp : Sp) (dvs : List V) (E : XK) (ta : TE) (t : TA) : TE := fun σ H Q => ta σ H fun x H1 => ∃ a dx fs, x = .ref a ∧ H1 a = some (.ins C dx fs) ∧ fs.lookup m = none ∧
  t σ H1 fun vs H2 => sp (x :: (vs ++ dvs)) H2 Q E
/-- C(..): a new instance and its dict, then __init__ -/
def tMake (C : Addr) (sp : Sp) (dvs : List V) (E : XK) (t : TA) : TE := fun σ H Q => t σ H fun vs H1 => ∀ x dx, H1 x = none → H1 dx = none → dx ≠ x →
  sp (.ref x :: (vs ++ dvs)) (upd (upd H1 dx (.own x)) x (.ins C dx [])) (fun v H2 => v = .non ∧ Q (.ref x) H2) E
/-- how the parameters are bound: us the positional arguments, kw the keywords' values by name, ds the defaults that fill up -/
def Binds (K : PySem.W.Frag) (fd : FuncData) (ps : List Str) (ds : List Value) : Prop :=
  ∀ (s : Shared) (us : List Value), K.In s.heap → (us ++ ds).length = ps.length → BindsTo s fd ⟨us, []⟩ (ps.zip (us ++ ds))
/-- every parameter is given -/
theorem Binds.all {K : PySem.W.Frag} {fd : FuncData} {ps : List Str} (h : ∀ us : List Value, us.length = ps.length → bindArgs fd ⟨us, []⟩ = pure (ps.zip us)) : Binds K fd ps [] := fun s us _ hl => by
  rw [List.append_nil] at hl ⊢
  exact .of_eq (h us hl)
/-- an exception of a callee reaches what this body wants of exceptions -/
def Passes (CX : CXT) (X : Cx) (E : XK) : Prop := ∀ (pins : List (Addr × Obj)) (σ : St) (H : Hp) (s : Shared) (e : Value) (s' : Shared), Inv X pins σ H s → CX X.stack H s E e s' → X.xe e s'
section
variable {X : Cx} {CX : CXT} {k : Nat} {f C : Addr} {fd : FuncData} {ps : List Str} {sp : Sp} {dvs : List V} {ds : List Value} {E : XK} {x m : Str} {p pos apos : Pos} {e o : Expr} {es : List Expr} {ta : TE} {t : TA}
/-- the callee runs -/
theorem run_fn {pins : List (Addr × Obj)} {σ : St} {H : Hp} {s : Shared} {Q : VK} {us : List Value} {vs : List V} (F : FnOk X.prog X.w X.K X.mg X.base CX k f fd ps sp) (hr : Room k X.A) (hb : Binds X.K fd ps ds) (hd : Vals dvs ds) (hx : Passes CX X E)
    (I : Inv X pins σ H s) (r : Vals vs us) (h : sp (vs ++ dvs) H Q E) : wpAny (model X.prog X.w) X.A (call (.ref f) us) (EP X pins σ Q) X.xe s := by
  have r2 : Vals (vs ++ dvs) (us ++ ds) := r.append hd
  have hl : (us ++ ds).length = ps.length := by rw [← r2.length]; exact F.len _ _ _ _ h
  refine wpAny_call (codeAny_mono (F.run X.A X.stack s H ⟨us, []⟩ (us ++ ds) (vs ++ dvs) Q E hr I.env0 (hb s us I.kIn hl) r2 h) fun r s' hq => ?_)
  cases r with
  | error e => exact hx pins σ H s e s' I hq
  | ok fl =>
    cases fl with
    | ret u => exact I.after hq
    | next => exact False.elim hq
    | brk => exact False.elim hq
    | cont => exact False.elim hq
theorem pe_call (F : FnOk X.prog X.w X.K X.mg X.base CX k f fd ps sp) (hr : Room k X.A) (hg : Gl X x) (hm : X.mg x = some (.ref f)) (hk : PySem.W.keepIn X.K (.ref f) = true) (hb : Binds X.K fd ps ds) (hd : Vals dvs ds) (hx : Passes CX X E)
    (ha : PA X (e :: es) t) (hdb : (x == ("__debug__" : Str)) = false := by decide) (he : starEach (e :: es) X.env = (false, eval e X.env) :: starEach es X.env := by rfl) (hpl : (backTo pos (starEach es X.env)).any (·.1) = false := by rfl) :
    PE X (.Call (.Name x p) (e :: es) [] pos) (tCall sp dvs E t) := by
  intro pins s σ H Q I h
  refine wpAny_Call_Name_kw (ld_glob I hg hm ?_ hdb)
  refine PySem.W.callWith_K (h₀ := X.base) I.ok.mod.kin hk (thn (ha pos pins s σ H _ I h) fun us s1 ⟨vs, H1, I1, r, q⟩ => ⟨I1.kIn, ?_⟩) he hpl
  exact run_fn F hr hb hd hx I1 r q
/-- o.m(e, ..) -/
theorem pe_meth {pl : Sem Bool} (he : PE X o ta) (c : Cls X.K C) (hm : Meth X.K C m f) (F : FnOk X.prog X.w X.K X.mg X.base CX k f fd ps sp) (hr : Room k X.A) (hb : Binds X.K fd ps ds) (hd : Vals dvs ds) (hx : Passes CX X E) (ha : PA X (e :: es) t)
    (hst : starEach (e :: es) X.env = (false, eval e X.env) :: starEach es X.env := by rfl) (hpl : (backTo pos (starEach es X.env)).any (·.1) = false := by rfl)
    (ht : eval (.Call (.Attribute o m apos) (e :: es) [] pos) X.env = (do
      let ov ← eval o X.env
      standAt apos.atName
      let (f, first) ← holding [ov] (getMethod ov m pl)
      callWith pos f first (backTo pos (starEach (e :: es) X.env)) (backToKw pos (keywordEach [] X.env))) := by rfl) :
    PE X (.Call (.Attribute o m apos) (e :: es) [] pos) (tMeth C m sp dvs E ta t) := by
  intro pins s σ H Q I h
  refine PySem.W.methodCall_KW (pl := pl) (thn (he pins s σ H _ I h) fun u s1 ⟨x, H1, I1, rx, a, dx, fs, ex, ea, l, q⟩ => ?_) ht
  subst ex
  obtain rfl : u = Value.ref a := rx
  refine getmeth_ok I1 ea c hm l ?_
  refine PySem.W.callWith_K (first := [.ref a]) (h₀ := X.base) I.ok.mod.kin hm.kp (thn (ha pos pins s1 σ H1 _ I1 q) fun us s2 ⟨vs, H2, I2, r, q2⟩ => ⟨I2.kIn, ?_⟩) hst hpl
  exact run_fn (us := .ref a :: us) (vs := .ref a :: vs) F hr hb hd hx I2 (.cons rfl r) q2
/-- o.m() -/
theorem pe_meth0 {pl : Sem Bool} (he : PE X o ta) (c : Cls X.K C) (hm : Meth X.K C m f) (F : FnOk X.prog X.w X.K X.mg X.base CX k f fd ps sp) (hr : Room k X.A) (hb : Binds X.K fd ps ds) (hd : Vals dvs ds) (hx : Passes CX X E)
    (ht : eval (.Call (.Attribute o m apos) [] [] pos) X.env = (do
      let ov ← eval o X.env
      standAt apos.atName
      let (f, first) ← holding [ov] (getMethod ov m pl)
      callWith pos f first (backTo pos (starEach [] X.env)) (backToKw pos (keywordEach [] X.env))) := by rfl) :
    PE X (.Call (.Attribute o m apos) [] [] pos) (tMeth C m sp dvs E ta tNil) := by
  intro pins s σ H Q I h
  refine PySem.W.methodCall_KW (pl := pl) (thn (he pins s σ H _ I h) fun u s1 ⟨x, H1, I1, rx, a, dx, fs, ex, ea, l, q⟩ => ?_) ht
  subst ex
  obtain rfl : u = Value.ref a := rx
  refine getmeth_ok I1 ea c hm l ?_
  exact PySem.W.callWith_K0 (first := [.ref a]) I1.kIn hm.kp (run_fn (us := [.ref a]) (vs := [.ref a]) F hr hb hd hx I1 (.cons rfl .nil) q)
/-- what a class must have to be made -/
structure Mk (K : PySem.W.Frag) (C f : Addr) : Prop where
  makes : PySem.W.makesIn K C = true
  init : PySem.W.findIn K (.ref C) "__init__" = some (some (.ref f))
  fn : PySem.W.isFn K (.ref f) = true
  kp : PySem.W.keepIn K (.ref C) = true
theorem run_make {pins : List (Addr × Obj)} {σ : St} {H : Hp} {s : Shared} {Q : VK} {us : List Value} {vs : List V} (M : Mk X.K C f) (F : FnOk X.prog X.w X.K X.mg X.base CX k f fd ps sp) (hr : Room (k + 1) X.A) (hb : Binds X.K fd ps ds) (hd : Vals dvs ds)
    (hx : Passes CX X E) (I : Inv X pins σ H s) (r : Vals vs us)
    (h : ∀ x dx, H x = none → H dx = none → dx ≠ x → sp (.ref x :: (vs ++ dvs)) (upd (upd H dx (.own x)) x (.ins C dx [])) (fun v H2 => v = .non ∧ Q (.ref x) H2) E) :
    wpAny (model X.prog X.w) X.A (call (.ref C) us) (EP X pins σ Q) X.xe s := by
  have hq := h (s.heap.objs.size + 1) s.heap.objs.size (I.hok.fresh (Nat.le_succ _)) (I.hok.fresh (Nat.le_refl _)) (Nat.ne_of_lt (Nat.lt_succ_self _))
  have I2 := Inv.made (C := C) I
  have r2 : Vals (V.ref (s.heap.objs.size + 1) :: (vs ++ dvs)) (Value.ref (s.heap.objs.size + 1) :: (us ++ ds)) := .cons rfl (r.append hd)
  have hl : (Value.ref (s.heap.objs.size + 1) :: us ++ ds).length = ps.length := by
    have e := r2.length
    rw [F.len _ _ _ _ hq] at e
    exact e.symm
  refine wpAny_call (make_map (f := f) I.kIn M.makes M.init (beq_iff_eq.mp M.fn) (codeAny_mono (F.run _ X.stack _ _ ⟨Value.ref (s.heap.objs.size + 1) :: us, []⟩ (Value.ref (s.heap.objs.size + 1) :: (us ++ ds)) _ _ E (hr.make C us [])
    (I2.env0.make C us []) (hb _ (Value.ref (s.heap.objs.size + 1) :: us) I2.kIn hl) r2 hq) fun r s' hq' => ?_))
  cases r with
  | error e => exact hx pins σ _ _ e s' I2 hq'
  | ok fl =>
    cases fl with
    | ret u =>
      obtain ⟨v, H', I3, rv, ev, q3⟩ := I2.after hq'
      subst ev
      exact ⟨rv, ⟨V.ref (s.heap.objs.size + 1), H', I3, rfl, q3⟩⟩
    | next => exact False.elim hq'
    | brk => exact False.elim hq'
    | cont => exact False.elim hq'
theorem pe_make (M : Mk X.K C f) (F : FnOk X.prog X.w X.K X.mg X.base CX k f fd ps sp) (hr : Room (k + 1) X.A) (hg : Gl X x) (hm : X.mg x = some (.ref C)) (hb : Binds X.K fd ps ds) (hd : Vals dvs ds) (hx : Passes CX X E)
    (ha : PA X (e :: es) t) (hdb : (x == ("__debug__" : Str)) = false := by decide) (he : starEach (e :: es) X.env = (false, eval e X.env) :: starEach es X.env := by rfl) (hpl : (backTo pos (starEach es X.env)).any (·.1) = false := by rfl) :
    PE X (.Call (.Name x p) (e :: es) [] pos) (tMake C sp dvs E t) := by
  intro pins s σ H Q I h
  refine wpAny_Call_Name_kw (ld_glob I hg hm ?_ hdb)
  refine PySem.W.callWith_K (h₀ := X.base) I.ok.mod.kin M.kp (thn (ha pos pins s σ H _ I h) fun us s1 ⟨vs, H1, I1, r, q⟩ => ⟨I1.kIn, ?_⟩) he hpl
  exact run_make M F hr hb hd hx I1 r q
theorem pe_make0 (M : Mk X.K C f) (F : FnOk X.prog X.w X.K X.mg X.base CX k f fd ps sp) (hr : Room (k + 1) X.A) (hg : Gl X x) (hm : X.mg x = some (.ref C)) (hb : Binds X.K fd ps ds) (hd : Vals dvs ds) (hx : Passes CX X E)
    (hdb : (x == ("__debug__" : Str)) = false := by decide) : PE X (.Call (.Name x p) [] [] pos) (tMake C sp dvs E tNil) := by
  intro pins s σ H Q I h
  refine wpAny_Call_Name_kw (ld_glob I hg hm ?_ hdb)
  exact PySem.W.callWith_K0 I.kIn M.kp (run_make (us := []) M F hr hb hd hx I .nil h)
end
section
variable {X : Cx} {CX : CXT} {k : Nat} {f C : Addr} {fd : FuncData} {ps ks : List Str} {sp : Sp} {E : XK} {x m : Str} {p pos apos kpos : Pos} {e o : Expr} {es : List Expr} {kws : List Keyword} {te ta : TE} {t tk : TA} {nm : Option Str}
variable {g : List Value → List Value → List Value} {gV : List V → List V → List V}
end
/-- names: the parameters first -/
structure FnScope (N P : List Str) (sc : Scope) : Prop where
  kind : sc.kind = .function
  co : sc.isCoroutine = false
  gen : sc.isGenerator = false
  nd : N.Nodup
  pre : N.take P.length = P
  par : ∀ x ∈ P, sc.names.lookup x = some .local ∨ sc.names.lookup x = some .cell
  nofree : ∀ y ∈ sc.names, y.2 ≠ .free
theorem bindL_out {kindOf : Str → Option NameKind} {x : Str} : ∀ {binds : List (Str × Value)} {m : Str → Option Value}, (∀ v, (x, v) ∉ binds) → bindL kindOf binds m x = m x
  | [], _, _ => rfl
  | (n, v) :: r, m, h => by
    unfold bindL
    rw [bindL_out fun w hw => h w (List.mem_cons_of_mem _ hw)]
    split
    · have : x ≠ n := by rintro rfl; exact h v List.mem_cons_self
      simp [this]
    · rfl
theorem bindC_out {kindOf : Str → Option NameKind} {x : Str} : ∀ {binds : List (Str × Value)} {m : Str → Option Value}, (∀ v, (x, v) ∉ binds) → bindC kindOf binds m x = m x
  | [], _, _ => rfl
  | (n, v) :: r, m, h => by
    unfold bindC
    rw [bindC_out fun w hw => h w (List.mem_cons_of_mem _ hw)]
    split
    · rfl
    · have : x ≠ n := by rintro rfl; exact h v List.mem_cons_self
      simp [this]
theorem bindL_get {kindOf : Str → Option NameKind} {x : Str} {v : Value} : ∀ {P : List Str} {vs : List Value} {i : Nat} {m : Str → Option Value}, P.Nodup → P[i]? = some x → vs[i]? = some v → kindOf x = some .local →
    bindL kindOf (P.zip vs) m x = some v
  | [], _, _, _, _, h, _, _ => by simp at h
  | _ :: _, [], _, _, _, _, h, _ => by simp at h
  | p :: P, w :: vs, 0, m, nd, h1, h2, hk => by
    simp at h1 h2; subst h1; subst h2
    show bindL kindOf ((p, w) :: P.zip vs) m p = _
    unfold bindL
    rw [bindL_out fun v hv => (List.nodup_cons.mp nd).1 (List.of_mem_zip hv).1, if_pos hk]
    simp
  | p :: P, w :: vs, i + 1, m, nd, h1, h2, hk => by
    show bindL kindOf ((p, w) :: P.zip vs) m x = _
    unfold bindL
    exact bindL_get (i := i) (List.nodup_cons.mp nd).2 (by simpa using h1) (by simpa using h2) hk
theorem bindC_get {kindOf : Str → Option NameKind} {x : Str} {v : Value} : ∀ {P : List Str} {vs : List Value} {i : Nat} {m : Str → Option Value}, P.Nodup → P[i]? = some x → vs[i]? = some v → kindOf x ≠ some .local →
    bindC kindOf (P.zip vs) m x = some v
  | [], _, _, _, _, h, _, _ => by simp at h
  | _ :: _, [], _, _, _, _, h, _ => by simp at h
  | p :: P, w :: vs, 0, m, nd, h1, h2, hk => by
    simp at h1 h2; subst h1; subst h2
    show bindC kindOf ((p, w) :: P.zip vs) m p = _
    unfold bindC
    rw [bindC_out fun v hv => (List.nodup_cons.mp nd).1 (List.of_mem_zip hv).1, if_neg hk]
    simp
  | p :: P, w :: vs, i + 1, m, nd, h1, h2, hk => by
    show bindC kindOf ((p, w) :: P.zip vs) m x = _
    unfold bindC
    exact bindC_get (i := i) (List.nodup_cons.mp nd).2 (by simpa using h1) (by simpa using h2) hk
/-- the names' values at the entry -/
def start (N : List Str) (vs : List V) : St := vs.map some ++ List.replicate (N.length - vs.length) none
/-- the context of a def's body, at its entry; an exception leaves the frame, then lies as CX says -/
def cxOf (CX : CXT) (P : Program) (w : World) (K : PySem.W.Frag) (mg : Str → Option Value) (base : Heap) (N : List Str) (qual : Str) (scope : Scope) (f : Addr) (cd : Value) (A : Around) (outer : List Env) (s : Shared) (H : Hp) (E : XK) : Cx where
  prog := P
  w := w
  K := K
  mg := mg
  base := base
  A := A.deeper (envOfC qual scope s.heap.objs.size f cd)
  N := N
  s_0 := s
  H_0 := H
  env := envOfC qual scope s.heap.objs.size f cd
  outer := outer
  stack := envOfC qual scope s.heap.objs.size f cd :: outer
  ex := []
  calm := true
  fn := fun _ => true
  pn := []
  xe := fun e s' => wpAny (model P w) (A.deeper (envOfC qual scope s.heap.objs.size f cd)) (leaving (envOfC qual scope s.heap.objs.size f cd) e) (fun _ s'' => CX outer H s E e s'') (fun e' s'' => CX outer H s E e' s'') s'
theorem cell_has {sc : Scope} {n : Nat} {x : Str} (h : sc.names.lookup x = some .cell) : ∃ c, (cellsFrom n sc.names []).lookup x = some c := by
  have q := PySem.W.cellsFrom_some sc.names n [] (.inl h)
  exact Option.isSome_iff_exists.mp q
theorem inv_start {CX : CXT} {P : Program} {w : World} {K : PySem.W.Frag} {mg : Str → Option Value} {base : Heap} {N ps : List Str} {qual : Str} {scope : Scope} {f : Addr} {cd : Value} {A : Around} {outer : List Env} {s s1 : Shared} {H : Hp} {E : XK} {us : List Value} {vs : List V}
    (S : FnScope N ps scope) (hd : A.handled = none) (e0 : Env0 P w K mg base A outer s H) (hl : vs.length = ps.length) (r : Vals vs us)
    (x : InCallC s s.heap.objs.size (bindL (envOfC qual scope s.heap.objs.size f cd).kindOf (ps.zip us) fun _ => none) (cellsFrom (s.heap.objs.size + 1) scope.names []) (bindC (envOfC qual scope s.heap.objs.size f cd).kindOf (ps.zip us) fun _ => none) s1) :
    Inv (cxOf CX P w K mg base N qual scope f cd A outer s H E) [] (start N vs) H s1 := by
  have hpl : ps.length ≤ N.length := by have := congrArg List.length S.pre; rw [List.length_take] at this; omega
  obtain ⟨h1, tk, rfl, hk⟩ := x.done
  have noA : ∀ b : Addr, b ∉ (cxOf CX P w K mg base N qual scope f cd A outer s H E).ex := fun b z => absurd (show b ∈ ([] : List Addr) from z) (by simp)
  refine ⟨⟨e0.mod, S.kind, rfl, rfl, Nat.le_refl _, fun y z c h1 h2 => ?_, fun y hy => ?_, fun y c _ h => ?_, fun _ => hd, Around.frames_deeper e0.frames, .inr ⟨rfl, rfl⟩, fun b z => absurd z (noA b), e0.bs, e0.bsz, fun b _ _ => noA b, fun b z => absurd z (noA b), e0.funs, e0.frf⟩,
    rfl, e0.bare, Un.kept hk, ⟨_, x.toInCall.ns, fun i y v h1 h2 h3 => ?_⟩, fun y c h => ⟨_, x.cell y c h⟩, e0.hok.fresh (Nat.le_refl _), fun y c h => ?_, fun p hp => absurd (show p ∈ ([] : List (Addr × Obj)) from hp) (by simp), e0.hok.kept hk, ?_⟩
  · exact name_of_addr x.apart (PySem.mem_of_lookup h1) (PySem.mem_of_lookup h2)
  · have hy : scope.names.lookup y = some .cell ∨ scope.names.lookup y = some .free := hy
    rcases hy with hy | hy
    · exact cell_has hy
    · exact absurd rfl (S.nofree _ (PySem.mem_of_lookup hy))
  · exact Nat.le_of_lt (x.above y c (PySem.mem_of_lookup h))
  · have hi : i < vs.length := by
      unfold start at h2
      by_cases hi : i < vs.length
      · exact hi
      · rw [List.getElem?_append_right (by simpa using hi)] at h2
        rw [List.getElem?_replicate] at h2
        split at h2 <;> cases h2
    have ha : vs[i]? = some v := by
      unfold start at h2
      rw [List.getElem?_append_left (by simpa using hi), List.getElem?_map] at h2
      cases e : vs[i]? with
      | none => rw [e] at h2; cases h2
      | some a => rw [e] at h2; cases h2; rfl
    obtain ⟨u, hu, rv⟩ := r.get ha
    have hp : ps[i]? = some y := by
      rw [← S.pre, List.getElem?_take_of_lt (by omega)]; exact h1
    have ndP : ps.Nodup := by rw [← S.pre]; exact S.nd.sublist (List.take_sublist _ _)
    refine ⟨u, rv, ?_⟩
    rcases S.par y (List.mem_of_getElem? hp) with k | k
    · exact .inl ⟨k, bindL_get ndP hp hu k⟩
    · obtain ⟨c, e⟩ := cell_has (n := s.heap.objs.size + 1) k
      refine .inr ⟨.inl k, c, e, ?_⟩
      have q := x.cell y c e
      rw [bindC_get ndP hp hu (by show scope.names.lookup y ≠ _; rw [k]; decide)] at q
      exact q
  · exact e0.hok.fresh (Nat.le_of_lt (x.above y c (PySem.mem_of_lookup h)))
  · unfold start
    show _ = N.length
    rw [List.length_append, List.length_map, List.length_replicate]
    omega
/-- THE RULE: a def (or a method) of the text, by its body. The body's reading t is chosen for each entry; it is run at the parameters' values -/
theorem fn_of {CX : CXT} {P : Program} {w : World} {K : PySem.W.Frag} {mg : Str → Option Value} {base : Heap} {k : Nat} {f : Addr} {name qual : Str} {params : Arguments} {body : List Stmt} {scope : Scope} {dV kV doc pm cdv ct oc : Value} {an od : Option Addr}
    {osl : Array (Option Value)} {N ps : List Str} {sp : Sp} (lk : K.lookup f = some ⟨oc, od, .func (PySem.W.fnOf name qual params body scope dV kV doc pm an cdv ct), osl⟩) (hcd : PySem.W.codeIn K cdv qual = true) (S : FnScope N ps scope)
    (len : ∀ vs H Q E, sp vs H Q E → vs.length = ps.length)
    (hbody : ∀ (A : Around) (outer : List Env) (s : Shared) (H : Hp) (vs : List V) (Q : VK) (E : XK), Room k (A.deeper (envOfC qual scope s.heap.objs.size f cdv)) → sp vs H Q E →
      ∃ t, PSs (cxOf CX P w K mg base N qual scope f cdv A outer s H E) body t ∧ t { nx := fun _ H' => Q .non H', rt := Q } (start N vs) H) :
    FnOk P w K mg base CX (k + 1) f (PySem.W.fnOf name qual params body scope dV kV doc pm an cdv ct) ps sp := by
  refine ⟨len, fun A outer s H args us vs Q E hr e0 hb r hsp => ?_⟩
  have hl := len _ _ _ _ hsp
  have KX : K.In s.heap := e0.mod.kin.keeps fun b o e => (e0.bs b o e).1
  have lim : s.heap.NoLimit := e0.mod.nolimit.keeps fun b o e => (e0.bs b o e).1
  have hkind : ∀ y ∈ ps.zip us, scope.names.lookup y.1 = some .local ∨ (scope.names.lookup y.1 = some .cell ∧ ((cellsFrom (s.heap.objs.size + 1) scope.names []).lookup y.1).isSome = true) := fun ⟨n, v⟩ hy => by
    rcases S.par n (List.of_mem_zip hy).1 with q | q
    · exact .inl q
    · exact .inr ⟨q, PySem.W.cellsFrom_some _ _ _ (.inl q)⟩
  refine codeAny_call_function hr.depth (KX _ _ lk) rfl S.co S.gen rfl (PySem.W.codeRec_of KX hcd) (hb _ _ _ _ ?_)
  refine wpAny_newFunctionEnv_cells S.kind hkind fun env he s1 x => ?_
  subst he
  refine ⟨lim.keeps x.toInCall.keep, codeAny_func ?_⟩
  obtain ⟨t, ht, hq⟩ := hbody A outer s H vs Q E (hr.deeper _) hsp
  have I : Inv (cxOf CX P w K mg base N qual scope f cdv A outer s H E) [] (start N vs) H s1 := inv_start S hr.hd e0 hl r x
  refine wpAny_mono (ht [] s1 (start N vs) H _ I hq) (fun fl s' hs => ?_) fun e s' hs => hs
  have fin : ∀ {σ' : St} {H' : Hp} {v : V} {u : Value}, Inv (cxOf CX P w K mg base N qual scope f cdv A outer s H E) [] σ' H' s' → RelV v u → Q v H' → CE outer P w H s Q u s' :=
    fun {σ' H' v u} J rv q => ⟨v, H', J.os, J.bare, J.base, J.hok, rv, q⟩
  cases fl with
  | ret u =>
    obtain ⟨v, σ', H', J, rv, q⟩ := hs
    exact fin J rv q
  | next =>
    obtain ⟨σ', H', J, q⟩ := hs
    exact fin (v := V.non) (u := Value.none) J rfl q
  | brk =>
    obtain ⟨_, _, _, q⟩ := hs
    exact False.elim q
  | cont =>
    obtain ⟨_, _, _, q⟩ := hs
    exact False.elim q
end L2
namespace L2
open PySem PySem.Spec PyProof.Rows
section
variable {X : Cx} {x : Str} {p pos : Pos} {e : Expr} {es : List Expr} {t : TA} {id T : String} {r : List V → Hp → VK → Prop}
def tCB (r : List V → Hp → VK → Prop) (t : TA) : TE := fun σ H Q => t σ H fun vs H1 => r vs H1 Q
/-- f(e, ..), f a built-in function -/
theorem pe_callB (hc : CallR X (.builtin id) r) (hg : Gl X x) (hm : X.mg x = none) (hv : bootBuiltins x = some (.builtin id)) (ha : PA X (e :: es) t) (hn : x ≠ "__name__" := by decide) (hdb : (x == ("__debug__" : Str)) = false := by decide)
    (he : starEach (e :: es) X.env = (false, eval e X.env) :: starEach es X.env := by rfl) (hpl : (backTo pos (starEach es X.env)).any (·.1) = false := by rfl) : PE X (.Call (.Name x p) (e :: es) [] pos) (tCB r t) := by
  intro pins s σ H Q I h
  refine wpAny_Call_Name_kw (ld_blt I hg hm hv ?_ hn hdb)
  exact PyProof.Rows.callWith_builtin1 (thn (ha pos pins s σ H _ I h) fun us s1 ⟨vs, H1, I1, r1, q1⟩ => hc pins s1 σ H1 vs us Q I1 r1 q1) he hpl
end
end L2
namespace HT
open PySem PyProof.Rows
section
open PySem.SeqAt
open PySem.AutoSeq1 (wpAny_loadPart')
open PySem.MeetsSeq PySem.MeetsSeq2 PySem.MeetsSeq3
end
section
variable {prog : Program} {w : World} {A : Around} {E : Value → Shared → Prop} {s : Shared}
/-- a slice's bound as a place among n (d where it is left out) -/
def sIx (n d : Nat) : Option Int → Nat
  | none => d
  | some v => if v < 0 then (v + (n : Int)).toNat else min v.toNat n
theorem sIx_nat (n d k : Nat) : sIx n d (some (k : Int)) = min k n := by
  show (if (k : Int) < 0 then ((k : Int) + (n : Int)).toNat else min (k : Int).toNat n) = min k n
  rw [if_neg (by omega), Int.toNat_natCast]
end
end HT
namespace L2
open PySem PySem.Spec PyProof.Rows
abbrev TO := St → Hp → (Option Int → Hp → Prop) → Prop
/-- a slice's part (left out, or an int) -/
def PO (X : Cx) (e : Option Expr) (t : TO) : Prop :=
  ∀ (pins : List (Addr × Obj)) (s : Shared) (σ : St) (H : Hp) (Q : Option Int → Hp → Prop), Inv X pins σ H s → t σ H Q →
    wpAny (model X.prog X.w) X.A (evalPart e X.env) (fun u s' => ∃ o H', Inv X pins σ H' s' ∧ IsPart u o ∧ Q o H') X.xe s
def tNoPart : TO := fun _ H Q => Q none H
def tPart (t : TE) : TO := fun σ H Q => t σ H fun x H1 => ∃ i, x = .int i ∧ Q (some i) H1
section
variable {X : Cx} {e : Expr} {te : TE} {lo hi : Option Expr} {tl th : TO} {pos p2 : Pos}
theorem po_some (h : PE X e te) : PO X (some e) (tPart te) := by
  intro pins s σ H Q I hw
  rw [evalPart_some]
  refine thn (h pins s σ H _ I hw) fun u s1 ⟨x, H1, I1, r1, q1⟩ => ?_
  obtain ⟨i, rfl, q⟩ := q1
  obtain ⟨t, rfl⟩ := r1
  exact ⟨some i, H1, I1, .int i t, q⟩
/-- what a slice of a value is, by values: the slice object stands at sl -/
def SlR (X : Cx) (r : V → Option Int → Option Int → Hp → VK → Prop) : Prop :=
  ∀ (pins : List (Addr × Obj)) (s : Shared) (σ : St) (H : Hp) (x : V) (v vl vu : Value) (lo hi : Option Int) (sl : Addr) (Q : VK), Inv X pins σ H s → RelV x v → s.heap.IsSliceOf sl vl vu .none → IsPart vl lo → IsPart vu hi → r x lo hi H Q →
    ∃ T id, typeLookup (.type T) "__getitem__" = pure (some (.builtin id)) ∧ s.TypeIs v T ∧ wpAny (model X.prog X.w) X.A (getItem v (.ref sl)) (EP X pins σ Q) X.xe s
theorem SlR.or {r r' : V → Option Int → Option Int → Hp → VK → Prop} (h : SlR X r) (h' : SlR X r') : SlR X (fun x lo hi H Q => r x lo hi H Q ∨ r' x lo hi H Q) := by
  intro pins s σ H x v vl vu lo hi sl Q I rx hs pl pu q
  rcases q with q | q
  · exact h pins s σ H x v vl vu lo hi sl Q I rx hs pl pu q
  · exact h' pins s σ H x v vl vu lo hi sl Q I rx hs pl pu q
def tSl (r : V → Option Int → Option Int → Hp → VK → Prop) (te : TE) (tl th : TO) : TE := fun σ H Q => te σ H fun x H1 => tl σ H1 fun l H2 => th σ H2 fun u H3 => r x l u H3 Q
/-- a[lo:hi], any a -/
theorem pe_slice {r : V → Option Int → Option Int → Hp → VK → Prop} (hr : SlR X r) (he : PE X e te) (hl : PO X lo tl) (hu : PO X hi th) : PE X (.Subscript e (.Slice lo hi none p2) pos) (tSl r te tl th) := by
  intro pins s σ H Q I h
  refine Subscript_ (thn (he pins s σ H _ I h) fun v s1 ⟨x, H1, I1, r1, q1⟩ => ?_)
  refine wpAny_Slice (thn (hl pins s1 σ H1 _ I1 q1) fun vl s2 ⟨l, H2, I2, pl, q2⟩ => thn (hu pins s2 σ H2 _ I2 q2) fun vu s3 ⟨u, H3, I3, pu, q3⟩ => ?_)
  rw [evalPart_none]
  refine wpAny_pure ?_
  have I4 : Inv X pins σ H3 { s3 with heap := s3.heap.push { cls := .type "slice", data := .fields #[vl, vu, .none] } } := I3.kept (t' := s3.toks) fun b ob q => Heap.get?_push_of_some _ q
  obtain ⟨T, id, hT, ht, hg⟩ := hr pins { s3 with heap := s3.heap.push { cls := .type "slice", data := .fields #[vl, vu, .none] } } σ H3 x v vl vu l u s3.heap.objs.size Q I4 r1 (Heap.IsSliceOf.new ..) pl pu q3
  show wpAny (model X.prog X.w) X.A (subscriptTail e (.Slice lo hi none p2) v (.ref s3.heap.objs.size)) (EP X pins σ Q) X.xe { s3 with heap := s3.heap.push { cls := .type "slice", data := .fields #[vl, vu, .none] } }
  exact tail_any (ops := [.ref s3.heap.objs.size, v]) ht hT hg (by with_unfolding_all rfl)
/-- the items of xs[lo:hi] -/
def cutV (xs : List V) (lo hi : Option Int) : List V := (xs.drop (HT.sIx xs.length 0 lo)).take (HT.sIx xs.length xs.length hi - HT.sIx xs.length 0 lo)
theorem cutV_length (xs : List V) (lo hi : Option Int) : (cutV xs lo hi).length ≤ xs.length := by
  unfold cutV
  rw [List.length_take, List.length_drop]
  omega
end
end L2
namespace L2
open PySem PySem.Spec PyProof.Rows
/-- the place that an index of any sign means -/
def ixN (n : Nat) (i : Int) : Option Nat := if 0 ≤ i then (if i < n then some i.toNat else none) else if -(n : Int) ≤ i then some (i + n).toNat else none
def atI {α : Type} (xs : List α) (i : Int) : Option α := (ixN xs.length i).bind fun j => xs[j]?
theorem ixN_seq {n : Nat} {i : Int} {j : Nat} (h : ixN n i = some j) : seqIndex? i n = some j ∧ j < n ∧ -(n : Int) ≤ i ∧ i < n := by
  unfold ixN at h
  by_cases h0 : 0 ≤ i
  · rw [if_pos h0] at h
    by_cases h1 : i < n
    · rw [if_pos h1] at h
      have e : i.toNat = j := Option.some.inj h
      exact ⟨by rw [seqIndex_of h0 h1, e], by omega, by omega, h1⟩
    · rw [if_neg h1] at h; cases h
  · rw [if_neg h0] at h
    by_cases h1 : -(n : Int) ≤ i
    · rw [if_pos h1] at h
      have e : (i + n).toNat = j := Option.some.inj h
      exact ⟨by rw [seqIndex_neg (by omega) h1, e], by omega, h1, by omega⟩
    · rw [if_neg h1] at h; cases h
theorem atI_get {α : Type} {xs : List α} {i : Int} {v : α} (h : atI xs i = some v) : ∃ j, seqIndex? i xs.length = some j ∧ xs[j]? = some v ∧ j < xs.length ∧ -(xs.length : Int) ≤ i ∧ i < xs.length := by
  unfold atI at h
  cases e : ixN xs.length i with
  | none => rw [e] at h; cases h
  | some j =>
    rw [e] at h
    obtain ⟨h1, h2, h3, h4⟩ := ixN_seq e
    exact ⟨j, h1, h, h2, h3, h4⟩
/-- what stands as an index of a plain subscript -/
def PlainIx (b : Expr) : Prop := ∀ o i, subscripted b false o i = operate [o, i] (getItem o i)
/-- a subscript by values -/
def IxR (X : Cx) (r : R2) : Prop :=
  ∀ (value slice : Expr) (pins : List (Addr × Obj)) (s : Shared) (σ : St) (H : Hp) (x y : V) (v u : Value) (Q : VK), Inv X pins σ H s → RelV x v → RelV y u → r x y H Q →
    subscripted slice false v u = operate [v, u] (getItem v u) → wpAny (model X.prog X.w) X.A (subscriptTail value slice v u) (EP X pins σ Q) X.xe s
/-- a call of a builtin's method by values: the receiver, the arguments -/
def MtR (X : Cx) (id : String) (r : V → List V → Hp → VK → Prop) : Prop :=
  ∀ (pins : List (Addr × Obj)) (s : Shared) (σ : St) (H : Hp) (x : V) (xs : List V) (v : Value) (us : List Value) (Q : VK), Inv X pins σ H s → RelV x v → Vals xs us → r x xs H Q →
    wpAny (model X.prog X.w) X.A (call (.builtin id) (v :: us)) (EP X pins σ Q) X.xe s
section
variable {X : Cx} {a b : Expr} {ta tb : TE} {pos : Pos}
theorem IxR.or {r r' : R2} (h : IxR X r) (h' : IxR X r') : IxR X (fun x y H Q => r x y H Q ∨ r' x y H Q) := by
  intro value slice pins s σ H x y v u Q I rx ry q hs
  rcases q with q | q
  · exact h value slice pins s σ H x y v u Q I rx ry q hs
  · exact h' value slice pins s σ H x y v u Q I rx ry q hs
theorem MtR.or {id : String} {r r' : V → List V → Hp → VK → Prop} (h : MtR X id r) (h' : MtR X id r') : MtR X id (fun x xs H Q => r x xs H Q ∨ r' x xs H Q) := by
  intro pins s σ H x xs v us Q I rx rs q
  rcases q with q | q
  · exact h pins s σ H x xs v us Q I rx rs q
  · exact h' pins s σ H x xs v us Q I rx rs q
/-- a[b] -/
theorem pe_ix {r : R2} (hr : IxR X r) (ha : PE X a ta) (hb : PE X b tb) (hs : PlainIx b) : PE X (.Subscript a b pos) (tOp r ta tb) := by
  intro pins s σ H Q I h
  exact Subscript_ (binT ha hb I h fun v u s2 x y H2 I2 rx ry q => hr a b pins s2 σ H2 x y v u Q I2 rx ry q (hs _ _))
def rIxL (K : PySem.W.Frag) : R2 := fun x y H Q => ∃ p xs i v, x = .ref p ∧ y = .int i ∧ SqL K H p xs ∧ atI xs i = some v ∧ Q v H
theorem ix_list : IxR X (rIxL X.K) := by
  intro value slice pins s σ H x y v u Q I rx ry h hs
  obtain ⟨p, xs, i, z, rfl, rfl, hq, he, q⟩ := h
  cases rx
  obtain ⟨t, rfl⟩ := ry
  obtain ⟨its, r, pl, hz⟩ := I.list hq
  obtain ⟨j, h1, h2, h3, h4, h5⟩ := atI_get he
  obtain ⟨w, ew, rw'⟩ := r.get h2
  have hl := r.length
  have hn := line63
  have fin : EP X pins σ Q w s := ⟨z, H, I, rw', q⟩
  by_cases h0 : 0 ≤ i
  · have hj : i.toNat = j := by
      rw [seqIndex_of h0 h5] at h1
      exact Option.some.inj h1
    exact item_listR pl.isList h0 (by omega) (by rw [hj]; simpa using ew) fin hs
  · have hj : (i + (its.toArray.size : Int)).toNat = j := by
      rw [seqIndex_neg (by omega) h4] at h1
      rw [List.size_toArray, ← hl]
      exact Option.some.inj h1
    exact subscriptTail_builtinR (x := w) pl.isList.typeIs slot_list_getitem.lookup
      (wpAny_getItem_list_neg (Q := fun r s' => r = w ∧ EP X pins σ Q r s') pl.isList (by omega) (by rw [List.size_toArray] <;> omega) (by omega) (by rw [hj]; simpa using ew) ⟨rfl, fin⟩) hs
/-- the list's object behind a store -/
theorem mapSeq_set (its : List Value) (n j : Nat) (u : Value) : Obj.mapSeq (·.setIfInBounds j u) { cls := .type "list", data := .seq its.toArray n } = { cls := .type "list", data := .seq (its.set j u).toArray n } := by
  simp [Obj.mapSeq]
theorem Inv.lst {pins : List (Addr × Obj)} {σ : St} {H : Hp} {s : Shared} {p : Addr} {xs : List V} (I : Inv X pins σ H s) (h : H p = some (.lst xs)) :
    ∃ (its : List Value) (n : Nat), Vals xs its ∧ s.heap.get? p = some { cls := .type "list", data := .seq its.toArray n } ∧ xs.length ≤ sizeLine := by
  obtain ⟨z, its, n, r, e⟩ := I.hok p _ h
  exact ⟨its, n, r, e, z⟩
/-- the list at p is written by an update of its object -/
theorem Inv.lstUpd {pins : List (Addr × Obj)} {σ : St} {H : Hp} {s : Shared} {p : Addr} {xs ys : List V} {its its' : List Value} {n n' : Nat} {f : Obj → Obj} (I : Inv X pins σ H s) (h : H p = some (.lst xs))
    (ho : s.heap.get? p = some { cls := .type "list", data := .seq its.toArray n }) (hf : f { cls := .type "list", data := .seq its.toArray n } = { cls := .type "list", data := .seq its'.toArray n' }) (r : Vals ys its') (hz : ys.length ≤ sizeLine) (t : Nat) :
    Inv X pins σ (upd H p (.lst ys)) { s with heap := s.heap.update p f, toks := t } := by
  have e : (s.heap.update p f).get? p = some { cls := .type "list", data := .seq its'.toArray n' } := by
    rw [Heap.get?_update_self f ho (by rw [hf] <;> rfl), hf]
  refine I.write (x := p) (e := p) (by rw [h]; trivial) (.inl rfl) (fun b u hb q => (Heap.get?_update_other _ _ (Ne.symm hb)).trans q) ⟨_, e⟩ ?_
  exact ⟨hz, its', n', r, e⟩
def rSetL : V → V → V → Hp → (Hp → Prop) → Prop := fun o i v H Q => ∃ p xs k j, o = .ref p ∧ i = .int k ∧ H p = some (.lst xs) ∧ ixN xs.length k = some j ∧ Q (upd H p (.lst (xs.set j v)))
theorem set_list : PSet X rSetL := by
  intro pins s σ H o i v ov iv u Q I ro ri rv h
  obtain ⟨p, xs, k, j, rfl, rfl, hp, hj, q⟩ := h
  cases ro
  obtain ⟨t, rfl⟩ := ri
  obtain ⟨its, n, r, ho, hz⟩ := I.lst hp
  obtain ⟨h1, h2, h3, h4⟩ := ixN_seq hj
  have hl := r.length
  have hn := line63
  have I' : Inv X pins σ (upd H p (.lst (xs.set j v))) { s with heap := s.heap.update p (Obj.mapSeq (·.setIfInBounds j u)) } :=
    I.lstUpd hp ho (mapSeq_set its n j u) (r.set rv j) (by rw [List.length_set]; exact hz) s.toks
  by_cases h0 : 0 ≤ k
  · have hk : k.toNat = j := by
      rw [seqIndex_of h0 h4] at h1
      exact Option.some.inj h1
    exact PySem.W.ki_setAt ho h0 (by omega) (by rw [List.size_toArray, ← hl]; exact h4) (by rw [hk]; exact ⟨_, I', q⟩)
  · have hk : (k + (its.toArray.size : Int)).toNat = j := by
      rw [seqIndex_neg (by omega) h3] at h1
      rw [List.size_toArray, ← hl]
      exact Option.some.inj h1
    exact PySem.W.ki_setBack ho (by omega) (by rw [List.size_toArray, ← hl]; exact h3) (by omega) (by rw [hk]; exact ⟨_, I', q⟩)
theorem slice_bounds (lo hi : Option Int) (n : Nat) : (sliceBounds lo hi none n).1 = ((HT.sIx n 0 lo : Nat) : Int) ∧ (sliceBounds lo hi none n).2.1 = ((HT.sIx n n hi : Nat) : Int) ∧ (sliceBounds lo hi none n).2.2 = 1 := by
  refine ⟨?_, ?_, rfl⟩
  · cases lo with
    | none => simp [sliceBounds, HT.sIx]
    | some i =>
      simp only [sliceBounds, HT.sIx, Option.getD_none, show (1 : Int) > 0 by decide, if_true]
      by_cases h : i < 0
      · simp only [h, if_true] <;> omega
      · simp only [h, if_false] <;> omega
  · cases hi with
    | none => simp [sliceBounds, HT.sIx]
    | some i =>
      simp only [sliceBounds, HT.sIx, Option.getD_none, show (1 : Int) > 0 by decide, if_true]
      by_cases h : i < 0
      · simp only [h, if_true] <;> omega
      · simp only [h, if_false] <;> omega
theorem slicePick_cut (its : List Value) (lo hi : Option Int) : slicePick its.toArray lo hi none = ((its.drop (HT.sIx its.length 0 lo)).take (HT.sIx its.length its.length hi - HT.sIx its.length 0 lo)).toArray := by
  obtain ⟨h1, h2, h3⟩ := slice_bounds lo hi its.toArray.size
  unfold slicePick
  rw [h1, h2, h3]
  simp only [sliceRange_one, pick_run, List.size_toArray] <;> rfl
/-- xs[lo:hi] of a list: a new list -/
def rSlL (K : PySem.W.Frag) : V → Option Int → Option Int → Hp → VK → Prop := fun x lo hi H Q => ∃ a xs, x = .ref a ∧ SqL K H a xs ∧ ∀ p, H p = none → Q (.ref p) (upd H p (.lst (cutV xs lo hi)))
theorem sl_list : SlR X (rSlL X.K) := by
  intro pins s σ H x v vl vu lo hi sl Q I rx hs pl pu h
  obtain ⟨a, xs, rfl, hx, q⟩ := h
  cases rx
  obtain ⟨its, r, ht, hz⟩ := I.list hx
  have hlen := r.length
  refine ⟨"list", _, slot_list_getitem.lookup, ht.isList.typeIs, ?_⟩
  refine wpAny_getItem_list_slice ht.isList hs pl pu .none (by simp) ?_ (by rw [List.size_toArray] <;> omega)
  rw [slicePick_cut, ← hlen]
  refine ⟨.ref s.heap.objs.size, _, I.laid (t' := s.toks) (o := .lst (cutV xs lo hi)) (fun b ob q => Heap.get?_push_of_some _ q) (Nat.le_refl _) ?_, rfl, q _ (I.hok.fresh (Nat.le_refl _))⟩
  exact ⟨Nat.le_trans (cutV_length xs lo hi) hz, _, 0, (r.drop (HT.sIx xs.length 0 lo)).take (HT.sIx xs.length xs.length hi - HT.sIx xs.length 0 lo), Heap.get?_push_size _ rfl⟩
def flatV : V → Bool
  | .non => true
  | .bl _ => true
  | .int _ => true
  | .str _ => true
  | _ => false
/-- == of flat values -/
def eqV : V → V → Bool
  | .non, .non => true
  | .bl a, .bl b => a == b
  | .bl a, .int b => (if a then 1 else 0) == b
  | .int a, .bl b => a == (if b then 1 else 0)
  | .int a, .int b => a == b
  | .str a, .str b => a == b
  | _, _ => false
theorem eqAt_V {A : Around} {s : Shared} {y x : V} {u v : Value} (ry : RelV y u) (rx : RelV x v) (fy : flatV y = true) (fx : flatV x = true) : SeqAt.EqAt A s u v (eqV y x) := by
  cases y with
  | non =>
    cases ry
    cases x with
    | non => cases rx; exact SeqAt.EqAt.same _
    | bl b => cases rx; exact SeqAt.EqAt.none_bool b
    | int b => obtain ⟨t, rfl⟩ := rx; exact SeqAt.EqAt.none_int b t
    | str b => obtain ⟨t, rfl⟩ := rx; exact SeqAt.EqAt.none_str b t
    | _ => exact absurd (show false = true from fx) Bool.false_ne_true
  | bl a =>
    cases ry
    cases x with
    | non => cases rx; exact SeqAt.EqAt.bool_none a
    | bl b => cases rx; exact SeqAt.EqAt.bool_bool a b
    | int b => obtain ⟨t, rfl⟩ := rx; exact SeqAt.EqAt.bool_int a b t
    | str b => obtain ⟨t, rfl⟩ := rx; exact SeqAt.EqAt.bool_str a b t
    | _ => exact absurd (show false = true from fx) Bool.false_ne_true
  | int a =>
    obtain ⟨t', rfl⟩ := ry
    cases x with
    | non => cases rx; exact SeqAt.EqAt.int_none a t'
    | bl b => cases rx; exact SeqAt.EqAt.int_bool a t' b
    | int b => obtain ⟨t, rfl⟩ := rx; exact SeqAt.EqAt.int_int a t' b t
    | str b => obtain ⟨t, rfl⟩ := rx; exact SeqAt.EqAt.int_str a t' b t
    | _ => exact absurd (show false = true from fx) Bool.false_ne_true
  | str a =>
    obtain ⟨t', rfl⟩ := ry
    cases x with
    | non => cases rx; exact SeqAt.EqAt.str_none a t'
    | bl b => cases rx; exact SeqAt.EqAt.str_bool a t' b
    | int b => obtain ⟨t, rfl⟩ := rx; exact SeqAt.EqAt.str_int a t' b t
    | str b => obtain ⟨t, rfl⟩ := rx; exact SeqAt.EqAt.str_str a t' b t
    | _ => exact absurd (show false = true from fx) Bool.false_ne_true
  | _ => exact absurd (show false = true from fy) Bool.false_ne_true
/-- the items' answers, read off the values (a value's own answer does not lean on its token) -/
def eqU (x : V) (u : Value) : Bool := match u with
  | .none => eqV .non x
  | .bool b => eqV (.bl b) x
  | .int i _ => eqV (.int i) x
  | .str z _ => eqV (.str z) x
  | _ => false
theorem eqU_of {x y : V} {u : Value} (r : RelV y u) (f : flatV y = true) : eqU x u = eqV y x := by
  cases y with
  | non => cases r; rfl
  | bl b => cases r; rfl
  | int i => obtain ⟨t, rfl⟩ := r; rfl
  | str z => obtain ⟨t, rfl⟩ := r; rfl
  | _ => exact absurd (show false = true from f) Bool.false_ne_true
theorem any_eqU {x : V} : ∀ {xs : List V} {us : List Value}, Vals xs us → xs.all flatV = true → us.any (eqU x) = xs.any fun y => eqV y x
  | _, _, .nil, _ => rfl
  | y :: xs, u :: us, .cons r t, f => by
    rw [List.all_cons, Bool.and_eq_true] at f
    rw [List.any_cons, List.any_cons, eqU_of r f.1, any_eqU t f.2]
theorem mem_eqAt {A : Around} {s : Shared} {x : V} {v : Value} (rx : RelV x v) (fx : flatV x = true) : ∀ {xs : List V} {us : List Value}, Vals xs us → xs.all flatV = true → ∀ u ∈ us, SeqAt.EqAt A s u v (eqU x u)
  | _, _, .nil, _ => fun u hu => by cases hu
  | y :: xs, u :: us, .cons r t, f => fun u' hu => by
    rw [List.all_cons, Bool.and_eq_true] at f
    rcases List.mem_cons.mp hu with rfl | hu
    · rw [eqU_of r f.1]; exact eqAt_V r rx f.1 fx
    · exact mem_eqAt rx fx t f.2 u' hu
def inV (x : V) (xs : List V) : Bool := xs.any fun y => eqV y x
/-- x in a list or tuple of flat items -/
def rIn (K : PySem.W.Frag) (neg : Bool) : R2 := fun x y H Q => ∃ p xs, y = .ref p ∧ (SqL K H p xs ∨ SqT K H p xs) ∧ flatV x = true ∧ xs.all flatV = true ∧ Q (.bl (if neg then !inV x xs else inV x xs)) H
theorem op_in_seq : OpR X (compareOp .In) (rIn X.K false) := by
  intro pins s σ H x y v u Q I rx ry h
  obtain ⟨p, xs, rfl, hq, fx, fs, q⟩ := h
  cases ry
  rcases hq with hq | hq
  · obtain ⟨its, r, pl, hz⟩ := I.list hq
    refine SeqAt.in_listAt (eqU x) pl.isList (fun w hw => mem_eqAt rx fx r fs w (by simpa using hw)) ⟨.bl _, H, I, rfl, ?_⟩
    rw [show its.toArray.any (eqU x) = its.any (eqU x) by simp, any_eqU r fs]
    exact q
  · obtain ⟨its, r, pl, hz⟩ := I.tuple hq
    refine SeqAt.in_tupleAt (eqU x) pl (fun w hw => mem_eqAt rx fx r fs w (by simpa using hw)) ⟨.bl _, H, I, rfl, ?_⟩
    rw [show its.toArray.any (eqU x) = its.any (eqU x) by simp, any_eqU r fs]
    exact q
theorem call_len_seq : CallR X (.builtin "len") (fun xs H Q => ∃ p ys, xs = [.ref p] ∧ (SqL X.K H p ys ∨ SqT X.K H p ys) ∧ Q (.int ys.length) H) := by
  intro pins s σ H xs us Q I r h
  obtain ⟨p, ys, rfl, hq, q⟩ := h
  obtain ⟨u, rfl, rx⟩ := vals1 r
  cases rx
  have hn := line63
  rcases hq with hq | hq
  · obtain ⟨its, r', pl, hz⟩ := I.list hq
    have hlen := r'.length
    exact Calls.call_len_list pl.isList (by simp only [List.size_toArray] <;> omega) ⟨.int ys.length, H, I.tok _, ⟨s.toks + 1, by rw [List.size_toArray, hlen]⟩, q⟩
  · obtain ⟨its, r', pl, hz⟩ := I.tuple hq
    have hlen := r'.length
    exact len_tuple pl (by simp only [List.size_toArray] <;> omega) ⟨.int ys.length, H, I.tok _, ⟨s.toks + 1, by rw [List.size_toArray, hlen]⟩, q⟩
theorem CallR.or {f : Value} {r r' : List V → Hp → VK → Prop} (h : CallR X f r) (h' : CallR X f r') : CallR X f (fun xs H Q => r xs H Q ∨ r' xs H Q) := by
  intro pins s σ H xs us Q I rs q
  rcases q with q | q
  · exact h pins s σ H xs us Q I rs q
  · exact h' pins s σ H xs us Q I rs q
/-- the value is of that builtin type -/
def tyV (K : PySem.W.Frag) (T : String) (x : V) (H : Hp) : Prop := match x with
  | .str _ => T = "str"
  | .int _ => T = "int"
  | .ref p => (T = "list" ∧ ∃ xs, SqL K H p xs) ∨ (T = "tuple" ∧ ∃ o, K.lookup p = some o ∧ o.cls = .type "tuple" ∧ o.dict = none) ∨
      (T = "dict" ∧ ((∃ kvs, H p = some (.dK kvs)) ∨ ∃ kvs, H p = some (.dT kvs))) ∨ (T = "set" ∧ ∃ S n, H p = some (.set S n))
  | _ => False
theorem tyV_is {pins : List (Addr × Obj)} {σ : St} {H : Hp} {s : Shared} {T : String} {x : V} {v : Value} (I : Inv X pins σ H s) (r : RelV x v) (ty : tyV X.K T x H) :
    s.TypeIs v T ∧ ∀ a, v = .ref a → ∃ ob, s.heap.get? a = some ob ∧ ob.dict = none := by
  cases x with
  | str z =>
    obtain ⟨t, rfl⟩ := r
    cases (show T = "str" from ty)
    exact ⟨typeIs_str s z t, fun _ e => nomatch e⟩
  | int i =>
    obtain ⟨t, rfl⟩ := r
    cases (show T = "int" from ty)
    exact ⟨typeIs_int s i t, fun _ e => nomatch e⟩
  | ref p =>
    cases r
    rcases ty with ⟨rfl, xs, hq⟩ | ⟨rfl, o, hk, hc, hd⟩ | ⟨rfl, hk⟩ | ⟨rfl, S, n, hk⟩
    · obtain ⟨its, _, pl, _⟩ := I.list hq
      refine ⟨pl.isList.typeIs, fun a e => ?_⟩
      cases e
      obtain ⟨o, n, e, c, hd, _⟩ := pl
      exact ⟨o, e, hd⟩
    · refine ⟨⟨o, I.kIn p o hk, hc⟩, fun a e => ?_⟩
      cases e
      exact ⟨o, I.kIn _ o hk, hd⟩
    · have z : ∃ o, s.heap.get? p = some o ∧ o.ExactDict := by
        rcases hk with ⟨kvs, hk⟩ | ⟨kvs, hk⟩
        · obtain ⟨_, _, _, _, o, _, _, e, ex, _⟩ := I.hok p _ hk
          exact ⟨o, e, ex⟩
        · obtain ⟨_, _, _, _, o, _, _, e, ex, _⟩ := I.hok p _ hk
          exact ⟨o, e, ex⟩
      obtain ⟨o, e, ex⟩ := z
      refine ⟨⟨o, e, ex.1⟩, fun a e2 => ?_⟩
      cases e2
      exact ⟨o, e, ex.2.1⟩
    · obtain ⟨o, _, _, _, e, ex, _⟩ := I.hok p _ hk
      refine ⟨⟨o, e, ex.1⟩, fun a e2 => ?_⟩
      cases e2
      exact ⟨o, e, ex.2.1⟩
  | _ => exact False.elim ty
def tBM0 (K : PySem.W.Frag) (T : String) (r : V → List V → Hp → VK → Prop) (to : TE) : TE := fun σ H Q => to σ H fun x H1 => tyV K T x H1 ∧ r x [] H1 Q
def tBM (K : PySem.W.Frag) (T : String) (r : V → List V → Hp → VK → Prop) (to : TE) (t : TA) : TE := fun σ H Q => to σ H fun x H1 => tyV K T x H1 ∧ t σ H1 fun xs H2 => r x xs H2 Q
variable {o e : Expr} {es : List Expr} {to : TE} {t : TA} {name : Str} {apos cpos : Pos} {T id : String} {r : V → List V → Hp → VK → Prop}
theorem pe_bm (pa : PlainAttrs T) (slot : Slot T name id) (hty : typeOf (.builtin id) = pure (.type "method_descriptor")) (hm : MtR X id r) (ho : PE X o to) (ha : PA X (e :: es) t)
    (hbase : attributeBase o name X.env (eval o X.env) = eval o X.env := by rfl)
    (hfew : ((backTo cpos (starEach (e :: es) X.env)).all (fun x => !x.1) && (backToKw cpos (keywordEach [] X.env)).all (fun x => x.1.isSome)
      && decide ((e :: es).length + ([] : List Keyword).length + (if ([] : List Keyword).isEmpty then 0 else 1) < 30)) = true := by rfl)
    (hline : (apos.endLine == cpos.line) = true := by rfl) (hs : starEach (e :: es) X.env = (false, eval e X.env) :: starEach es X.env := by rfl) (hplain : (backTo cpos (starEach es X.env)).any (·.1) = false := by rfl) :
    PE X (.Call (.Attribute o name apos) (e :: es) [] cpos) (tBM X.K T r to t) := by
  intro pins s σ H Q I h
  refine wpAny_Call_method_late hbase hfew hline rfl (thn (ho pins s σ H _ I h) fun v s1 ⟨x, H1, I1, r1, ty, q1⟩ => ?_)
  obtain ⟨h1, h2⟩ := tyV_is I1 r1 ty
  refine ⟨T, id, pa, slot, hty, h1, h2, ?_⟩
  have hA := ha cpos pins s1 σ H1 _ I1 q1
  rw [hs] at hA ⊢
  refine Calls.callWith_builtin (by show (false || (backTo cpos (starEach es X.env)).any (·.1)) = false; rw [hplain] <;> rfl) (Calls.evalArgs_plain ?_)
  exact thn hA fun us s2 ⟨vs, H2, I2, r2, q2⟩ => hm pins s2 σ H2 x vs v us Q I2 r1 r2 q2
end
end L2
namespace L2
open PySem PySem.Spec PyProof.Rows
def MtM (X : Cx) (id : String) (r : V → List V → Hp → VK → Prop) : Prop :=
  ∀ (pins : List (Addr × Obj)) (s : Shared) (σ : St) (H : Hp) (x : V) (xs : List V) (v : Value) (us : List Value) (Q : VK), Inv X pins σ H s → RelV x v → Vals xs us → r x xs H Q →
    wpAny (model X.prog X.w) X.A (call (.builtin id) (v :: us)) (EP X pins σ Q) X.xe s
theorem Vals.one : ∀ {x : V} {us : List Value}, Vals [x] us → ∃ u, us = [u] ∧ RelV x u
  | _, _, .cons r .nil => ⟨_, rfl, r⟩
theorem Vals.two : ∀ {x y : V} {us : List Value}, Vals [x, y] us → ∃ u v, us = [u, v] ∧ RelV x u ∧ RelV y v
  | _, _, _, .cons r (.cons q .nil) => ⟨_, _, rfl, r, q⟩
theorem Vals.zero : ∀ {us : List Value}, Vals [] us → us = []
  | _, .nil => rfl
theorem Vals.rep {xs : List V} {us : List Value} (h : Vals xs us) : ∀ k : Nat, Vals (List.replicate k xs).flatten (List.replicate k us).flatten
  | 0 => .nil
  | k + 1 => by
    rw [List.replicate_succ, List.replicate_succ, List.flatten_cons, List.flatten_cons]
    exact Vals.append h (Vals.rep h k)
theorem foldl_rep (its : List Value) : ∀ (k : Nat) (acc : List Value),
    List.foldl (fun x1 x2 => x1 ++ x2) acc.toArray (List.replicate k its.toArray) = (acc ++ (List.replicate k its).flatten).toArray
  | 0, acc => by simp
  | k + 1, acc => by
    have e : acc.toArray ++ its.toArray = (acc ++ its).toArray := by simp
    have e2 : (acc ++ its) ++ (List.replicate k its).flatten = acc ++ (List.replicate (k + 1) its).flatten := by
      rw [List.replicate_succ, List.flatten_cons, List.append_assoc]
    rw [← e2, ← foldl_rep its k (acc ++ its), ← e, List.replicate_succ, List.foldl_cons]
section
variable {X : Cx} {pins : List (Addr × Obj)} {σ : St} {H : Hp} {s : Shared} {l b : Addr} {xs ys zs : List V}
theorem Inv.lset {its its' : List Value} {n : Nat} {f : Array Value → Array Value} {t' : Nat} (I : Inv X pins σ H s) (hH : H l = some (.lst xs))
    (e : s.heap.get? l = some { cls := .type "list", data := .seq its.toArray n }) (hf : f its.toArray = its'.toArray) (hv : Vals ys its') (hz : ys.length ≤ sizeLine) :
    Inv X pins σ (upd H l (.lst ys)) { s with heap := s.heap.update l (Obj.mapSeq f), toks := t' } := by
  have q := PySem.IsL.update e f
  rw [hf] at q
  refine I.write (x := l) (e := l) (by rw [hH]; exact trivial) (.inl rfl) (fun b' u hb hu => (Heap.get?_update_other s.heap (Obj.mapSeq f) (Ne.symm hb)).trans hu) ⟨_, q⟩ ?_
  exact ⟨hz, its', _, hv, q⟩
theorem Inv.lnew {its : List Value} {t' : Nat} (I : Inv X pins σ H s) (hv : Vals ys its) (hz : ys.length ≤ sizeLine) :
    Inv X pins σ (upd H s.heap.objs.size (.lst ys)) { s with heap := s.heap.push { cls := .type "list", data := .seq its.toArray }, toks := t' } :=
  I.laid (fun _ _ q => Heap.get?_push_of_some _ q) (Nat.le_refl _) ⟨hz, its, 0, hv, Heap.get?_push_size _ rfl⟩
theorem Inv.fresh (I : Inv X pins σ H s) : H s.heap.objs.size = none := I.hok.fresh (Nat.le_refl _)
theorem Inv.lstM (I : Inv X pins σ H s) (hH : H l = some (.lst xs)) : xs.length ≤ sizeLine ∧ ∃ (its : List Value) (n : Nat), Vals xs its ∧ xs.length = its.length ∧ s.heap.get? l = some { cls := .type "list", data := .seq its.toArray n } := by
  obtain ⟨z, its, n, r, e⟩ := I.hok l _ hH
  exact ⟨z, its, n, r, r.length, e⟩
theorem notLongL {n : Nat} (h : n ≤ sizeLine) : Builtin.List.listTooLong n = false := by
  unfold Builtin.List.listTooLong
  exact decide_eq_false (by omega)
end
section
variable {X : Cx}
def rAppend : V → List V → Hp → VK → Prop := fun x vs H Q => ∃ l xs y, x = .ref l ∧ vs = [y] ∧ H l = some (.lst xs) ∧ xs.length < sizeLine ∧ Q .non (upd H l (.lst (xs ++ [y])))
theorem mt_append : MtM X "list.append" rAppend := by
  intro pins s σ H x vs v us Q I rx rv h
  obtain ⟨l, xs, y, rfl, rfl, hH, hz, q⟩ := h
  cases rx
  obtain ⟨u, rfl, ru⟩ := rv.one
  obtain ⟨z, its, n, r, hl, e⟩ := I.lstM hH
  refine call_meets F.slot_list_append ⟨_, e, rfl⟩ F.entry_list_append (F.args_list_append_2 _ _) (PySem.list_append l its.toArray n u (by rw [List.size_toArray]; omega)) ⟨e, ?_⟩
  refine ⟨.non, _, I.lset (its' := its ++ [u]) hH e (by simp) (r.append (.cons ru .nil)) ?_, rfl, q⟩
  rw [List.length_append, List.length_singleton]
  omega
def rExtend : V → List V → Hp → VK → Prop := fun x vs H Q => ∃ l b xs zs, x = .ref l ∧ vs = [.ref b] ∧ H l = some (.lst xs) ∧ H b = some (.lst zs) ∧ xs.length + zs.length ≤ sizeLine ∧ Q .non (upd H l (.lst (xs ++ zs)))
theorem mt_extend : MtM X "list.extend" rExtend := by
  intro pins s σ H x vs v us Q I rx rv h
  obtain ⟨l, b, xs, zs, rfl, rfl, hH, hB, hz, q⟩ := h
  cases rx
  obtain ⟨u, rfl, ru⟩ := rv.one
  cases ru
  obtain ⟨z, its, n, r, hl, e⟩ := I.lstM hH
  obtain ⟨z2, its2, n2, r2, hl2, e2⟩ := I.lstM hB
  have hsz : its.toArray.size + its2.toArray.size ≤ sizeLine := by rw [List.size_toArray, List.size_toArray]; omega
  have hlong : ¬ (!its.toArray.isEmpty && Builtin.List.listTooLong (its.toArray.size + its2.toArray.size)) = true := by
    rw [notLongL hsz, Bool.and_false]
    exact Bool.false_ne_true
  refine call_meets F.slot_list_extend ⟨_, e, rfl⟩ F.entry_list_extend (F.args_list_extend_2 _ _)
    (AutoSeq1.list_extend_list_list_0 l its.toArray n b its2.toArray n2 hlong (by rw [List.size_toArray]; omega) (by omega)) ⟨e, e2, ?_⟩
  refine ⟨.non, _, I.lset (its' := its ++ its2) hH e (by simp) (r.append r2) ?_, rfl, q⟩
  rw [List.length_append]
  omega
def rCat : R2 := fun x y H Q => ∃ l b xs zs, x = .ref l ∧ y = .ref b ∧ H l = some (.lst xs) ∧ H b = some (.lst zs) ∧ xs.length + zs.length ≤ sizeLine ∧ ∀ p, H p = none → Q (.ref p) (upd H p (.lst (xs ++ zs)))
theorem op_cat : OpR X (binaryOp .Add) rCat := by
  intro pins s σ H x y v u Q I rx ry h
  obtain ⟨l, b, xs, zs, rfl, rfl, hH, hB, hz, q⟩ := h
  cases rx
  cases ry
  obtain ⟨z, its, n, r, hl, e⟩ := I.lstM hH
  obtain ⟨z2, its2, n2, r2, hl2, e2⟩ := I.lstM hB
  refine PySem.P.add_list e e2 ?_ (by rw [List.size_toArray, List.size_toArray]; omega)
  have ea : its.toArray ++ its2.toArray = (its ++ its2).toArray := by simp
  rw [ea]
  exact ⟨.ref _, _, I.lnew (t' := s.toks) (r.append r2) (by rw [List.length_append]; omega), rfl, q _ I.fresh⟩
/-- a list times an int (a negative one is nothing) -/
def rRep : R2 := fun x y H Q => ∃ l k xs, x = .ref l ∧ y = .int k ∧ H l = some (.lst xs) ∧ -(2 ^ 63) ≤ k ∧ k < 2 ^ 63 ∧ xs.length * k.toNat ≤ sizeLine ∧
  ∀ p, H p = none → Q (.ref p) (upd H p (.lst (List.replicate k.toNat xs).flatten))
theorem len_rep {α : Type} (xs : List α) (k : Nat) : (List.replicate k xs).flatten.length = k * xs.length := by
  induction k with
  | zero => simp
  | succ k ih => rw [List.replicate_succ, List.flatten_cons, List.length_append, ih, Nat.succ_mul, Nat.add_comm]
theorem op_rep : OpR X (binaryOp .Mult) rRep := by
  intro pins s σ H x y v u Q I rx ry h
  obtain ⟨l, k, xs, rfl, rfl, hH, h1, h2, hz, q⟩ := h
  cases rx
  obtain ⟨t, rfl⟩ := ry
  obtain ⟨z, its, n, r, hl, e⟩ := I.lstM hH
  have hlen : its.toArray.size * k.toNat ≤ sizeLine := by rw [List.size_toArray, ← hl]; exact hz
  have hcap : ¬ its.toArray.size * k.toNat > (2 ^ 63 - 1) / 8 := by
    have : (sizeLine : Nat) ≤ (2 ^ 63 - 1) / 8 := by decide
    omega
  have hfit : ¬ (!Builtin.List.listFitsIndex k) = true := by
    rw [fitsIndex_both h1 h2]
    exact Bool.false_ne_true
  have hlong : ¬ Builtin.List.listTooLong (its.toArray.size * k.toNat) = true := by
    rw [notLongL hlen]
    exact Bool.false_ne_true
  have hnew : List.foldl (fun x1 x2 => x1 ++ x2) #[] (List.replicate (if its.toArray.isEmpty = true then 0 else k.toNat) its.toArray) = (List.replicate k.toNat its).flatten.toArray := by
    have f0 : ∀ m : Nat, List.foldl (fun x1 x2 => x1 ++ x2) #[] (List.replicate m its.toArray) = (List.replicate m its).flatten.toArray := fun m => by
      have := foldl_rep its m []
      rw [List.nil_append] at this
      exact this
    rw [f0]
    cases its with
    | nil => simp
    | cons a r' => rw [if_neg (by simp)]
  refine wpAny_binaryOp_repeat_ref (T := "list") (U := "int") (by decide) ⟨_, e, rfl⟩ (fun s' => typeIs_int s' k t) noFill_list_mul F.fills_int_mul F.slot_int_rmul repeat_list F.slot_int_index.lookup
    (call_meets F.slot_int_rmul (typeIs_int s k t) F.entry_int_rmul (F.args_int_rmul_2 _ _) (int___rmul___int_list k t l its.toArray n)
      ⟨e, rfl, ⟨_, e, rfl⟩, call_meets F.slot_list_mul ⟨_, e, rfl⟩ F.entry_list_mul (F.args_list_mul_2 _ _) (AutoListH.list___mul___list_int_3 l its.toArray n k t hfit hcap hlong) ⟨e, ?_⟩⟩)
  rw [hnew]
  exact ⟨.ref _, _, I.lnew (t' := s.toks) (r.rep k.toNat) (by rw [len_rep, Nat.mul_comm]; exact hz), rfl, q _ I.fresh⟩
end
section
variable {prog : Program} {w : World} {A : Around} {E : Value → Shared → Prop} {s : Shared}
end
section
variable {X : Cx}
end
end L2
namespace L2
open PySem PySem.Spec PyProof.Rows
theorem Vals.ints : ∀ {ns : List Int} {us : List Value}, Vals (ns.map V.int) us → IntsAre us ns
  | [], us, h => by
    rw [List.map_nil] at h
    cases h
    exact IntsAre.nil
  | n :: ns, us, h => by
    rw [List.map_cons] at h
    cases h with
    | cons r t =>
      obtain ⟨k, rfl⟩ := r
      exact IntsAre.cons n k (Vals.ints t)
theorem Vals.strs : ∀ {xs : List Str} {us : List Value}, Vals (xs.map V.str) us → StrsAre us xs
  | [], us, h => by
    rw [List.map_nil] at h
    cases h
    exact StrsAre.nil
  | x :: xs, us, h => by
    rw [List.map_cons] at h
    cases h with
    | cons r t =>
      obtain ⟨k, rfl⟩ := r
      exact StrsAre.cons x k (Vals.strs t)
section
variable {prog : Program} {w : World} {A : Around} {E : Value → Shared → Prop} {s : Shared} {l : Addr} {its : List Value} {ns : List Int} {Q : Value → Shared → Prop}
end
section
variable {X : Cx}
end
section
variable {X : Cx}
end
section
variable {X : Cx}
end
section
variable {X : Cx}
end
section
variable {X : Cx} {pins : List (Addr × Obj)} {σ : St} {H : Hp} {s : Shared}
end
section
variable {X : Cx}
end
end L2
namespace L2
open PySem PySem.Spec PyProof.Rows
abbrev CellAt (h : Heap) (c : Addr) (v : Option Value) : Prop := h.IsCell c v
def relS (scope sc : Scope) : Scope :=
  { scope with names := scope.names.map fun (n, k) => if (k == .free && sc.kind == .function && sc.names.lookup n == some .cell) then (n, .cell) else (n, k) }
def cloFrom (cells : List (Str × Addr)) : List (Str × NameKind) → List (Str × Addr) → List (Str × Addr)
  | [], acc => acc
  | (n, k) :: r, acc => if k == .free then cloFrom cells r ((n, (cells.lookup n).getD 0) :: acc) else cloFrom cells r acc
theorem closure_loop (env : Env) (f : Str × NameKind → List (Str × Addr) → Sem (ForInStep (List (Str × Addr))))
    (hf : ∀ n k c, f (n, k) c = if k == .free then (do let a ← cellOf env n; pure (.yield ((n, a) :: c))) else pure (.yield c)) :
    ∀ (names : List (Str × NameKind)) (acc : List (Str × Addr)), (∀ y ∈ names, y.2 = .free → ∃ c, env.cells.lookup y.1 = some c) → forIn names acc f = pure (cloFrom env.cells names acc)
  | [], acc, _ => by rw [List.forIn_nil]; rfl
  | (n, k) :: r, acc, h => by
    rw [List.forIn_cons, hf]
    have ih := fun acc => closure_loop env f hf r acc fun y hy => h y (List.mem_cons_of_mem _ hy)
    unfold cloFrom
    by_cases hk : (k == NameKind.free) = true
    · rw [if_pos hk, if_pos hk]
      obtain ⟨c, hc⟩ := h (n, k) List.mem_cons_self (by simpa using hk)
      have e : cellOf env n = pure c := by unfold cellOf; rw [hc]
      rw [e]
      have e2 : (env.cells.lookup n).getD 0 = c := by rw [hc]; rfl
      rw [e2]
      exact ih _
    · rw [if_neg hk, if_neg hk]
      exact ih _
theorem closure_ok {scope : Scope} {env : Env} (h : ∀ y ∈ scope.names, y.2 = .free → ∃ c, env.cells.lookup y.1 = some c) : closureFor scope env = pure (cloFrom env.cells scope.names []) := by
  simp only [closureFor]
  rw [closure_loop env _ (fun n k c => rfl) scope.names [] h]
  rfl
theorem mem_lookup {α : Type} : ∀ {l : List (Str × α)} {n : Str} {c : α}, (n, c) ∈ l → ∃ c', l.lookup n = some c'
  | (k, v) :: r, n, c, h => by
    rw [List.lookup_cons]
    cases hb : n == k with
    | true => exact ⟨_, rfl⟩
    | false =>
      rcases List.mem_cons.mp h with e | h
      · cases e; simp at hb
      · exact mem_lookup h
theorem cloFrom_mem {cells : List (Str × Addr)} : ∀ {names : List (Str × NameKind)} {acc : List (Str × Addr)} {n : Str} {c : Addr}, (n, c) ∈ cloFrom cells names acc → (n, c) ∈ acc ∨ ((n, .free) ∈ names ∧ c = (cells.lookup n).getD 0)
  | [], _, _, _, h => .inl h
  | (m, k) :: r, acc, n, c, h => by
    unfold cloFrom at h
    split at h
    · rename_i hk
      have hk : k = .free := by simpa using hk
      rcases cloFrom_mem h with h | ⟨h1, h2⟩
      · rcases List.mem_cons.mp h with e | h
        · cases e; exact .inr ⟨hk ▸ List.mem_cons_self, rfl⟩
        · exact .inl h
      · exact .inr ⟨List.mem_cons_of_mem _ h1, h2⟩
    · rcases cloFrom_mem h with h | ⟨h1, h2⟩
      · exact .inl h
      · exact .inr ⟨List.mem_cons_of_mem _ h1, h2⟩
theorem cloFrom_acc {cells : List (Str × Addr)} : ∀ {names : List (Str × NameKind)} {acc : List (Str × Addr)} {p : Str × Addr}, p ∈ acc → p ∈ cloFrom cells names acc
  | [], _, _, h => h
  | (m, k) :: r, acc, p, h => by
    unfold cloFrom
    split
    · exact cloFrom_acc (List.mem_cons_of_mem _ h)
    · exact cloFrom_acc h
theorem cloFrom_has {cells : List (Str × Addr)} : ∀ {names : List (Str × NameKind)} {acc : List (Str × Addr)} {n : Str}, (n, .free) ∈ names → (n, (cells.lookup n).getD 0) ∈ cloFrom cells names acc
  | (m, k) :: r, acc, n, h => by
    unfold cloFrom
    rcases List.mem_cons.mp h with e | h
    · cases e
      exact cloFrom_acc List.mem_cons_self
    · split
      · exact cloFrom_has h
      · exact cloFrom_has h
theorem cells_mem : ∀ {names : List (Str × NameKind)} {h : Heap} {acc : List (Str × Addr)} {x : Str} {c : Addr}, (x, c) ∈ cellsFrom h.objs.size names acc →
    (x, c) ∈ acc ∨ ((x, .cell) ∈ names ∧ h.objs.size ≤ c ∧ CellAt (pushCells h names) c none)
  | [], _, _, _, _, h => .inl h
  | (n, k) :: r, h, acc, x, c, hm => by
    unfold cellsFrom at hm
    unfold pushCells
    split at hm
    · rename_i hk
      rw [if_pos hk]
      have hk : k = .cell := by simpa using hk
      rw [← Heap.size_push h { cls := .type "cell", data := .cell none }] at hm
      rcases cells_mem hm with hm | ⟨h1, h2, h3⟩
      · rcases List.mem_cons.mp hm with e | hm
        · cases e
          exact .inr ⟨hk ▸ List.mem_cons_self, Nat.le_refl _, _, pushCells_keeps r _ _ _ (Heap.get?_push_size _ rfl), rfl⟩
        · exact .inl hm
      · rw [Heap.size_push] at h2
        exact .inr ⟨List.mem_cons_of_mem _ h1, Nat.le_of_succ_le h2, h3⟩
    · rename_i hk
      rw [if_neg hk]
      rcases cells_mem hm with hm | ⟨h1, h2, h3⟩
      · exact .inl hm
      · exact .inr ⟨List.mem_cons_of_mem _ h1, h2, h3⟩
theorem cells_acc : ∀ {names : List (Str × NameKind)} {n : Nat} {acc : List (Str × Addr)} {p : Str × Addr}, p ∈ acc → p ∈ cellsFrom n names acc
  | [], _, _, _, h => h
  | (m, k) :: r, n, acc, p, h => by
    unfold cellsFrom
    split
    · exact cells_acc (List.mem_cons_of_mem _ h)
    · exact cells_acc h
theorem cells_has : ∀ {names : List (Str × NameKind)} {n : Nat} {acc : List (Str × Addr)} {x : Str}, (x, .cell) ∈ names → ∃ c, (x, c) ∈ cellsFrom n names acc
  | (m, k) :: r, n, acc, x, h => by
    unfold cellsFrom
    rcases List.mem_cons.mp h with e | h
    · cases e
      exact ⟨n, cells_acc List.mem_cons_self⟩
    · split
      · exact cells_has h
      · exact cells_has h
theorem cells_inj : ∀ {names : List (Str × NameKind)} {h : Heap} {acc : List (Str × Addr)} {x y : Str} {c : Addr}, (∀ p ∈ acc, p.2 < h.objs.size) → (∀ x y c, (x, c) ∈ acc → (y, c) ∈ acc → x = y) →
    (x, c) ∈ cellsFrom h.objs.size names acc → (y, c) ∈ cellsFrom h.objs.size names acc → x = y
  | [], _, _, _, _, _, _, hi, h1, h2 => hi _ _ _ h1 h2
  | (n, k) :: r, h, acc, x, y, c, hl, hi, h1, h2 => by
    unfold cellsFrom at h1 h2
    split at h1
    · rename_i hk
      rw [if_pos hk] at h2
      rw [← Heap.size_push h { cls := .type "cell", data := .cell none }] at h1 h2
      refine cells_inj (h := h.push _) (fun p hp => ?_) (fun x y c a b => ?_) h1 h2
      · rw [Heap.size_push]
        rcases List.mem_cons.mp hp with rfl | hp
        · exact Nat.lt_succ_self _
        · exact Nat.lt_succ_of_lt (hl p hp)
      · rcases List.mem_cons.mp a with e | a <;> rcases List.mem_cons.mp b with e' | b
        · cases e; cases e'; rfl
        · cases e; exact absurd (hl _ b) (Nat.lt_irrefl _)
        · cases e'; exact absurd (hl _ a) (Nat.lt_irrefl _)
        · exact hi _ _ _ a b
    · rename_i hk
      rw [if_neg hk] at h2
      exact cells_inj hl hi h1 h2
theorem newEnv_comp {M : Model} {A : Around} {E : Value → Shared → Prop} {s : Shared} {scope : Scope} {globals : Addr} {closure : List (Str × Addr)} {qual : Str} {func : Option Addr} {code : Value} {around : Env} {builtins : Addr} {Q : Env → Shared → Prop}
    (h : Q (newEnv scope s.heap.objs.size globals (cellsFrom (s.heap.objs.size + 1) scope.names closure) qual func code (some around) builtins)
      { s with heap := pushCells (s.heap.push { cls := .type "dict", data := .dict #[] }) scope.names }) :
    wpAny M A (newFunctionEnv scope globals closure [] qual func code (some around) builtins) Q E s := by
  simp only [newFunctionEnv, Option.isSome_some, if_true]
  refine wpAny_bind (wpAny_alloc ?_)
  refine wpAny_bind (wpAny_layCells _ (fun n k c => rfl) scope.names closure _ _ ?_)
  rw [show ({ s with heap := s.heap.push { cls := .type "dict", data := .dict #[] } } : Shared).heap.objs.size = s.heap.objs.size + 1 from Heap.size_push ..]
  rw [List.forIn_nil]
  exact wpAny_bind (wpAny_pure (wpAny_pure h))
/-- every name of the written scope, in the scope that runs -/
theorem lookup_relS {sc : Scope} : ∀ {names : List (Str × NameKind)} {x : Str} {k : NameKind},
    (names.map fun (n, k) => if (k == NameKind.free && sc.kind == .function && sc.names.lookup n == some .cell) then (n, NameKind.cell) else (n, k)).lookup x = some k →
    ∃ k', names.lookup x = some k' ∧ (k = k' ∨ (k' = .free ∧ k = .cell))
  | [], _, _, h => by simp at h
  | (n, k₀) :: r, x, k, h => by
    have ih := @lookup_relS sc r x k
    have h' : List.lookup x ((if (k₀ == NameKind.free && sc.kind == .function && sc.names.lookup n == some .cell) = true then (n, NameKind.cell) else (n, k₀)) :: (r.map _)) = some k := h
    cases hx : x == n with
    | true =>
      simp only [List.lookup_cons, hx]
      by_cases hc : (k₀ == NameKind.free && sc.kind == .function && sc.names.lookup n == some .cell) = true
      · rw [if_pos hc] at h'
        simp only [List.lookup_cons, hx] at h'
        cases h'
        simp only [Bool.and_eq_true, beq_iff_eq] at hc
        exact ⟨k₀, rfl, .inr ⟨hc.1.1, rfl⟩⟩
      · rw [if_neg hc] at h'
        simp only [List.lookup_cons, hx] at h'
        cases h'
        exact ⟨_, rfl, .inl rfl⟩
    | false =>
      simp only [List.lookup_cons, hx]
      by_cases hc : (k₀ == NameKind.free && sc.kind == .function && sc.names.lookup n == some .cell) = true
      · rw [if_pos hc] at h'
        simp only [List.lookup_cons, hx] at h'
        exact ih h'
      · rw [if_neg hc] at h'
        simp only [List.lookup_cons, hx] at h'
        exact ih h'
/-- the names of a comprehension's block: its own (with their places in N), or captured -/
structure BlkOk (N : List Str) (sc scope : Scope) (own : List (Str × Nat)) : Prop where
  kind : scope.kind = .function
  uniq : ∀ y ∈ scope.names, scope.names.lookup y.1 = some y.2
  ix : ∀ p ∈ own, N[p.2]? = some p.1
  free : ∀ y ∈ scope.names, y.2 = .free → sc.names.lookup y.1 = some .cell ∨ sc.names.lookup y.1 = some .free
  own : ∀ y ∈ scope.names, y.2 = .local ∨ y.2 = .cell → y.1 ∈ own.map (·.1) ∨ y.1 ∉ N
/-- the slots of the block's own names forgotten -/
def wipe (σ : St) : List Nat → St
  | [] => σ
  | v :: vs => (wipe σ vs).set v none
theorem wipe_length (σ : St) : ∀ vs : List Nat, (wipe σ vs).length = σ.length
  | [] => rfl
  | v :: vs => by unfold wipe; rw [List.length_set, wipe_length σ vs]
theorem wipe_some {σ : St} {i : Nat} {x : V} : ∀ {vs : List Nat}, (wipe σ vs)[i]? = some (some x) → σ[i]? = some (some x) ∧ i ∉ vs
  | [], h => ⟨h, by simp⟩
  | v :: vs, h => by
    unfold wipe at h
    by_cases hi : v = i
    · subst hi
      by_cases hv : v < (wipe σ vs).length
      · rw [List.getElem?_set_self hv] at h; cases h
      · rw [List.getElem?_eq_none (by simpa using hv)] at h; cases h
    · rw [List.getElem?_set_ne hi] at h
      obtain ⟨h1, h2⟩ := wipe_some h
      exact ⟨h1, by simp only [List.mem_cons, not_or]; exact ⟨fun e => hi e.symm, h2⟩⟩
/-- the context of a block that starts at s, its iterator's objects at fp -/
abbrev Cx.blk (X : Cx) (s : Shared) (H : Hp) (scope : Scope) (cenv : Env) (fp : List Addr) : Cx := { X with s_0 := s, H_0 := H, env := cenv, outer := X.stack, ex := fp, fn := fun x => scope.names.lookup x == some .cell, pn := [], xe := fun _ _ => False }
section
variable {X : Cx} {pins : List (Addr × Obj)} {σ : St} {H : Hp} {s : Shared}
theorem block_start {scope : Scope} {own : List (Str × Nat)} {fp : List Addr} (I : Inv X pins σ H s) (ok : BlkOk X.N X.env.scope scope own) (hN : X.N.Nodup) (hfp : ∀ b ∈ fp, FpOk X pins H b ∧ b < s.heap.objs.size) :
    Inv (X.blk s H scope (compEnvC scope (cellsFrom (s.heap.objs.size + 1) scope.names (cloFrom X.env.cells scope.names [])) s.heap.objs.size X.env) fp) [] (wipe σ (own.map (·.2))) H { s with heap := pushCells (s.heap.push { cls := .type "dict", data := .dict #[] }) scope.names } := by
  have hfree : ∀ y ∈ scope.names, y.2 = .free → ∃ c, X.env.cells.lookup y.1 = some c := fun y hy e => by
    rcases ok.free y hy e with k | k
    · exact I.ok.has _ (.inl k)
    · exact I.ok.has _ (.inr k)
  generalize hcenv : compEnvC scope (cellsFrom (s.heap.objs.size + 1) scope.names (cloFrom X.env.cells scope.names [])) s.heap.objs.size X.env = cenv
  have kp : ∀ b o, s.heap.get? b = some o → (pushCells (s.heap.push { cls := .type "dict", data := .dict #[] }) scope.names).get? b = some o := fun b o e => pushCells_keeps _ _ _ _ (Heap.get?_push_of_some _ e)
  have hL : cenv.locals = s.heap.objs.size := by rw [← hcenv]; rfl
  have hcl : cenv.cells = cellsFrom (s.heap.objs.size + 1) scope.names (cloFrom X.env.cells scope.names []) := by rw [← hcenv]; rfl
  have hsc : cenv.scope = relS scope X.env.scope := by rw [← hcenv]; rfl
  rw [← Heap.size_push s.heap { cls := .type "dict", data := .dict #[] }] at hcl
  have cm : ∀ {y c}, (y, c) ∈ cloFrom X.env.cells scope.names [] → X.env.cells.lookup y = some c ∧ c < s.heap.objs.size := fun {y c} hm => by
    rcases cloFrom_mem hm with hm | ⟨h1, rfl⟩
    · cases hm
    · obtain ⟨c, hc⟩ := hfree _ h1 rfl
      rw [hc]
      obtain ⟨w, z⟩ := I.cell _ _ hc
      exact ⟨rfl, z.lt⟩
  have mem : ∀ {y c}, cenv.cells.lookup y = some c → (X.env.cells.lookup y = some c ∧ c < s.heap.objs.size) ∨ (s.heap.objs.size + 1 ≤ c ∧ CellAt (pushCells (s.heap.push { cls := .type "dict", data := .dict #[] }) scope.names) c none) := fun {y c} e => by
    rw [hcl] at e
    rcases cells_mem (PySem.mem_of_lookup e) with hm | ⟨_, h2, h3⟩
    · exact .inl (cm hm)
    · rw [Heap.size_push] at h2; exact .inr ⟨h2, h3⟩
  have look : ∀ {y}, scope.names.lookup y = some .free → ∃ c, cenv.cells.lookup y = some c ∧ X.env.cells.lookup y = some c := fun {y} hl => by
    have hy : (y, NameKind.free) ∈ scope.names := PySem.mem_of_lookup hl
    obtain ⟨c', e'⟩ := mem_lookup (cells_acc (names := scope.names) (n := (s.heap.push { cls := .type "dict", data := .dict #[] }).objs.size) (cloFrom_has (cells := X.env.cells) (acc := []) hy))
    rw [← hcl] at e'
    refine ⟨c', e', ?_⟩
    rw [hcl] at e'
    rcases cells_mem (PySem.mem_of_lookup e') with hm | ⟨h1, _, _⟩
    · exact (cm hm).1
    · have := ok.uniq _ h1
      rw [hl] at this; cases this
  have okB : (X.blk s H scope cenv fp).Ok := by
    refine ⟨I.ok.mod, by show cenv.scope.kind = _; rw [hsc]; exact ok.kind, by show cenv.globals = _; rw [← hcenv]; exact I.ok.glob, by show cenv.builtins = _; rw [← hcenv]; exact I.ok.blt, by show s.heap.objs.size ≤ cenv.locals; rw [hL]; exact Nat.le_refl _,
      fun y z c e1 e2 => ?_, fun y hy => ?_, fun y c z e => ?_, I.ok.hd, I.ok.frames, .inl rfl, fun b hb => ⟨?_, fun y c e z => ?_⟩, I.bs, Nat.le_trans I.ok.bsz I.sz, fun b o e hb => ?_, fun b hb z => ?_, I.stack, I.stkFree⟩
    · have e1 : cenv.cells.lookup y = some c := e1
      have e2 : cenv.cells.lookup z = some c := e2
      rw [hcl] at e1 e2
      refine cells_inj (fun p hp => ?_) (fun y z c a b => I.ok.inj y z c (cm a).1 (cm b).1) (PySem.mem_of_lookup e1) (PySem.mem_of_lookup e2)
      rw [Heap.size_push]
      exact Nat.lt_succ_of_lt (cm (y := p.1) (c := p.2) hp).2
    · show ∃ c, cenv.cells.lookup y = some c
      have key : ∀ k, cenv.kindOf y = some k → (k = .cell ∨ k = .free) → ∃ c, cenv.cells.lookup y = some c := fun k hk hk' => by
        unfold Env.kindOf at hk
        rw [hsc] at hk
        obtain ⟨k', e, r⟩ := lookup_relS hk
        have : k' = .cell ∨ k' = .free := by
          rcases r with rfl | ⟨rfl, _⟩
          · exact hk'
          · exact .inr rfl
        rcases this with rfl | rfl
        · obtain ⟨c, hm⟩ := cells_has (n := (s.heap.push { cls := .type "dict", data := .dict #[] }).objs.size) (acc := cloFrom X.env.cells scope.names []) (PySem.mem_of_lookup e)
          obtain ⟨c', e'⟩ := mem_lookup hm
          exact ⟨c', by rw [hcl]; exact e'⟩
        · obtain ⟨c, h1, _⟩ := look e
          exact ⟨c, h1⟩
      rcases hy with hy | hy
      · exact key _ hy (.inl rfl)
      · exact key _ hy (.inr rfl)
    · have z : (scope.names.lookup y == some NameKind.cell) = true := z
      have z : scope.names.lookup y = some .cell := by simpa using z
      have e : cenv.cells.lookup y = some c := e
      rw [hcl] at e
      rcases cells_mem (PySem.mem_of_lookup e) with hm | ⟨_, h2, _⟩
      · rcases cloFrom_mem hm with hm | ⟨h1, _⟩
        · cases hm
        · have q := ok.uniq _ h1
          rw [z] at q; cases q
      · rw [Heap.size_push] at h2
        exact Nat.le_of_succ_le h2
    · show b ≠ cenv.locals
      rw [hL]; exact Nat.ne_of_lt (hfp b hb).2
    · have e : cenv.cells.lookup y = some c := e
      rcases mem e with ⟨h1, _⟩ | ⟨h1, _⟩
      · exact (hfp b hb).1.2.2.2.2.1 y c h1 z
      · have h2 : s.heap.objs.size + 1 ≤ b := by rw [← z]; exact h1
        exact absurd (Nat.lt_of_lt_of_le (hfp b hb).2 (Nat.le_of_succ_le h2)) (Nat.lt_irrefl _)
    · rcases (hfp b hb).1.2.2.2.1 with z | z
      · exact I.ok.noex b o e z
      · exact absurd (Nat.lt_of_lt_of_le (Heap.lt_size e) (Nat.le_trans I.ok.bsz z)) (Nat.lt_irrefl _)
    · rcases List.mem_cons.mp (I.stkSub b z) with z | z
      · exact (hfp b hb).1.2.1 z
      · exact (hfp b hb).1.2.2.1 z
  refine ⟨okB, rfl, I.bare, Un.kept kp, ⟨fun _ => none, ?_, fun i y av e1 e2 e3 => ?_⟩, fun y c e => ?_, ?_, fun y c e => ?_, fun p hp => ?_, I.hok.kept kp, by rw [wipe_length]; exact I.len⟩
  · show Heap.Ns _ cenv.locals _
    rw [hL]
    exact Heap.Ns.keeps (Heap.Ns.new ..) fun b o e => pushCells_keeps _ _ _ _ e
  · obtain ⟨e2, hne⟩ := wipe_some e2
    have hfr : scope.names.lookup y = some .free ∧ (cenv.kindOf y = some .cell ∨ cenv.kindOf y = some .free) := by
      have key : ∀ k, cenv.scope.names.lookup y = some k → k = .local ∨ k = .cell ∨ k = .free → scope.names.lookup y = some .free ∧ (cenv.kindOf y = some .cell ∨ cenv.kindOf y = some .free) := fun k hk hk' => by
        have hk0 := hk
        rw [hsc] at hk
        obtain ⟨k', e, r⟩ := lookup_relS hk
        have no : ¬ (k' = .local ∨ k' = .cell) := fun hh => by
          rcases ok.own _ (PySem.mem_of_lookup e) hh with e' | e'
          · obtain ⟨p, hp, hpy⟩ := List.mem_map.mp e'
            have e3 := ok.ix p hp
            have : p.1 = y := hpy
            rw [this] at e3
            exact hne (List.mem_map.mpr ⟨p, hp, nodup_ix hN e3 e1⟩)
          · exact e' (List.mem_of_getElem? e1)
        rcases r with rfl | ⟨rfl, rfl⟩
        · rcases hk' with rfl | rfl | rfl
          · exact absurd (.inl rfl) no
          · exact absurd (.inr rfl) no
          · exact ⟨e, .inr hk0⟩
        · exact ⟨e, .inl hk0⟩
      have e3 : Vis cenv.scope y := e3
      rcases e3 with e3 | e3 | e3
      · exact key _ e3 (.inl rfl)
      · exact key _ e3 (.inr (.inl rfl))
      · exact key _ e3 (.inr (.inr rfl))
    obtain ⟨m, hn, hl⟩ := I.loc
    have hvis : Vis X.env.scope y := (ok.free _ (PySem.mem_of_lookup hfr.1) rfl).elim (fun k => .inr (.inl k)) (fun k => .inr (.inr k))
    obtain ⟨w, r, q⟩ := hl i y av e1 e2 hvis
    refine ⟨w, r, .inr ⟨hfr.2, ?_⟩⟩
    obtain ⟨c, h1, h2⟩ := look hfr.1
    rcases q with ⟨k, _⟩ | ⟨_, c', e', z⟩
    · have k : X.env.scope.names.lookup y = some .local := k
      rcases ok.free _ (PySem.mem_of_lookup hfr.1) rfl with k' | k' <;> rw [show X.env.scope.names.lookup y = _ from k'] at k <;> cases k
    · rw [h2] at e'; cases e'
      exact ⟨c, h1, z.keeps kp⟩
  · have e : cenv.cells.lookup y = some c := e
    rcases mem e with ⟨h1, _⟩ | ⟨_, z⟩
    · obtain ⟨w, z⟩ := I.cell y c h1
      exact ⟨w, z.keeps kp⟩
    · exact ⟨_, z⟩
  · show H cenv.locals = none
    rw [hL]; exact I.hok.fresh (Nat.le_refl _)
  · have e : cenv.cells.lookup y = some c := e
    rcases mem e with ⟨h1, _⟩ | ⟨h1, _⟩
    · exact I.freeC y c h1
    · exact I.hok.fresh (Nat.le_of_succ_le h1)
  · exact absurd (show p ∈ ([] : List (Addr × Obj)) ++ [] from hp) (by simp)
/-- an item appended to a tracked list -/
theorem app_ok {E : Value → Shared → Prop} {D : Addr} {xs : List V} {y : V} {v : Value} {Q : Value → Shared → Prop} (I : Inv X pins σ H s) (hD : H D = some (.lst xs)) (hz : xs.length < sizeLine) (r : RelV y v)
    (h : ∀ s', Inv X pins σ (upd H D (.lst (xs ++ [y]))) s' → Q .none s') : wpAny (model X.prog X.w) X.A (call (.builtin "list.append") [.ref D, v]) Q E s := by
  obtain ⟨hz', its, n, ri, e⟩ := I.hok D _ hD
  have hl := ri.length
  refine append_at (hsz := by rw [List.size_toArray]; omega) e fun h' sb ho' => ?_
  refine h { s with heap := h' } (I.write (t' := s.toks) (by rw [hD]; trivial) (.inl rfl) (fun b u hb q => (sb.2 b hb).trans q) ⟨_, ho'⟩ ⟨by rw [List.length_append]; exact hz, its ++ [v], n + 1, ri.append (.cons r .nil), ?_⟩)
  rw [ho']
  simp
/-- a clause's tests -/
def PTs (X : Cx) (ifs : List Expr) (t : TT) : Prop :=
  ∀ (pins : List (Addr × Obj)) (s : Shared) (σ : St) (H : Hp) (Q : Bool → Hp → Prop), Inv X pins σ H s → t σ H Q →
    wpAny (model X.prog X.w) X.A (forIn ifs true fun c r => if r = true then do let ok ← isTrue c X.env (eval c X.env); pure (ForInStep.yield ok) else pure (ForInStep.yield r)) (TP X pins σ Q) X.xe s
def tYes : TT := fun _ H Q => Q true H
theorem pts_nil : PTs X [] tYes := fun _ _ _ H _ I h => wpAny_tests_nil ⟨H, I, h⟩
end
theorem thnF {α : Type} {t : Sem α} {Q Q' : α → Shared → Prop} {M : Model} {A : Around} {E : Value → Shared → Prop} {s : Shared} (h : wpAny M A t Q (fun _ _ => False) s) (hQ : ∀ a s, Q a s → Q' a s) : wpAny M A t Q' E s := wpAny_mono h hQ fun _ _ z => False.elim z
/-- the loop of a list comprehension's block, the target of any form (codeAny_compLoop_tests asks a target that no tuple goes to; statement and proof follow it, PyProof/CompMap.lean:41-61, with the step letOwnedTupleGo kept) -/
theorem compLoop_any {prog : Program} {w : World} {A : Around} {R : Result → Shared → Prop} {s : Shared} {elt target iter : Expr} {ifs : List Expr} {scope : Scope} {pos : Pos} {it acc : Value} {env : Env} (I : Nat → Shared → Prop)
    (turn : ∀ n s, I n s → wpAny (model prog w) A (pyNext it) (fun r s₁ => match r with
      | none => R (.ok .next) s₁
      | some v => wpAny (model prog w) A (letOwnedTupleGo target it v) (fun _ s₁' => wpAny (model prog w) A (assign target env v) (fun _ s₂ =>
          wpAny (model prog w) A (forIn ifs true fun c r => if r = true then do let ok ← isTrue c env (eval c env); pure (ForInStep.yield ok) else pure (ForInStep.yield r)) (fun ok s₃ =>
            if ok = true then wpAny (model prog w) A (eval elt env) (fun x s₄ =>
              wpAny (model prog w) A (call (.builtin "list.append") [acc, x]) (fun _ s₅ => ∃ m, m < n ∧ I m s₅) (notedBy (model prog w) A env fun e s' => R (.error e) s') s₄) (notedBy (model prog w) A env fun e s' => R (.error e) s') s₃
            else ∃ m, m < n ∧ I m s₃) (notedBy (model prog w) A env fun e s' => R (.error e) s') s₂) (notedBy (model prog w) A env fun e s' => R (.error e) s') s₁') (notedBy (model prog w) A env fun e s' => R (.error e) s') s₁) (notedBy (model prog w) A env fun e s' => R (.error e) s') s)
    (n : Nat) (h : I n s) :
    codeAny (model prog w) A (.compLoop (.ListComp elt [⟨target, iter, ifs, 0⟩] scope pos) 0 it acc env) R s := by
  refine codeAny_loop rfl I (fun n s hI => ?_) n h
  show wpAny _ A ((compTurn (.ListComp elt [⟨target, iter, ifs, 0⟩] scope pos) 0 it acc env).onRaise (fun x => do noteFrame x env; theTreesLotGoes x)) _ _ s
  refine wpAny_noted ?_
  rw [compTurn_list]
  refine wpAny_bind (wpAny_standAt (wpAny_bind (wpAny_mono (turn n s hI) (fun r s₁ h₁ => ?_) fun _ _ h' => h')))
  cases r with
  | none => exact wpAny_pure h₁
  | some v =>
    refine wpAny_bind (wpAny_mono h₁ (fun _ s₁' h₁' => ?_) fun _ _ h' => h')
    refine wpAny_bind (wpAny_mono h₁' (fun _ s₂ h₂ => wpAny_bind (wpAny_mono h₂ (fun ok s₃ h₃ => ?_) fun _ _ h' => h')) fun _ _ h' => h')
    cases ok with
    | false => exact wpAny_pure ⟨rfl, h₃⟩
    | true =>
      exact wpAny_bind (wpAny_bind (wpAny_mono h₃ (fun x s₄ h₄ => wpAny_bind (wpAny_mono h₄ (fun _ s₅ h₅ => wpAny_pure (wpAny_pure ⟨rfl, h₅⟩)) fun _ _ h' => h')) fun _ _ h' => h'))
section
variable {X : Cx}
/-- [elt for target in iter if ..]: D the new list; W by the turn and a measure, Nx what a turn is to reach -/
def tLc (wi : TI) (g : TG) (tt : TT) (te : TE) (vs : List Nat) : TE := fun σ H Q => wi σ H fun J H1 => ∀ D, H1 D = none → ∃ W : Nat → Nat → Hp → Prop, (∃ m, W 0 m (upd H1 D (.lst []))) ∧ ∀ i m H, W i m H →
  (J.stop i H ∧ Q (.ref D) H) ∨ (J.go i H ∧ ∃ Nx : Hp → Prop, (∀ H', Nx H' → ∃ m', m' < m ∧ W (i + 1) m' H') ∧ ∀ x H', J.yld i H x H' → g x (wipe σ vs) H' fun σ2 H2 => wipe σ2 vs = wipe σ vs ∧ tt σ2 H2 fun b H3 =>
    if b = true then te σ2 H3 fun y H4 => ∃ acc, H4 D = some (.lst acc) ∧ acc.length < sizeLine ∧ Nx (upd H4 D (.lst (acc ++ [y]))) else Nx H3)
theorem lc_core {pins : List (Addr × Obj)} {s : Shared} {σ : St} {H : Hp} {Q : VK} {elt tg iter : Expr} {ifs : List Expr} {scope : Scope} {own : List (Str × Nat)} {pos pos' : Pos} {wi : TI} {g : TG} {tt : TT} {te : TE} {use : Option (Value → Sem Unit)} {Qf : Value → Shared → Prop}
    (hc : X.calm = true) (hN : X.N.Nodup) (I : Inv X pins σ H s) (hi : PI X tg iter wi) (ok : BlkOk X.N X.env.scope scope own)
    (hg : ∀ (s : Shared) (H : Hp) (C : Addr) (cl : List (Str × Addr)) (fp : List Addr), PG (X.blk s H scope (compEnvC scope cl C X.env) fp) tg g) (ht : ∀ (s : Shared) (H : Hp) (C : Addr) (cl : List (Str × Addr)) (fp : List Addr), PTs (X.blk s H scope (compEnvC scope cl C X.env) fp) ifs tt)
    (he : ∀ (s : Shared) (H : Hp) (C : Addr) (cl : List (Str × Addr)) (fp : List Addr), PE (X.blk s H scope (compEnvC scope cl C X.env) fp) elt te) (hs : ∀ x, foldedSetIterable iter X.env x = pure x)
    (h : tLc wi g tt te (own.map (·.2)) σ H Q)
    (hRR : ∀ D C s' m H', Inv X pins σ H' s' → Q (.ref D) H' → s'.heap.Ns C m → FpOk X pins H' C → compPost (model X.prog X.w) X.A X.xe use Qf (.ref D) C (.ok .next) s') :
    wpAny (model X.prog X.w) X.A (comprehension (.ListComp elt [⟨tg, iter, ifs, 0⟩] scope pos) scope X.env pos' (newList []) false (eval iter X.env) use) Qf X.xe s := by
  have hfree : ∀ y ∈ scope.names, y.2 = .free → ∃ c, X.env.cells.lookup y.1 = some c := fun y hy e => by
    rcases ok.free y hy e with k | k
    · exact I.ok.has _ (.inl k)
    · exact I.ok.has _ (.inr k)
  refine wpAny_comprehension_free (use := use) rfl hs (closure_ok hfree) ok.kind (fun y hy e => by rw [ok.uniq y hy, e])
    (thn (hi pins s σ H _ I h) fun xv s1 hx => thn hx fun itv s2 h2 => ?_)
  obtain ⟨it, fp, tn, J, H2, e, I2, T, st2, f2, q⟩ := h2
  subst e
  refine wpAny_newObj_type (newEnv_comp ?_) (by show 0 ≤ sizeLine; decide)
  generalize hD : s2.heap.objs.size = D
  have hDn : H2 D = none := I2.hok.fresh (Nat.le_of_eq hD)
  obtain ⟨W, ⟨m0, w0⟩, turn⟩ := q D hDn
  -- the new list
  generalize hs3 : ({ s2 with heap := s2.heap.push { cls := .type "list", data := .seq ([] : List Value).toArray } } : Shared) = s3
  have I3 : Inv X pins σ (upd H2 D (.lst [])) s3 := by
    rw [← hs3]
    refine I2.laid (t' := s2.toks) (fun b o e => Heap.get?_push_of_some _ e) (Nat.le_of_eq hD) ⟨Nat.zero_le _, [], 0, .nil, ?_⟩
    rw [← hD]
    exact Heap.get?_push_size _ rfl
  have h3 : s3.heap = s2.heap.push { cls := .type "list", data := .seq ([] : List Value).toArray } := by rw [← hs3]
  have sz : ∀ b ∈ fp, b < s2.heap.objs.size := fun b hb => by
    obtain ⟨o, e, _⟩ := T.obj _ _ st2 b hb
    exact Heap.lt_size e
  have f3 : ∀ b ∈ fp, FpOk X pins (upd H2 D (.lst [])) b ∧ b < s3.heap.objs.size := fun b hb => by
    have hlt := sz b hb
    refine ⟨⟨?_, (f2 b hb).2⟩, by rw [h3, Heap.size_push]; exact Nat.lt_succ_of_lt hlt⟩
    rw [upd_ne (by rw [← hD]; exact Nat.ne_of_lt hlt)]
    exact (f2 b hb).1
  have st3 : tn 0 s3.heap := T.keep _ _ _ st2 fun b _ o e => by rw [h3]; exact Heap.get?_push_of_some _ e
  have I4 := block_start I3 ok hN f3
  have pg := hg s3 (upd H2 D (.lst [])) s3.heap.objs.size (cellsFrom (s3.heap.objs.size + 1) scope.names (cloFrom X.env.cells scope.names [])) fp
  have pt := ht s3 (upd H2 D (.lst [])) s3.heap.objs.size (cellsFrom (s3.heap.objs.size + 1) scope.names (cloFrom X.env.cells scope.names [])) fp
  have pe := he s3 (upd H2 D (.lst [])) s3.heap.objs.size (cellsFrom (s3.heap.objs.size + 1) scope.names (cloFrom X.env.cells scope.names [])) fp
  show codeAny _ _ (.compStart (.ListComp elt [⟨tg, iter, ifs, 0⟩] scope pos) 0 (.ref it) (.ref D) (compEnvC scope (cellsFrom (s3.heap.objs.size + 1) scope.names (cloFrom X.env.cells scope.names [])) s3.heap.objs.size X.env)) (compPost (model X.prog X.w) X.A X.xe use Qf (.ref D) s3.heap.objs.size) { s3 with heap := pushCells (s3.heap.push { cls := .type "dict", data := .dict #[] }) scope.names }
  have nfp : ∀ b ∈ fp, (upd H2 D (.lst [])) b = none := fun b hb => (f3 b hb).1.1
  generalize hce : compEnvC scope (cellsFrom (s3.heap.objs.size + 1) scope.names (cloFrom X.env.cells scope.names [])) s3.heap.objs.size X.env = ce at I4 pg pt pe ⊢
  have cL : ce.locals = s3.heap.objs.size := by subst hce; rfl
  generalize hH3 : upd H2 D (.lst []) = H3 at I3 I4 pg pt pe w0 nfp f3
  generalize hs4 : ({ s3 with heap := pushCells (s3.heap.push { cls := .type "dict", data := .dict #[] }) scope.names } : Shared) = s4 at I4 ⊢
  have st4 : tn 0 s4.heap := T.keep _ _ _ st3 fun b _ o e => by rw [← hs4]; exact pushCells_keeps _ _ _ _ (Heap.get?_push_of_some _ e)
  have stat : ∀ {σ' : St} {H' : Hp} {s' : Shared}, Inv (X.blk s3 H3 scope ce fp) [] σ' H' s' → (∀ b ∈ fp, H' b = none) → ∀ b ∈ fp, FpOk (X.blk s3 H3 scope ce fp) [] H' b := fun {σ' H' s'} I' hn b hb =>
    ⟨hn b hb, (I'.ok.exf b hb).1, I'.ok.exfs b hb, .inl hb, fun x c e => (I'.ok.exf b hb).2 x c e, fun p hp => absurd (show p ∈ ([] : List (Addr × Obj)) ++ [] from hp) (by simp)⟩
  have loop : codeAny (model X.prog X.w) X.A (.compLoop (.ListComp elt [⟨tg, iter, ifs, 0⟩] scope pos) 0 (.ref it) (.ref D) ce) (compPost (model X.prog X.w) X.A X.xe use Qf (.ref D) s3.heap.objs.size) s4 := by
    refine compLoop_any (fun n s' => ∃ i H', Inv (X.blk s3 H3 scope ce fp) [] (wipe σ (own.map (·.2))) H' s' ∧ tn i s'.heap ∧ (∀ b ∈ fp, H' b = none) ∧ W i n H') ?_ m0 ⟨0, H3, I4, st4, nfp, w0⟩
    rintro n s5 ⟨i, H5, I5, st5, n5, w5⟩
    rcases turn i n H5 w5 with ⟨stop, qq⟩ | ⟨go, Nx, hNx, step⟩
    · have td := T.done (X.blk s3 H3 scope ce fp) rfl rfl rfl hc i [] s5 _ H5 (fun _ _ => False) I5 (stat I5 n5) st5 stop
      refine thnF td fun r s6 ⟨hr, I6⟩ => ?_
      subst hr
      -- back in the def's context
      have I7 : Inv X pins σ H5 s6 := I3.call' (ch := fp) I6.os I6.base I6.hok I6.bare fun b hb => ⟨(f3 b hb).1.2.2.2.1, (f3 b hb).1.2.1, (f3 b hb).1.2.2.2.2.1, (f3 b hb).1.2.2.2.2.2⟩
      have nC : H5 s3.heap.objs.size = none := by
        have z : H5 ce.locals = none := I6.free
        rw [cL] at z
        exact z
      obtain ⟨m, hn, _⟩ := I6.loc
      have hn : s6.heap.Ns ce.locals m := hn
      rw [cL] at hn
      exact hRR D s3.heap.objs.size s6 m H5 I7 qq hn (I3.fpOk (Nat.le_refl _) nC)
    · have ti := T.item (X.blk s3 H3 scope ce fp) rfl rfl rfl hc i [] s5 _ H5 (fun _ _ => False) I5 (stat I5 n5) st5 go
      refine thnF ti fun r s6 ⟨u, hr, h6⟩ => ?_
      subst hr
      refine thnF h6 fun _ s7 ⟨x, H7, I7, r7, y7, st7, n7⟩ => ?_
      have I7' := I7.pinned (stat I7 n7) (T.obj _ _ st7)
      refine thnF (pg _ s7 _ H7 x u _ I7' r7 (step x H7 y7)) fun _ s8 ⟨σ8, H8, I8, hw8, q8⟩ => ?_
      refine thnF (pt _ s8 σ8 H8 _ I8 q8) fun b s9 ⟨H9, I9, q9⟩ => ?_
      -- the turn's end
      have fin : ∀ {s' : Shared} {H' : Hp}, Inv (X.blk s3 H3 scope ce fp) ([] ++ pinsAt fp s7.heap) σ8 H' s' → Nx H' → ∃ m, m < n ∧ ∃ i H', Inv (X.blk s3 H3 scope ce fp) [] (wipe σ (own.map (·.2))) H' s' ∧ tn i s'.heap ∧ (∀ b ∈ fp, H' b = none) ∧ W i m H' := fun {s' H'} I' nx => by
        obtain ⟨m', hm, w'⟩ := hNx H' nx
        have pin' : ∀ b ∈ fp, ∀ o, s7.heap.get? b = some o → s'.heap.get? b = some o ∧ H' b = none := fun b hb o e =>
          let z := I'.pin (b, o) (List.mem_append_right _ (List.mem_append_right _ (mem_pinsAt hb e)))
          ⟨z.1, z.2.1⟩
        have hl : (wipe σ (own.map (·.2))).length = σ8.length := by rw [← hw8, wipe_length]
        refine ⟨m', hm, i + 1, H', (I'.unpinned (pins := [])).weak hl (fun j v e => ?_), T.keep _ _ _ st7 fun b hb o e => (pin' b hb o e).1, fun b hb => ?_, w'⟩
        · rw [← hw8] at e
          exact (wipe_some e).1
        · obtain ⟨o, e, _⟩ := T.obj _ _ st7 b hb
          exact (pin' b hb o e).2
      cases b with
      | false =>
        simp only [Bool.false_eq_true, if_false] at q9 ⊢
        exact fin I9 q9
      | true =>
        simp only [if_true] at q9 ⊢
        refine thnF (pe _ s9 σ8 H9 _ I9 q9) fun z s10 ⟨yv, H10, I10, r10, acc, hD10, hz10, nx⟩ => ?_
        exact app_ok (X := X.blk s3 H3 scope ce fp) I10 hD10 hz10 r10 fun s11 I11 => fin I11 nx
  exact codeAny_compStart_list loop (T.self X.A 0 _ _ _ st4 loop)
/-- as a value -/
theorem pe_lc {elt tg iter : Expr} {ifs : List Expr} {scope : Scope} {own : List (Str × Nat)} {pos : Pos} {wi : TI} {g : TG} {tt : TT} {te : TE} (hc : X.calm = true) (hN : X.N.Nodup) (hi : PI X tg iter wi) (ok : BlkOk X.N X.env.scope scope own)
    (hg : ∀ (s : Shared) (H : Hp) (C : Addr) (cl : List (Str × Addr)) (fp : List Addr), PG (X.blk s H scope (compEnvC scope cl C X.env) fp) tg g) (ht : ∀ (s : Shared) (H : Hp) (C : Addr) (cl : List (Str × Addr)) (fp : List Addr), PTs (X.blk s H scope (compEnvC scope cl C X.env) fp) ifs tt)
    (he : ∀ (s : Shared) (H : Hp) (C : Addr) (cl : List (Str × Addr)) (fp : List Addr), PE (X.blk s H scope (compEnvC scope cl C X.env) fp) elt te) (hs : ∀ x, foldedSetIterable iter X.env x = pure x := by intro _; rfl) :
    PE X (.ListComp elt [⟨tg, iter, ifs, 0⟩] scope pos) (tLc wi g tt te (own.map (·.2))) := by
  intro pins s σ H Q I h
  rw [eval_ListComp]
  refine lc_core hc hN I hi ok hg ht he hs h fun D C s' m H' I' q hn f => ⟨m, hn, fun h'' sb => ?_⟩
  obtain ⟨f0, f1, f2, f3, f4, f5⟩ := f
  exact ⟨.ref D, H', I'.turned (t' := s'.toks) (fun b o hb e => (sb.2 b hb).trans e) f0 f1 f3 f4 f5, rfl, q⟩
end
end L2
namespace L2
open PySem PySem.Spec PyProof.Rows
section
variable {prog : Program} {w : World} {A : Around} {R : Result → Shared → Prop} {s : Shared} {elt t0 i0 t1 i1 : Expr} {ifs0 ifs1 : List Expr} {scope : Scope} {pos : Pos} {it acc : Value} {env : Env}
end
section
variable {X : Cx}
end
end L2
namespace L2
open PySem PySem.Spec PyProof.Rows
section
variable {κ : Type} [DecidableEq κ]
/-- in its place, or at the end -/
def putK (kvs : List (κ × V)) (k : κ) (v : V) : List (κ × V) :=
  if (kvs.any fun kv => decide (kv.1 = k)) = true then kvs.map (fun kv => if kv.1 = k then (kv.1, v) else kv) else kvs ++ [(k, v)]
def dropK (kvs : List (κ × V)) (k : κ) : List (κ × V) := kvs.filter fun kv => decide (kv.1 ≠ k)
theorem RelO.getD {o : Option V} {u : Option Value} {d : V} {d' : Value} (r : RelO o u) (rd : RelV d d') : RelV (o.getD d) (u.getD d') := by
  cases o with
  | none => cases u with
    | none => exact rd
    | some _ => exact (show False from r).elim
  | some _ => cases u with
    | none => exact (show False from r).elim
    | some _ => exact r
theorem KV.any {kvs : List (κ × V)} {vs : List (κ × Value)} (r : KV kvs vs) (k : κ) : (kvs.any fun kv => decide (kv.1 = k)) = vs.any fun kv => decide (kv.1 = k) := by
  unfold KV at r
  induction r with
  | nil => rfl
  | cons h t ih => rw [List.any_cons, List.any_cons, ih, h.1]
theorem KV.repl {kvs : List (κ × V)} {vs : List (κ × Value)} (r : KV kvs vs) (k : κ) {y : V} {u : Value} (ry : RelV y u) :
    KV (kvs.map fun kv => if kv.1 = k then (kv.1, y) else kv) (vs.map fun kv => if kv.1 = k then (kv.1, u) else kv) := by
  unfold KV at r ⊢
  induction r with
  | nil => exact .nil
  | @cons p q ps qs h t ih =>
    rw [List.map_cons, List.map_cons]
    refine .cons ?_ ih
    obtain ⟨h1, h2⟩ := h
    by_cases e : p.1 = k
    · rw [if_pos e, if_pos (h1.symm.trans e)]; exact ⟨h1, ry⟩
    · rw [if_neg e, if_neg (fun z => e (h1.trans z))]; exact ⟨h1, h2⟩
theorem KV.put {kvs : List (κ × V)} {vs : List (κ × Value)} (r : KV kvs vs) (k : κ) {y : V} {u : Value} (ry : RelV y u) : KV (putK kvs k y) (stored vs k u) := by
  unfold putK stored
  rw [r.any k]
  by_cases e : (vs.any fun kv => decide (kv.1 = k)) = true
  · rw [if_pos e, if_pos e]; exact r.repl k ry
  · rw [if_neg e, if_neg e]; exact Paired.snoc r ⟨rfl, ry⟩
theorem KV.drop {kvs : List (κ × V)} {vs : List (κ × Value)} (r : KV kvs vs) (k : κ) : KV (dropK kvs k) (without vs k) := by
  unfold KV at r ⊢
  unfold dropK without
  induction r with
  | nil => exact .nil
  | @cons p q ps qs h t ih =>
    obtain ⟨h1, h2⟩ := h
    rw [List.filter_cons, List.filter_cons]
    by_cases e : p.1 = k
    · have a : ¬ decide (p.1 ≠ k) = true := by simp [e]
      have b : ¬ decide (q.1 ≠ k) = true := by simp [h1.symm.trans e]
      rw [if_neg a, if_neg b]; exact ih
    · have e' : ¬ q.1 = k := fun z => e (h1.trans z)
      have a : decide (p.1 ≠ k) = true := by simp [e]
      have b : decide (q.1 ≠ k) = true := by simp [e']
      rw [if_pos a, if_pos b]; exact .cons ⟨h1, h2⟩ ih
theorem KV.keys {kvs : List (κ × V)} {vs : List (κ × Value)} (r : KV kvs vs) : kvs.map (·.1) = vs.map (·.1) := by
  unfold KV at r
  induction r with
  | nil => rfl
  | cons h t ih => rw [List.map_cons, List.map_cons, ih, h.1]
theorem KV.length {kvs : List (κ × V)} {vs : List (κ × Value)} (r : KV kvs vs) : kvs.length = vs.length := Paired.length r
end
section
variable {P : Program} {w : World} {H : Hp} {h : Heap} {a : Addr}
end
section
variable {X : Cx} {pins : List (Addr × Obj)} {σ : St} {H : Hp} {s : Shared} {a : Addr} {y v : V} {u r : Value} {o : Option V} {A : Around} {E : Value → Shared → Prop}
end
section
variable {X : Cx} {pins : List (Addr × Obj)} {σ : St} {H : Hp} {s : Shared} {a : Addr} {kvs : List (Key × V)} {k : Key} {u : Value} {A : Around} {E : Value → Shared → Prop}
end
section
variable {X : Cx} {o i e value : Expr} {pos pos' tpos : Pos} {td ty tv : TE}
end
section
variable {X : Cx} {pos : Pos}
end
section
variable {X : Cx} {pins : List (Addr × Obj)} {σ : St} {H : Hp} {s : Shared} {a : Addr} {y d : V} {u r : Value} {o : Option V} {A : Around} {E : Value → Shared → Prop}
end
section
variable {X : Cx} {o e f : Expr} {apos cpos : Pos} {td ty tx : TE}
end
section
variable {X : Cx} {pins : List (Addr × Obj)} {σ : St} {H : Hp} {s : Shared} {a : Addr} {kvs : List (Key × V)} {A : Around} {E : Value → Shared → Prop}
end
section
variable {X : Cx} {pins : List (Addr × Obj)} {σ : St} {H : Hp} {s : Shared} {a : Addr} {y : V} {u : Value} {A : Around} {E : Value → Shared → Prop}
end
end L2
namespace L2
open PySem PySem.Spec PyProof.Rows
section
variable {prog : Program} {w : World} {A : Around} {E : Value → Shared → Prop}
end
section
variable {X : Cx}
end
end L2
namespace L2
open PySem PySem.Spec PyProof.Rows
theorem boot_reversed5 : bootBuiltins "reversed" = some (.type "reversed") := by decide +kernel
section
variable {X : Cx} {pins : List (Addr × Obj)} {σ : St} {H : Hp} {s : Shared} {h' : Heap}
theorem Inv.nofrz {d : Addr} {u : HO} (I : Inv X pins σ H s) (h : H d = some u) (mu : Mut (some u)) : ∀ o' u', X.H_0 d ≠ some (.frz o' u') := fun o' u' e => by
  have q := I.base.frzs d o' u' e
  rw [h] at q
  cases q
  exact mu
end
section
variable {X : Cx}
theorem pi_one {tg : Expr} {pins : List (Addr × Obj)} {σ : St} {H : Hp} {s : Shared} {R : It → Hp → Prop} {J : It} {tn : Nat → Heap → Prop} {tk : Nat} (I : Inv X pins σ H s) (o : Obj)
    (T : Turn X.prog X.w X.K tg J [s.heap.objs.size] s.heap.objs.size tn) (st : tn 0 (s.heap.push o)) (q : R J H) : PIE X pins σ tg R (.ref s.heap.objs.size) { s with heap := s.heap.push o, toks := tk } := by
  refine ⟨s.heap.objs.size, [s.heap.objs.size], tn, J, H, rfl, I.kept fun b ob e => Heap.get?_push_of_some _ e, T, st, fun b hb => ?_, q⟩
  have e : b = s.heap.objs.size := by simpa using hb
  subst e
  exact I.fpOk (Nat.le_refl _) (I.hok.fresh (Nat.le_refl _))
end
section
variable {X : Cx} {tg : Expr}
end
/-- the list at a (n items at the start, which the loop leaves there), from its end -/
def Itv (K : PySem.W.Frag) (a : Addr) (n : Nat) : It :=
  ⟨fun i H => i < n ∧ ∃ (xs : List V) (x : V), SqL K H a xs ∧ xs[n - 1 - i]? = some x, fun i H x H' => H' = H ∧ ∀ xs, SqL K H a xs → xs[n - 1 - i]? = some x, fun i _ => n ≤ i⟩
theorem turn_rev {P : Program} {w : World} {K : PySem.W.Frag} {tg : Expr} (a it : Addr) (n : Nat) : Turn P w K tg (Itv K a n) [it] it (fun i h => i ≤ n ∧ h.IsRevIter it a ((n : Int) - 1 - (i : Nat))) where
  mem := by simp
  obj := fun i h st b hb => by
    have e : b = it := by simpa using hb
    subst e
    obtain ⟨_, o, e, c, d⟩ := st
    exact ⟨o, e, fun v z => by rw [d] at z; cases z⟩
  keep := fun i h h' st k => ⟨st.1, st.2.at fun o e => k it (by simp) o e⟩
  item := by
    intro X hP hw hK hc i pins s σ H E I hf st hg
    subst hP hw hK
    obtain ⟨hin, xs, x, hq, hx⟩ := hg
    obtain ⟨its, rv, p, hz⟩ := I.list hq
    obtain ⟨u, hu, ru⟩ := rv.get hx
    obtain ⟨f0, f1, f2, f3, f4, f5⟩ := hf it (by simp)
    obtain ⟨_, hit⟩ := st
    have e1 : (n : Int) - 1 - ((i : Nat) : Int) = ((n - 1 - i : Nat) : Int) := by omega
    rw [e1] at hit
    refine wpAny_pyNext_rev_item hit p.isList (x := u) (by simpa using hu) fun h' st' sb => ?_
    have e2 : ((n - 1 - i : Nat) : Int) - 1 = (n : Int) - 1 - ((i + 1 : Nat) : Int) := by omega
    rw [e2] at st'
    have I1 : Inv X pins σ H { s with heap := h' } := I.turned (t' := s.toks) (fun b o hb e => (sb.2 b hb).trans e) f0 f1 f3 f4 f5
    obtain ⟨o, e, c, d⟩ := id st'
    exact ⟨u, rfl, go_of (s := { s with heap := h' }) e c d (by decide) ⟨x, H, I1, ru, ⟨rfl, fun ys hy => by rw [I.list_inj hy hq]; exact hx⟩, ⟨hin, st'⟩, fun b hb => (hf b hb).1⟩⟩
  done := by
    intro X hP hw hK hc i pins s σ H E I hf st hg
    subst hP hw hK
    obtain ⟨f0, f1, f2, f3, f4, f5⟩ := hf it (by simp)
    obtain ⟨hin, hit⟩ := st
    have hge : n ≤ i := hg
    have e1 : (n : Int) - 1 - ((i : Nat) : Int) = -1 := by omega
    rw [e1] at hit
    exact wpAny_pyNext_rev_end (I.ok.hd hc) hit fun h' eb => ⟨rfl, I.turned (t' := s.toks) (fun b o hb e => eb b o hb e) f0 f1 f3 f4 f5⟩
  self := fun A i s Q E st h => wpAny_pyIter_revIter st.2 h
def iRev (K : PySem.W.Frag) (ta : TA) : TI := fun σ H R => ta σ H fun vs H1 => ∃ (a : Addr) (xs : List V), vs = [.ref a] ∧ SqL K H1 a xs ∧ R (Itv K a xs.length) H1
section
variable {X : Cx} {tg : Expr}
theorem pi_reversed {e : Expr} {ta : TA} {p pos : Pos} (hg : Gl X "reversed") (hm : X.mg "reversed" = none) (ha : PA X [e] ta) (hs : starEach [e] X.env = [(false, eval e X.env)] := by rfl) : PI X tg (.Call (.Name "reversed" p) [e] [] pos) (iRev X.K ta) := by
  intro pins s σ H R I h
  refine Call_ (ld_blt I hg hm boot_reversed5 (PyProof.Rows.callWith_type1 (thn (ha pos pins s σ H _ I h) fun us s1 ⟨vs, H1, I1, r1, q1⟩ => ?_) hs rfl))
  obtain ⟨a, xs, e, hq, q⟩ := q1
  subst e
  cases r1 with
  | cons r rr =>
    cases rr
    cases r
    obtain ⟨its, rv, p', hz⟩ := I1.list hq
    have hl := rv.length
    have e1 : ((its.toArray.size : Nat) : Int) - 1 = (xs.length : Int) - 1 - ((0 : Nat) : Int) := by simp only [List.size_toArray]; omega
    refine call_reversed_list p'.isList (wpAny_pyIter_revIter (l := a) (i := ((its.toArray.size : Nat) : Int) - 1) ⟨_, Heap.get?_push_size _ rfl, rfl, rfl⟩ ?_)
    refine pi_one (tk := s1.toks) I1 _ (turn_rev a _ xs.length) ⟨Nat.zero_le _, ?_⟩ q
    rw [← e1]
    exact ⟨_, Heap.get?_push_size _ rfl, rfl, rfl⟩
end
section
variable {prog : Program} {w : World} {A : Around} {E : Value → Shared → Prop} {s : Shared}
end
section
variable {X : Cx} {pins : List (Addr × Obj)} {σ : St} {H : Hp} {s : Shared} {d : Addr} {o : Obj}
end
section
variable {P : Program} {w : World} {K : PySem.W.Frag} {tg : Expr} {d : Addr} {o : Obj} {es : Array DictEntry} {ep : Nat}
end
section
variable {X : Cx} {tg e : Expr} {td : TE} {apos cpos : Pos}
end
end L2
section 
namespace Bits
open PySem PyProof.Rows
/-- x & ((1 << k) - 1) -/
theorem bitAnd_mask {x : Int} (k : Nat) (hx : 0 ≤ x) : Builtin.bitAnd x (2 ^ k - 1) = x % 2 ^ k := by
  obtain ⟨n, rfl⟩ := Int.eq_ofNat_of_zero_le hx
  have hp : 0 < 2 ^ k := Nat.two_pow_pos k
  rw [two_pow_cast]
  have e : ((2 ^ k : Nat) : Int) - 1 = ((2 ^ k - 1 : Nat) : Int) := by
    generalize (2 : Nat) ^ k = m at hp
    omega
  rw [e, bitAnd_pp (by omega) (by omega), Int.toNat_natCast, Int.toNat_natCast, Nat.and_two_pow_sub_one_eq_mod]
  first
    | rfl
    | exact Int.natCast_emod _ _
    | simp
end Bits
end 
section 
namespace TL
open PySem PySem.Builtin PySem.Builtin.Str PySem.StrLaws
abbrev tl (x : Str) : List Nat := x.cps.toList
/-- S stands at the head of l -/
def pre (S l : List Nat) : Bool := l.take S.length == S
/-- what stands before the first S, and behind it -/
def par (S : List Nat) : List Nat → List Nat → Option (List Nat × List Nat)
  | _, [] => none
  | acc, c :: r => if pre S (c :: r) = true then some (acc, (c :: r).drop S.length) else par S (acc ++ [c]) r
end TL
end 
namespace L2
open PySem PySem.Spec PyProof.Rows
section
variable {X : Cx} {pins : List (Addr × Obj)} {σ : St} {H : Hp} {s : Shared} {Q : VK}
end
section
variable {X : Cx}
end
section
variable {X : Cx} {o e : Expr} {to te : TE}
end
end L2
namespace L2
open PySem PySem.Spec PyProof.Rows
section
variable {X : Cx}
end
end L2
namespace Att
open PySem PySem.W PySem.Calls PyProof.Rows
section
variable {prog : Program} {w : World} {A : Around} {E : Value → Shared → Prop} {s : Shared} {K : Frag}
end
end Att
namespace L2
open PySem PySem.Spec PyProof.Rows
end L2
namespace L2
open PySem PySem.Spec PyProof.Rows
end L2
namespace L2
open PySem PySem.Spec PyProof.Rows
/-- the j-th statement of a class's body -/
def inClass (s : Stmt) (j : Nat) : Stmt := match s with
  | .ClassDef _ _ _ body _ _ _ _ _ _ _ => body.getD j (.Pass ⟨0, 0, 0, 0⟩)
  | _ => .Pass ⟨0, 0, 0, 0⟩
def defArgs (s : Stmt) : Arguments := match s with
  | .FunctionDef _ a _ _ _ _ _ _ _ _ => a
  | _ => { posonlyargs := [], args := [], vararg := none, kwonlyargs := [], kw_defaults := [], kwarg := none, defaults := [] }
def defBody (s : Stmt) : List Stmt := match s with
  | .FunctionDef _ _ b _ _ _ _ _ _ _ => b
  | _ => []
def defScope (s : Stmt) : Scope := match s with
  | .FunctionDef _ _ _ _ _ _ sc _ _ _ => sc
  | _ => { kind := .function, names := [], isGenerator := false, isCoroutine := false }
abbrev CX0 : CXT := fun _ _ _ _ _ _ => False
abbrev E0 : XK := fun _ _ _ => False
theorem pass0 {X : Cx} : Passes CX0 X E0 := fun _ _ _ _ _ _ _ h => h.elim
structure Fun (K : PySem.W.Frag) (x qual : Str) (st : Stmt) (f : Addr) (fd : FuncData) : Prop where
  ex : ∃ (oc : Value) (od : Option Addr) (kV doc pm : Value) (an : Option Addr) (cdv ct : Value) (osl : Array (Option Value)),
    fd = PySem.W.fnOf x qual (defArgs st) (defBody st) (defScope st) .none kV doc pm an cdv ct ∧ K.lookup f = some ⟨oc, od, .func fd, osl⟩ ∧ PySem.W.codeIn K cdv qual = true
  kp : PySem.W.keepIn K (.ref f) = true
section
variable {P : Program} {w : World} {K : PySem.W.Frag} {mg : Str → Option Value} {base : Heap}
/-- THE RULE for a def: its body as a term of rules, and the reading of that term -/
theorem Fun.ok {x qual : Str} {st : Stmt} {f : Addr} {fd : FuncData} {N ps : List Str} {k : Nat} {sp : Sp} (F : Fun K x qual st f fd) (S : FnScope N ps (defScope st)) (len : ∀ vs H Q E, sp vs H Q E → vs.length = ps.length)
    (hbody : ∀ (cdv : Value) (A : Around) (outer : List Env) (s : Shared) (H : Hp) (vs : List V) (Q : VK) (E : XK), Room k (A.deeper (envOfC qual (defScope st) s.heap.objs.size f cdv)) → sp vs H Q E →
      ∃ t, PSs (cxOf CX0 P w K mg base N qual (defScope st) f cdv A outer s H E).nox (defBody st) t ∧ t { nx := fun _ H' => Q .non H', rt := Q } (start N vs) H) : FnOk P w K mg base CX0 (k + 1) f fd ps sp := by
  obtain ⟨oc, od, kV, doc, pm, an, cdv, ct, osl, rfl, lk, hcd⟩ := F.ex
  refine fn_of lk hcd S len fun A outer s H vs Q E hr hsp => ?_
  obtain ⟨t, h, q⟩ := hbody cdv A outer s H vs Q E hr hsp
  exact ⟨t, h.nox, q⟩
/-- how its arguments bind (no defaults): h is «fun _ _ _ _ _ _ us hl => match us, hl with | [_, _], _ => rfl», one _ a parameter -/
theorem Fun.binds {x qual : Str} {st : Stmt} {f : Addr} {fd : FuncData} {ps : List Str} (F : Fun K x qual st f fd)
    (h : ∀ (kV doc pm : Value) (an : Option Addr) (cdv ct : Value) (us : List Value), us.length = ps.length → bindArgs (PySem.W.fnOf x qual (defArgs st) (defBody st) (defScope st) .none kV doc pm an cdv ct) ⟨us, []⟩ = pure (ps.zip us)) : Binds K fd ps [] := by
  obtain ⟨oc, od, kV, doc, pm, an, cdv, ct, osl, rfl, lk, hcd⟩ := F.ex
  exact .all (h kV doc pm an cdv ct)
theorem fun_mk {x qual : Str} {st : Stmt} {f : Addr} {oc : Value} {od an : Option Addr} {osl : Array (Option Value)} {kV doc pm cdv ct : Value} (l : K.lookup f = some ⟨oc, od, .func (PySem.W.fnOf x qual (defArgs st) (defBody st) (defScope st) .none kV doc pm an cdv ct), osl⟩)
    (c : PySem.W.codeIn K cdv qual = true) (k : PySem.W.keepIn K (.ref f) = true) : Fun K x qual st f (PySem.W.fnOf x qual (defArgs st) (defBody st) (defScope st) .none kV doc pm an cdv ct) := ⟨⟨oc, od, kV, doc, pm, an, cdv, ct, osl, rfl, l, c⟩, k⟩
end
section
variable {X : Cx}
theorem pv (i : Nat) {x : Str} {pos : Pos} (hN : X.N[i]? = some x := by rfl) (hv : Vis X.env.scope x := by first | exact Or.inl rfl | exact Or.inr (Or.inl rfl) | exact Or.inr (Or.inr rfl)) (hd : (x == ("__debug__" : Str)) = false := by decide)
    (hcd : (x == ("__classdict__" : Str)) = false := by decide) : PE X (.Name x pos) (tVar i) := pe_var hN hv hd hcd
end
section
variable {κ : Type} [DecidableEq κ]
end
end L2

section
set_option Elab.async false
set_option linter.all false
set_option maxRecDepth 100000
set_option maxHeartbeats 2000000
namespace L2
open PySem PySem.Spec PyProof.Rows
open PySem.W (WData Codec OpenSpec Well WellAll ReadsW ReadsAllW)
/-! ### an answer as data -/
mutual
/-- x stands for the datum d, lists and tuples all the way -/
inductive Dw (K : PySem.W.Frag) (H : Hp) : V → WData → Prop
  | non : Dw K H .non .none
  | bl (b : Bool) : Dw K H (.bl b) (.bool b)
  | int (i : Int) : Dw K H (.int i) (.int i)
  | str (x : Str) : Dw K H (.str x) (.str x)
  | byt (b : Array UInt8) : Dw K H (.byt b) (.bytes b.toList)
  | lst {a : Addr} {xs : List V} {ds : List WData} : SqL K H a xs → DwAll K H xs ds → Dw K H (.ref a) (.list ds)
  | tup {a : Addr} {xs : List V} {ds : List WData} : SqT K H a xs → DwAll K H xs ds → Dw K H (.ref a) (.tuple ds)
inductive DwAll (K : PySem.W.Frag) (H : Hp) : List V → List WData → Prop
  | nil : DwAll K H [] []
  | cons {v : V} {vs : List V} {d : WData} {ds : List WData} : Dw K H v d → DwAll K H vs ds → DwAll K H (v :: vs) (d :: ds)
end
theorem dw_ints {K : PySem.W.Frag} {H : Hp} : ∀ ns : List Int, DwAll K H (ns.map V.int) (ns.map WData.int)
  | [] => .nil
  | n :: r => .cons (.int n) (dw_ints r)
theorem ints_dw {K : PySem.W.Frag} {H : Hp} : ∀ (ns : List Int) (xs : List V), DwAll K H xs (ns.map WData.int) → xs = ns.map V.int
  | [], xs, h => by
    cases h
    rfl
  | n :: r, xs, h => by
    cases h with
    | cons h1 h2 =>
      cases h1
      rw [ints_dw r _ h2] <;> rfl
section
variable {P : Program} {w : World} {K : PySem.W.Frag} {H : Hp} {h : Heap} {R : PySem.W.WRecords} {cl : Str → Option Addr}
theorem sqL_at {a : Addr} {xs : List V} (hok : HOk P w H h) (KX : K.In h) (q : SqL K H a xs) : ∃ (its : List Value) (o : Obj) (n : Nat), Vals xs its ∧ h.get? a = some o ∧ o.cls = .type "list" ∧ o.data = .seq its.toArray n := by
  rcases q with q | ⟨o, its, n, e, hc, _, hd, _, hv⟩
  · obtain ⟨_, its, n, hv, e⟩ := (show ObjOk P w H h a (.lst xs) from q.ok hok)
    exact ⟨its, _, n, hv, e, rfl, rfl⟩
  · exact ⟨its.toList, o, n, hv, KX _ _ e, hc, by simp [hd]⟩
theorem sqT_at {a : Addr} {xs : List V} (hok : HOk P w H h) (KX : K.In h) (q : SqT K H a xs) : ∃ (its : List Value) (o : Obj) (n : Nat), Vals xs its ∧ h.get? a = some o ∧ o.cls = .type "tuple" ∧ o.data = .seq its.toArray n := by
  rcases q with q | ⟨o, its, n, e, hc, hd, _, hv⟩
  · obtain ⟨_, its, hv, o, e, hc, n, hd⟩ := (show ObjOk P w H h a (.tup xs) from q.ok hok)
    exact ⟨its, o, n, hv, e, hc, hd⟩
  · exact ⟨its.toList, o, n, hv, KX _ _ e, hc, by simp [hd]⟩
mutual
theorem Dw.reads (hok : HOk P w H h) (KX : K.In h) : ∀ (d : WData) (v : V) (u : Value), Dw K H v d → RelV v u → ∃ as, ReadsW R cl h u d as
  | .none, _, _, x, r => by
    cases x
    cases r
    exact ⟨_, ReadsW.none⟩
  | .bool b, _, _, x, r => by
    cases x
    cases r
    exact ⟨_, ReadsW.bool b⟩
  | .int i, _, _, x, r => by
    cases x
    obtain ⟨t, rfl⟩ := r
    exact ⟨_, ReadsW.int i t⟩
  | .str s, _, _, x, r => by
    cases x
    obtain ⟨t, rfl⟩ := r
    exact ⟨_, ReadsW.str s t⟩
  | .bytes b, _, _, x, r => by
    cases x
    obtain ⟨t, rfl⟩ := r
    exact ⟨_, ReadsW.bytes _ t⟩
  | .list ds, _, _, x, r => by
    cases x with
    | lst hs ha =>
      cases r
      obtain ⟨its, o, n, rv, ho, hc, hd⟩ := sqL_at hok KX hs
      obtain ⟨as, hr⟩ := Dw.readsAll hok KX ds _ its ha rv
      exact ⟨_, ReadsW.list ho hc hd hr⟩
  | .tuple ds, _, _, x, r => by
    cases x with
    | tup hs ha =>
      cases r
      obtain ⟨its, o, n, rv, ho, hc, hd⟩ := sqT_at hok KX hs
      obtain ⟨as, hr⟩ := Dw.readsAll hok KX ds _ its ha rv
      exact ⟨_, ReadsW.tuple ho hc hd hr⟩
  | .float _, _, _, x, _ => by cases x
  | .dict _, _, _, x, _ => by cases x
  | .bytearray _, _, _, x, _ => by cases x
  | .set _, _, _, x, _ => by cases x
  | .frozenset _, _, _, x, _ => by cases x
  | .obj _ _, _, _, x, _ => by cases x
theorem Dw.readsAll (hok : HOk P w H h) (KX : K.In h) : ∀ (ds : List WData) (vs : List V) (us : List Value), DwAll K H vs ds → Vals vs us → ∃ as, ReadsAllW R cl h us ds as
  | [], _, _, x, r => by
    cases x
    cases r
    exact ⟨_, ReadsAllW.nil⟩
  | d :: ds, _, _, x, r => by
    cases x with
    | cons h1 h2 =>
      cases r with
      | cons r1 r2 =>
        obtain ⟨as, q1⟩ := Dw.reads hok KX d _ _ h1 r1
        obtain ⟨bs, q2⟩ := Dw.readsAll hok KX ds _ _ h2 r2
        exact ⟨_, ReadsAllW.cons q1 q2⟩
end
end
/-! ### the arguments -/
mutual
/-- data that a codec tells -/
def plW : WData → Bool
  | .none => true
  | .bool _ => true
  | .int _ => true
  | .str _ => true
  | .bytes _ => true
  | .list xs => plWs xs
  | .tuple xs => plWs xs
  | _ => false
def plWs : List WData → Bool
  | [] => true
  | x :: r => plW x && plWs r
end
theorem plWs_map {α : Type} {f : α → WData} (h : ∀ a, plW (f a) = true) : ∀ l : List α, plWs (l.map f) = true
  | [] => rfl
  | x :: r => by
    show (plW (f x) && plWs (r.map f)) = true
    rw [h x, plWs_map h r] <;> rfl
theorem pl_enc : ∀ (c : Codec) (a : c.denote), plW (c.enc a) = true
  | .unit, _ => rfl
  | .bool, _ => rfl
  | .int _ _, _ => rfl
  | .nat _ _, _ => rfl
  | .u8, _ => rfl
  | .bytes _ _, _ => rfl
  | .text _ _ _ _, _ => rfl
  | .list _ _ c, a => plWs_map (fun x => pl_enc c x) a
  | .pair c d, a => by
    show (plW (c.enc a.1) && (plW (d.enc a.2) && true)) = true
    rw [pl_enc c a.1, pl_enc d a.2] <;> rfl
  | .triple c d e, a => by
    show (plW (c.enc a.1) && (plW (d.enc a.2.1) && (plW (e.enc a.2.2) && true))) = true
    rw [pl_enc c a.1, pl_enc d a.2.1, pl_enc e a.2.2] <;> rfl
  | .option c, none => rfl
  | .option c, some x => pl_enc c x
theorem pl_encAll : ∀ (cs : List Codec) (a : Codec.denoteAll cs), plWs (Codec.encAll cs a) = true
  | [], _ => rfl
  | c :: cs, a => by
    show (plW (c.enc a.1) && plWs (Codec.encAll cs a.2)) = true
    rw [pl_enc c a.1, pl_encAll cs a.2] <;> rfl
theorem weight_mem : ∀ {xs : List WData} {d : WData}, d ∈ xs → d.weight ≤ WData.weightAll xs
  | [], d, h => absurd h (by simp)
  | x :: r, d, h => by
    show d.weight ≤ x.weight + 1 + WData.weightAll r
    rcases List.mem_cons.mp h with e | m
    · rw [e]
      omega
    · have z := weight_mem m
      omega
def toV : Value → V
  | .none => .non
  | .bool b => .bl b
  | .int i _ => .int i
  | .str x _ => .str x
  | .bytes b _ => .byt b
  | .ref a => .ref a
  | _ => .non
/-- a value of the arguments, its objects among A -/
def OkU (A : List Addr) : Value → Prop
  | .none => True
  | .bool _ => True
  | .int _ _ => True
  | .str _ _ => True
  | .bytes _ _ => True
  | .ref a => a ∈ A
  | _ => False
theorem OkU.mono {A B : List Addr} (h : ∀ a ∈ A, a ∈ B) : ∀ {u : Value}, OkU A u → OkU B u := fun {u} x => by
  cases u with
  | ref a => exact h a x
  | none => trivial
  | bool b => trivial
  | int i t => trivial
  | str s t => trivial
  | bytes b t => trivial
  | _ => exact False.elim x
theorem relV_toV {A : List Addr} {u : Value} (x : OkU A u) : RelV (toV u) u := by
  cases u with
  | ref a => rfl
  | none => rfl
  | bool b => rfl
  | int i t => exact ⟨t, rfl⟩
  | str s t => exact ⟨t, rfl⟩
  | bytes b t => exact ⟨t, rfl⟩
  | _ => exact False.elim x
theorem vals_toV {A : List Addr} : ∀ {vs : List Value}, (∀ u ∈ vs, OkU A u) → Vals (vs.map toV) vs
  | [], _ => .nil
  | u :: r, h => .cons (relV_toV (h u (List.mem_cons_self ..))) (vals_toV fun x hx => h x (List.mem_cons_of_mem _ hx))
/-- an object of the arguments -/
def ArgOb (h : Heap) (A : List Addr) (a : Addr) : Prop := ∃ vs : List Value, vs.length ≤ sizeLine ∧ (∀ u ∈ vs, OkU A u) ∧
  (h.get? a = some { cls := .type "list", data := .seq vs.toArray } ∨ h.get? a = some { cls := .type "tuple", data := .seq vs.toArray })
theorem ArgOb.mono {h : Heap} {A B : List Addr} {a : Addr} (k : ∀ a ∈ A, a ∈ B) (x : ArgOb h A a) : ArgOb h B a := by
  obtain ⟨vs, h1, h2, h3⟩ := x
  exact ⟨vs, h1, fun u hu => (h2 u hu).mono k, h3⟩
theorem wellAll_len {P : Params} {h : Heap} : ∀ {vs : List Value} {ds : List WData}, WellAll P h vs ds → vs.length = ds.length
  | _, _, .nil => rfl
  | _, _, .cons _ b => by
    show _ + 1 = _ + 1
    rw [wellAll_len b]
theorem well_list {P : Params} {h : Heap} {v : Value} {ds : List WData} (x : Well P h v (.list ds)) : ∃ (a : Addr) (vs : List Value), v = .ref a ∧ h.get? a = some { cls := .type "list", data := .seq vs.toArray } ∧ WellAll P h vs ds := by
  cases x with
  | list ho hall => exact ⟨_, _, rfl, ho, hall⟩
theorem well_tuple {P : Params} {h : Heap} {v : Value} {ds : List WData} (x : Well P h v (.tuple ds)) : ∃ (a : Addr) (vs : List Value), v = .ref a ∧ h.get? a = some { cls := .type "tuple", data := .seq vs.toArray } ∧ WellAll P h vs ds := by
  cases x with
  | tuple ho hall => exact ⟨_, _, rfl, ho, hall⟩
theorem well_cons {P : Params} {h : Heap} {us : List Value} {d : WData} {ds : List WData} (x : WellAll P h us (d :: ds)) : ∃ (v : Value) (vs : List Value), us = v :: vs ∧ Well P h v d ∧ WellAll P h vs ds := by
  cases x with
  | cons a b => exact ⟨_, _, rfl, a, b⟩
theorem line_of {n : Nat} (h : n ≤ 1048576) : n ≤ sizeLine := Nat.le_trans h (by decide)
section
variable {P : Params} {h : Heap}
mutual
theorem area_one : ∀ (d : WData) (v : Value), Well P h v d → plW d = true → d.weight ≤ 1048576 → ∃ A : List Addr, OkU A v ∧ ∀ a ∈ A, ArgOb h A a
  | .none, _, x, _, _ => by
    cases x
    exact ⟨[], trivial, fun a m => absurd m (by simp)⟩
  | .bool b, _, x, _, _ => by
    cases x
    exact ⟨[], trivial, fun a m => absurd m (by simp)⟩
  | .int i, _, x, _, _ => by
    cases x
    exact ⟨[], trivial, fun a m => absurd m (by simp)⟩
  | .str s, _, x, _, _ => by
    cases x
    exact ⟨[], trivial, fun a m => absurd m (by simp)⟩
  | .bytes b, _, x, _, _ => by
    cases x
    exact ⟨[], trivial, fun a m => absurd m (by simp)⟩
  | .list ds, _, x, p, z => by
    obtain ⟨a, vs, rfl, ho, hall⟩ := well_list x
    have z2 : WData.weightAll ds ≤ 1048576 := z
    obtain ⟨A, h1, h2⟩ := area_all ds _ hall p fun d hd => Nat.le_trans (weight_mem hd) z2
    have k : ∀ b ∈ A, b ∈ a :: A := fun b hb => List.mem_cons_of_mem _ hb
    refine ⟨a :: A, List.mem_cons_self .., fun b hb => ?_⟩
    rcases List.mem_cons.mp hb with e | m
    · rw [e]
      exact ⟨vs, line_of (by rw [wellAll_len hall]; exact Nat.le_trans (PySem.W.length_le_weightAllW ds) z2), fun u hu => (h1 u hu).mono k, .inl ho⟩
    · exact (h2 b m).mono k
  | .tuple ds, _, x, p, z => by
    obtain ⟨a, vs, rfl, ho, hall⟩ := well_tuple x
    have z2 : WData.weightAll ds ≤ 1048576 := z
    obtain ⟨A, h1, h2⟩ := area_all ds _ hall p fun d hd => Nat.le_trans (weight_mem hd) z2
    have k : ∀ b ∈ A, b ∈ a :: A := fun b hb => List.mem_cons_of_mem _ hb
    refine ⟨a :: A, List.mem_cons_self .., fun b hb => ?_⟩
    rcases List.mem_cons.mp hb with e | m
    · rw [e]
      exact ⟨vs, line_of (by rw [wellAll_len hall]; exact Nat.le_trans (PySem.W.length_le_weightAllW ds) z2), fun u hu => (h1 u hu).mono k, .inr ho⟩
    · exact (h2 b m).mono k
  | .float _, _, _, p, _ => Bool.noConfusion (show false = true from p)
  | .dict _, _, _, p, _ => Bool.noConfusion (show false = true from p)
  | .bytearray _, _, _, p, _ => Bool.noConfusion (show false = true from p)
  | .set _, _, _, p, _ => Bool.noConfusion (show false = true from p)
  | .frozenset _, _, _, p, _ => Bool.noConfusion (show false = true from p)
  | .obj _ _, _, _, p, _ => Bool.noConfusion (show false = true from p)
theorem area_all : ∀ (ds : List WData) (vs : List Value), WellAll P h vs ds → plWs ds = true → (∀ d ∈ ds, d.weight ≤ 1048576) → ∃ A : List Addr, (∀ u ∈ vs, OkU A u) ∧ ∀ a ∈ A, ArgOb h A a
  | [], _, x, _, _ => by
    cases x
    exact ⟨[], fun u m => absurd m (by simp), fun a m => absurd m (by simp)⟩
  | d :: ds, _, x, p, z => by
    obtain ⟨v, vs, rfl, x1, x2⟩ := well_cons x
    have q : plW d = true ∧ plWs ds = true := Bool.and_eq_true_iff.mp p
    obtain ⟨A, a1, a2⟩ := area_one d v x1 q.1 (z d (List.mem_cons_self ..))
    obtain ⟨B, b1, b2⟩ := area_all ds vs x2 q.2 fun e he => z e (List.mem_cons_of_mem _ he)
    have kA : ∀ b ∈ A, b ∈ A ++ B := fun b hb => List.mem_append.mpr (.inl hb)
    have kB : ∀ b ∈ B, b ∈ A ++ B := fun b hb => List.mem_append.mpr (.inr hb)
    refine ⟨A ++ B, fun u hu => ?_, fun b hb => ?_⟩
    · rcases List.mem_cons.mp hu with e | m
      · rw [e]
        exact a1.mono kA
      · exact (b1 u m).mono kB
    · rcases List.mem_append.mp hb with m | m
      · exact (a2 b m).mono kA
      · exact (b2 b m).mono kB
end
end
/-- what is tracked of an argument's object -/
def hoOf (o : Obj) : Option HO := match o.data with
  | .seq vs _ => if (o.cls == Value.type "list") = true then some (.frz o (.lst (vs.toList.map toV))) else some (.frz o (.tup (vs.toList.map toV)))
  | _ => none
def argH (K : PySem.W.Frag) (h : Heap) (A : List Addr) : Hp := fun b => if b ∈ A then (if (K.lookup b).isNone = true then (h.get? b).bind hoOf else none) else none
/-- nothing is tracked but what is known to the object -/
def OnlyF (H : Hp) : Prop := ∀ b, H b = none ∨ ∃ o u, H b = some (.frz o u)
theorem hoOf_lst (vs : List Value) : hoOf { cls := .type "list", data := .seq vs.toArray } = some (.frz { cls := .type "list", data := .seq vs.toArray } (.lst (vs.map toV))) := by
  show (if (Value.type "list" == Value.type "list") = true then some (HO.frz { cls := .type "list", data := .seq vs.toArray } (.lst (vs.toArray.toList.map toV))) else some (HO.frz { cls := .type "list", data := .seq vs.toArray } (.tup (vs.toArray.toList.map toV)))) = _
  rw [if_pos (beq_self_eq_true _)]
theorem hoOf_tup (vs : List Value) : hoOf { cls := .type "tuple", data := .seq vs.toArray } = some (.frz { cls := .type "tuple", data := .seq vs.toArray } (.tup (vs.map toV))) := by
  show (if (Value.type "tuple" == Value.type "list") = true then some (HO.frz { cls := .type "tuple", data := .seq vs.toArray } (.lst (vs.toArray.toList.map toV))) else some (HO.frz { cls := .type "tuple", data := .seq vs.toArray } (.tup (vs.toArray.toList.map toV)))) = _
  rw [if_neg (by decide)]
section
variable {P : Program} {w : World} {K : PySem.W.Frag} {h : Heap} {A : List Addr}
theorem argH_at {b : Addr} {o : Obj} (hb : b ∈ A) (hk : K.lookup b = none) (e : h.get? b = some o) : argH K h A b = hoOf o := by
  unfold argH
  rw [if_pos hb, hk, if_pos (show (none : Option Obj).isNone = true from rfl), e] <;> rfl
theorem of_argH {b : Addr} {u : HO} (q : argH K h A b = some u) : b ∈ A ∧ K.lookup b = none := by
  unfold argH at q
  by_cases hb : b ∈ A
  · rw [if_pos hb] at q
    cases hk : K.lookup b with
    | none => exact ⟨hb, rfl⟩
    | some o =>
      rw [hk, if_neg (by simp)] at q
      cases q
  · rw [if_neg hb] at q
    cases q
/-- what stands tracked -/
theorem argH_is (ar : ∀ a ∈ A, ArgOb h A a) {b : Addr} {u : HO} (q : argH K h A b = some u) : K.lookup b = none ∧ ∃ vs : List Value, vs.length ≤ sizeLine ∧ (∀ u ∈ vs, OkU A u) ∧
    ((h.get? b = some { cls := .type "list", data := .seq vs.toArray } ∧ u = .frz { cls := .type "list", data := .seq vs.toArray } (.lst (vs.map toV))) ∨
     (h.get? b = some { cls := .type "tuple", data := .seq vs.toArray } ∧ u = .frz { cls := .type "tuple", data := .seq vs.toArray } (.tup (vs.map toV)))) := by
  obtain ⟨hb, hk⟩ := of_argH q
  obtain ⟨vs, h1, h2, h3⟩ := ar b hb
  refine ⟨hk, vs, h1, h2, ?_⟩
  rcases h3 with e | e
  · rw [argH_at hb hk e, hoOf_lst] at q
    exact .inl ⟨e, (Option.some.inj q).symm⟩
  · rw [argH_at hb hk e, hoOf_tup] at q
    exact .inr ⟨e, (Option.some.inj q).symm⟩
theorem argH_only (ar : ∀ a ∈ A, ArgOb h A a) : OnlyF (argH K h A) := fun b => by
  cases q : argH K h A b with
  | none => exact .inl rfl
  | some u =>
    obtain ⟨_, vs, _, _, ⟨_, e⟩ | ⟨_, e⟩⟩ := argH_is ar q
    · exact .inr ⟨_, _, by rw [e]⟩
    · exact .inr ⟨_, _, by rw [e]⟩
theorem argH_ok (ar : ∀ a ∈ A, ArgOb h A a) : HOk P w (argH K h A) h := fun b u q => by
  obtain ⟨_, vs, h1, h2, ⟨e, rfl⟩ | ⟨e, rfl⟩⟩ := argH_is ar q
  · exact ⟨e, by rw [List.length_map]; exact h1, vs, _, vals_toV h2, e⟩
  · exact ⟨e, by rw [List.length_map]; exact h1, vs, vals_toV h2, _, e, rfl, _, rfl⟩
theorem seq_inj {c c' : Value} {vs us : List Value} (e : (some { cls := c, data := .seq vs.toArray } : Option Obj) = some { cls := c', data := .seq us.toArray }) : c = c' ∧ vs = us := by
  have e1 := Option.some.inj e
  have e2 : c = c' := congrArg Obj.cls e1
  have e3 : Data.seq vs.toArray = Data.seq us.toArray := congrArg Obj.data e1
  injection e3 with e4
  refine ⟨e2, ?_⟩
  have e5 := congrArg Array.toList e4
  simpa using e5
/-- a list argument -/
theorem argL (KX : K.In h) (ar : ∀ a ∈ A, ArgOb h A a) {a : Addr} {vs : List Value} (ha : a ∈ A) (e : h.get? a = some { cls := .type "list", data := .seq vs.toArray }) : (∀ u ∈ vs, OkU A u) ∧ SqL K (argH K h A) a (vs.map toV) := by
  obtain ⟨us, h1, h2, h3⟩ := ar a ha
  have hu : us = vs := by
    rcases h3 with q | q
    · rw [e] at q
      exact (seq_inj q).2.symm
    · rw [e] at q
      exact absurd (Value.type.inj (seq_inj q).1) (by decide)
  subst hu
  refine ⟨h2, ?_⟩
  cases hk : K.lookup a with
  | none => exact .inl (.inr ⟨_, by rw [argH_at ha hk e, hoOf_lst]⟩)
  | some o =>
    have e2 := KX a o hk
    rw [e] at e2
    obtain rfl := Option.some.inj e2
    exact .inr ⟨_, us.toArray, _, hk, rfl, rfl, rfl, by rw [List.size_toArray]; exact h1, by simpa using vals_toV h2⟩
theorem argT (KX : K.In h) (ar : ∀ a ∈ A, ArgOb h A a) {a : Addr} {vs : List Value} (ha : a ∈ A) (e : h.get? a = some { cls := .type "tuple", data := .seq vs.toArray }) : (∀ u ∈ vs, OkU A u) ∧ SqT K (argH K h A) a (vs.map toV) := by
  obtain ⟨us, h1, h2, h3⟩ := ar a ha
  have hu : us = vs := by
    rcases h3 with q | q
    · rw [e] at q
      exact absurd (Value.type.inj (seq_inj q).1) (by decide)
    · rw [e] at q
      exact (seq_inj q).2.symm
  subst hu
  refine ⟨h2, ?_⟩
  cases hk : K.lookup a with
  | none => exact .inl (.inr ⟨_, by rw [argH_at ha hk e, hoOf_tup]⟩)
  | some o =>
    have e2 := KX a o hk
    rw [e] at e2
    obtain rfl := Option.some.inj e2
    exact .inr ⟨_, us.toArray, _, hk, rfl, rfl, by rw [List.size_toArray]; exact h1, by simpa using vals_toV h2⟩
mutual
theorem dw_one {Pm : Params} (KX : K.In h) (ar : ∀ a ∈ A, ArgOb h A a) : ∀ (d : WData) (v : Value), Well Pm h v d → plW d = true → OkU A v → Dw K (argH K h A) (toV v) d
  | .none, _, x, _, _ => by
    cases x
    exact .non
  | .bool b, _, x, _, _ => by
    cases x
    exact .bl b
  | .int i, _, x, _, _ => by
    cases x
    exact .int i
  | .str s, _, x, _, _ => by
    cases x
    exact .str s
  | .bytes b, _, x, _, _ => by
    cases x
    have z := Dw.byt (K := K) (H := argH K h A) b.toArray
    exact z
  | .list ds, _, x, p, hu => by
    obtain ⟨a, vs, rfl, ho, hall⟩ := well_list x
    obtain ⟨h2, hs⟩ := argL KX ar hu ho
    exact .lst hs (dw_all KX ar ds _ hall p h2)
  | .tuple ds, _, x, p, hu => by
    obtain ⟨a, vs, rfl, ho, hall⟩ := well_tuple x
    obtain ⟨h2, hs⟩ := argT KX ar hu ho
    exact .tup hs (dw_all KX ar ds _ hall p h2)
  | .float _, _, _, p, _ => Bool.noConfusion (show false = true from p)
  | .dict _, _, _, p, _ => Bool.noConfusion (show false = true from p)
  | .bytearray _, _, _, p, _ => Bool.noConfusion (show false = true from p)
  | .set _, _, _, p, _ => Bool.noConfusion (show false = true from p)
  | .frozenset _, _, _, p, _ => Bool.noConfusion (show false = true from p)
  | .obj _ _, _, _, p, _ => Bool.noConfusion (show false = true from p)
theorem dw_all {Pm : Params} (KX : K.In h) (ar : ∀ a ∈ A, ArgOb h A a) : ∀ (ds : List WData) (vs : List Value), WellAll Pm h vs ds → plWs ds = true → (∀ u ∈ vs, OkU A u) → DwAll K (argH K h A) (vs.map toV) ds
  | [], _, x, _, _ => by
    cases x
    exact .nil
  | d :: ds, _, x, p, hu => by
    obtain ⟨v, vs, rfl, x1, x2⟩ := well_cons x
    have q : plW d = true ∧ plWs ds = true := Bool.and_eq_true_iff.mp p
    exact .cons (dw_one KX ar d v x1 q.1 (hu _ (List.mem_cons_self ..))) (dw_all KX ar ds vs x2 q.2 fun u m => hu u (List.mem_cons_of_mem _ m))
end
end
/-! ### the call -/
theorem spec_call {P : Program} {w : World} {K : PySem.W.Frag} {mg mb : Str → Option Value} {CX : CXT} {k : Nat} {fa : Addr} {fd : FuncData} {ps : List Str} {sp : Sp} {s₁ : Shared} {vals : List Value} {ds : List WData} {R : PySem.W.WRecords} {cl : Str → Option Addr} {d0 : WData}
    (KX : K.In s₁.heap) (hns : s₁.heap.Ns mainGlobals mg) (hb : s₁.heap.Ns builtinsNs mb) (hbb : ∀ x : Str, x ≠ "__name__" → mb x = bootBuiltins x) (hlim : s₁.heap.NoLimit) (hg : s₁.gens = #[])
    (hwl : WellAll w.params s₁.heap vals ds) (hpl : plWs ds = true) (hwt : ∀ d ∈ ds, d.weight ≤ 1048576) (hr : Room k callerA)
    (F : ∀ base : Heap, K.In base → base.Ns mainGlobals mg → FnOk P w K mg base CX k fa fd ps sp) (hbind : ∀ (s : Shared) (us : List Value), us.length = ps.length → BindsTo s fd ⟨us, []⟩ (ps.zip us)) (hlen : ds.length = ps.length)
    (hsp : ∀ (H : Hp) (xs : List V), OnlyF H → DwAll K H xs ds → sp xs H (fun v H' => Dw K H' v d0) fun _ _ _ => False)
    (hCX : ∀ H e s', CX [] H s₁ (fun _ _ _ => False) e s' → False) :
    codeAny (model P w) callerA (.call (.ref fa) ⟨vals, []⟩) (fun r s' => ∃ u as, r = .ok (.ret u) ∧ ReadsW R cl s'.heap u d0 as ∧ OldK s₁.heap s'.heap ∧ s'.os = s₁.os ∧ AllBare s'.gens) s₁ := by
  obtain ⟨A, ho, ar⟩ := area_all ds vals hwl hpl hwt
  have hO : OnlyF (argH K s₁.heap A) := argH_only ar
  have hok : HOk P w (argH K s₁.heap A) s₁.heap := argH_ok ar
  have hS := dw_all KX ar ds vals hwl hpl ho
  have hV := vals_toV ho
  have hK : ∀ b u, argH K s₁.heap A b = some u → K.lookup b = none := fun b u q => (argH_is ar q).1
  have noA : ∀ {b : Addr} {o : Obj} {es : Array DictEntry} {ep : Nat}, s₁.heap.get? b = some o → o.data = .dict es ep → argH K s₁.heap A b = none := fun {b o es ep} e d => by
    cases q : argH K s₁.heap A b with
    | none => rfl
    | some u =>
      obtain ⟨_, vs, _, _, ⟨e2, _⟩ | ⟨e2, _⟩⟩ := argH_is ar q
      · rw [e2] at e
        cases e
        have d' : Data.seq vs.toArray _ = Data.dict es ep := d
        cases d'
      · rw [e2] at e
        cases e
        have d' : Data.seq vs.toArray _ = Data.dict es ep := d
        cases d'
  generalize argH K s₁.heap A = H at hO hok hS hK noA
  have base_of : ∀ {b : Addr} {o : Obj}, s₁.heap.get? b = some o → H b = none → (hidT s₁.heap H).get? b = some o := fun e n => hidT_get e n
  have nsK : ∀ {b : Addr} {m : Str → Option Value}, s₁.heap.Ns b m → (hidT s₁.heap H).Ns b m := fun {b m} ⟨o, es, ep, e, d, r⟩ => ⟨o, es, ep, base_of e (noA e d), d, r⟩
  have nK : ∀ b o, K.lookup b = some o → H b = none := fun b o e => by
    cases q : H b with
    | none => rfl
    | some u =>
      rw [hK b u q] at e
      cases e
  have hKb : K.In (hidT s₁.heap H) := fun b o e => base_of (KX b o e) (nK b o e)
  have hM : Mod K mg (hidT s₁.heap H) := ⟨hKb, nsK hns, ⟨mb, nsK hb, hbb⟩, let ⟨mc, h1, h2⟩ := hlim; ⟨mc, nsK h1, h2⟩⟩
  have e0 : Env0 P w K mg (hidT s₁.heap H) callerA [] s₁ H := ⟨rfl, hM, fun b o e => of_hidT e, Nat.le_of_eq (hidT_size _ _), trivial, fun b hb => absurd (show b ∈ ([] : List Addr) from hb) (by simp), hok, .of_eq hg⟩
  have hl : vals.length = ps.length := by rw [wellAll_len hwl]; exact hlen
  refine codeAny_mono ((F _ hKb (nsK hns)).run callerA [] s₁ H ⟨vals, []⟩ vals (vals.map toV) _ _ hr e0 (hbind s₁ vals hl) hV (hsp H _ hO hS)) fun r s' x => ?_
  cases r with
  | error e => exact (hCX H e s' x).elim
  | ok fl =>
    cases fl with
    | next => exact False.elim x
    | brk => exact False.elim x
    | cont => exact False.elim x
    | ret u =>
      obtain ⟨v, H', os, bare, un, hok', r', q⟩ := x
      have kept : ∀ b o, s₁.heap.get? b = some o → s'.heap.get? b = some o := fun b o e => by
        cases q2 : H b with
        | none => exact un.keep b o e q2 (by intro z; exact absurd (show b ∈ ([] : List Addr) from z) (by simp)) (by simp)
        | some u2 =>
          rcases hO b with z | ⟨ob, u3, z⟩
          · rw [q2] at z
            cases z
          · have z2 := un.frzs b ob _ z
            obtain ⟨e1, _⟩ := hok b _ z
            obtain ⟨e2, _⟩ := hok' b _ z2
            rw [e] at e1
            cases e1
            exact e2
      have KX' : K.In s'.heap := fun b o e => kept b o (KX b o e)
      obtain ⟨as, hrd⟩ := Dw.reads (R := R) (cl := cl) hok' KX' d0 v u q r'
      exact ⟨u, as, rfl, hrd, OldK.of_keep kept, os, bare⟩
/-! ### the row -/
theorem layable_weight {ds : List WData} (h : WData.layableAll ds = true) : ∀ d ∈ ds, d.weight ≤ 1048576 := fun d hd =>
  (PySem.W.layableW_iff.mp (List.all_eq_true.mp h d hd)).2.2
theorem encAll_len : ∀ (cs : List Codec) (a : Codec.denoteAll cs), (Codec.encAll cs a).length = cs.length
  | [], _ => rfl
  | c :: cs, a => by
    show (Codec.encAll cs a.2).length + 1 = cs.length + 1
    rw [encAll_len cs a.2]
/-- the goal that k_headS leaves (case hc), from the promise of the row's def: whatever the arguments that the codecs let and the row asks for, the def gives what stands for enc (f ..) -/
theorem walk_spec {r : OpenSpec} {k : Nat} {q : Program} {loose : List Str} {XP : (Str → Option Value) → Heap → Prop} {YP : World → Heap → Prop} {d : DefRec} {K : Params → PySem.W.Frag} {CX : World → CXT} {ps : List Str} {sp : World → Sp}
    (hwell : r.wellSaid = true) (hdf : d.params.defaults = []) (hlen : r.args.length = ps.length) (hr : Room k callerA)
    (hY : ∀ (w : World) (h : Heap), YP w h → (K w.params).In h)
    (F : ∀ (w : World) (mg : Str → Option Value) (fa : Addr) (h : Heap), YP w h → (K w.params).In h → h.Ns mainGlobals mg → mg d.name = some (.ref fa) →
      ∃ fd : FuncData, (∀ (s : Shared) (us : List Value), us.length = ps.length → BindsTo s fd ⟨us, []⟩ (ps.zip us)) ∧
        ∀ base : Heap, (K w.params).In base → base.Ns mainGlobals mg → FnOk r.prog w (K w.params) mg base (CX w) k fa fd ps (sp w))
    (hsp : ∀ (w : World) (H : Hp) (xs : List V) (a : Codec.denoteAll r.args), OnlyF H → Codec.withinAll r.args a = true → Codec.app r.args r.asked a = true → DwAll (K w.params) H xs (Codec.encAll r.args a) →
      sp w xs H (fun v H' => Dw (K w.params) H' v (r.ret.enc (Codec.app r.args r.f a))) fun _ _ _ => False)
    (hCX : ∀ (w : World) (H : Hp) (s : Shared) (e : Value) (s' : Shared), CX w [] H s (fun _ _ _ => False) e s' → False) :
    PySem.W.WalkOS q loose XP YP r d [] (fun f vs => PySem.call f vs) := by
  intro w s_0 s₁ mg mb G Y fa o pm cd doc dV kV ho hd hcd hD hmg hg args vals as hpre hlay hrd hwl hlo
  obtain ⟨a, e1, e2⟩ := PySem.W.os_pre_some hpre
  obtain ⟨e3, hwi⟩ := Codec.encAll_of_decAll r.args args a e1
  subst e3
  have KX := hY w _ Y
  obtain ⟨fd, hb, hF⟩ := F w mg fa _ Y KX G.T.g hmg
  refine PySem.W.enter_call (codeAny_mono (spec_call (R := []) (cl := classAt s_0.heap) (d0 := r.ret.enc (Codec.app r.args r.f a)) KX G.T.g G.T.b G.T.builtins G.T.nolimit hg hwl (pl_encAll _ _) (layable_weight hlay) hr hF hb (by rw [encAll_len]; exact hlen)
    (fun H xs hO hS => hsp w H xs a hO hwi e2 hS) fun H e s' => hCX w H s₁ e s') fun r' s' hq => ?_)
  obtain ⟨u, as', rfl, h1, h2, h3, h4⟩ := hq
  exact ⟨.inl ⟨u, _, as', rfl, fun _ => rfl, h1, (OpenSpec.post_iff hwell hwi _ _).mpr rfl, fun z => Bool.noConfusion (show false = true from z)⟩, h2, h3, h4⟩
/-- the same where the promise hangs on the written part alone -/
theorem walk_specK {r : OpenSpec} {k : Nat} {q : Program} {loose : List Str} {XP : (Str → Option Value) → Heap → Prop} {YP : World → Heap → Prop} {d : DefRec} {K : Params → PySem.W.Frag} {CX : CXT} {ps : List Str} {sp : PySem.W.Frag → Sp}
    (hwell : r.wellSaid = true) (hdf : d.params.defaults = []) (hlen : r.args.length = ps.length) (hr : Room k callerA)
    (hY : ∀ (w : World) (h : Heap), YP w h → (K w.params).In h)
    (F : ∀ (w : World) (mg : Str → Option Value) (fa : Addr) (h : Heap), YP w h → (K w.params).In h → h.Ns mainGlobals mg → mg d.name = some (.ref fa) →
      ∃ fd : FuncData, (∀ (s : Shared) (us : List Value), us.length = ps.length → BindsTo s fd ⟨us, []⟩ (ps.zip us)) ∧
        ∀ base : Heap, (K w.params).In base → base.Ns mainGlobals mg → FnOk r.prog w (K w.params) mg base CX k fa fd ps (sp (K w.params)))
    (hsp : ∀ (K : PySem.W.Frag) (H : Hp) (xs : List V) (a : Codec.denoteAll r.args), OnlyF H → Codec.withinAll r.args a = true → Codec.app r.args r.asked a = true → DwAll K H xs (Codec.encAll r.args a) →
      sp K xs H (fun v H' => Dw K H' v (r.ret.enc (Codec.app r.args r.f a))) fun _ _ _ => False)
    (hCX : ∀ (H : Hp) (s : Shared) (e : Value) (s' : Shared), CX [] H s (fun _ _ _ => False) e s' → False) :
    PySem.W.WalkOS q loose XP YP r d [] (fun f vs => PySem.call f vs) :=
  walk_spec (K := K) (CX := fun _ => CX) (sp := fun w => sp (K w.params)) hwell hdf hlen hr hY F (fun w H xs a h1 h2 h3 h4 => hsp (K w.params) H xs a h1 h2 h3 h4) fun _ H s e s' => hCX H s e s'
end L2
-- rests on (row put in by the clerk, for the bench that shows a file only what it spells): KE.SpHead KE.OsShapes
end

set_option linter.all false
namespace Kgm
open Kg07 Kg07Neutral

def W32 (x : Int) : Prop := -2147483648 ≤ x ∧ x ≤ 2147483647
def Wd (z : Int) : Prop := 0 ≤ z ∧ z < 18446744073709551616
def Bt (z : Int) : Prop := 0 ≤ z ∧ z < 256
structure Row (x : List Int) : Prop where
  len : x.length ≤ 64
  all : ∀ z ∈ x, Wd z
structure Byts (x : List Int) : Prop where
  len : x.length ≤ 512
  all : ∀ z ∈ x, Bt z

/-- a call that is asked, as it stands in the list -/
inductive Form : List (List Int) → Prop
  | begin {m} : Row m → Form [[0], m]
  | put {r x} : W32 r → Row x → Form [[1, r], x]
  | get {r n} : W32 r → 0 ≤ n → n ≤ 4294967295 → Form [[2, r, n]]
  | sum {d a b} : W32 d → W32 a → W32 b → Form [[3, d, a, b]]
  | diff {d a b} : W32 d → W32 a → W32 b → Form [[4, d, a, b]]
  | prod {d a b} : W32 d → W32 a → W32 b → Form [[5, d, a, b]]
  | half {d a} : W32 d → W32 a → Form [[6, d, a]]
  | doubled {d a t} : W32 d → W32 a → W32 t → Form [[7, d, a, t]]
  | power {d a e} : W32 d → W32 a → Byts e → Form [[8, d, a], e]
  | order {a b} : W32 a → W32 b → Form [[10, a, b]]
  | wide {a b} : Row a → Row b → b.length = a.length → Form [[11], a, b]
  | shifted {t a} : W32 t → Row a → Form [[12, t], a]

theorem w32_of {x : Int} (h : whole32 x = true) : W32 x := by
  unfold whole32 at h
  simp only [Bool.and_eq_true, decide_eq_true_eq] at h
  unfold W32
  omega
theorem row_of {a : List Int} (h : (a.all (fun (z : Int) => natural z 64) && long a (a.length : Int) 1 64) = true) : Row a := by
  rw [Bool.and_eq_true, List.all_eq_true] at h
  obtain ⟨h1, h2⟩ := h
  refine ⟨?_, fun z hz => ?_⟩
  · unfold long some_ at h2
    rw [decide_eq_true_eq] at h2
    split at h2 <;> omega
  · have q := h1 z hz
    unfold natural at q
    simp only [Bool.and_eq_true, decide_eq_true_eq] at q
    unfold Wd
    omega
theorem row_of2 {a b : List Int} (ha : Row a) (h : (b.all (fun (z : Int) => natural z 64) && long b (a.length : Int) 1 64) = true) : Row b ∧ b.length = a.length := by
  rw [Bool.and_eq_true, List.all_eq_true] at h
  obtain ⟨h1, h2⟩ := h
  have hl : b.length = a.length := by
    have := ha.len
    unfold long some_ at h2
    rw [decide_eq_true_eq] at h2
    split at h2 <;> omega
  refine ⟨⟨?_, fun z hz => ?_⟩, hl⟩
  · rw [hl]; exact ha.len
  · have q := h1 z hz
    unfold natural at q
    simp only [Bool.and_eq_true, decide_eq_true_eq] at q
    unfold Wd
    omega
theorem byts_of {a : List Int} (h : (a.all (fun (z : Int) => natural z 8) && long a (a.length : Int) 0 512) = true) : Byts a := by
  rw [Bool.and_eq_true, List.all_eq_true] at h
  obtain ⟨h1, h2⟩ := h
  refine ⟨?_, fun z hz => ?_⟩
  · unfold long some_ at h2
    rw [decide_eq_true_eq] at h2
    split at h2 <;> omega
  · have q := h1 z hz
    unfold natural at q
    simp only [Bool.and_eq_true, decide_eq_true_eq] at q
    unfold Bt
    omega

theorem l0 {α : Type} {l : List α} (h : 0 = l.length) : l = [] := List.length_eq_zero_iff.mp h.symm
theorem l1 {α : Type} {l : List α} (h : 1 = l.length) : ∃ x, l = [x] := List.length_eq_one_iff.mp h.symm
theorem l2 {α : Type} {l : List α} (h : 2 = l.length) : ∃ x y, l = [x, y] := by
  cases l with
  | nil => cases h
  | cons x l =>
    obtain ⟨y, rfl⟩ := l1 (l := l) (by simp only [List.length_cons] at h; omega)
    exact ⟨x, y, rfl⟩
theorem l3 {α : Type} {l : List α} (h : 3 = l.length) : ∃ x y z, l = [x, y, z] := by
  cases l with
  | nil => cases h
  | cons x l =>
    obtain ⟨y, z, rfl⟩ := l2 (l := l) (by simp only [List.length_cons] at h; omega)
    exact ⟨x, y, z, rfl⟩
set_option maxHeartbeats 4000000 in
theorem form_of {c : List (List Int)} (h : PyFlat.okCall PyKg07.shape c) (ha : asked1 (PyKg07.whole c) = true) : Form c := by
  obtain ⟨p, a, xs, rfl, hs⟩ := h
  unfold PyKg07.shape at hs
  split at hs
  · rename_i e; subst e
    obtain ⟨e1, e2⟩ := Prod.mk.inj (Option.some.inj hs)
    have k1 := l0 e1
    subst k1
    obtain ⟨m, rfl⟩ := l1 e2
    have q : (natural (m.length : Int) 32 && (m.all (fun (z : Int) => natural z 64) && long m (m.length : Int) 1 64)) = true := ha
    rw [Bool.and_eq_true] at q
    exact .begin (row_of q.2)
  split at hs
  · rename_i e; subst e
    obtain ⟨e1, e2⟩ := Prod.mk.inj (Option.some.inj hs)
    obtain ⟨r, rfl⟩ := l1 e1
    obtain ⟨x, rfl⟩ := l1 e2
    have q : (whole32 r && natural (x.length : Int) 32 && (x.all (fun (z : Int) => natural z 64) && long x (x.length : Int) 1 64)) = true := ha
    rw [Bool.and_eq_true, Bool.and_eq_true] at q
    exact .put (w32_of q.1.1) (row_of q.2)
  split at hs
  · rename_i e; subst e
    obtain ⟨e1, e2⟩ := Prod.mk.inj (Option.some.inj hs)
    obtain ⟨r, n, rfl⟩ := l2 e1
    have k2 := l0 e2
    subst k2
    have q : (whole32 r && natural n 32) = true := ha
    rw [Bool.and_eq_true] at q
    have q2 := q.2
    unfold natural at q2
    simp only [Bool.and_eq_true, decide_eq_true_eq] at q2
    exact .get (w32_of q.1) (by omega) (by omega)
  split at hs
  · rename_i e; subst e
    obtain ⟨e1, e2⟩ := Prod.mk.inj (Option.some.inj hs)
    obtain ⟨d, x, y, rfl⟩ := l3 e1
    have k2 := l0 e2
    subst k2
    have q : (whole32 d && whole32 x && whole32 y) = true := ha
    rw [Bool.and_eq_true, Bool.and_eq_true] at q
    exact .sum (w32_of q.1.1) (w32_of q.1.2) (w32_of q.2)
  split at hs
  · rename_i e; subst e
    obtain ⟨e1, e2⟩ := Prod.mk.inj (Option.some.inj hs)
    obtain ⟨d, x, y, rfl⟩ := l3 e1
    have k2 := l0 e2
    subst k2
    have q : (whole32 d && whole32 x && whole32 y) = true := ha
    rw [Bool.and_eq_true, Bool.and_eq_true] at q
    exact .diff (w32_of q.1.1) (w32_of q.1.2) (w32_of q.2)
  split at hs
  · rename_i e; subst e
    obtain ⟨e1, e2⟩ := Prod.mk.inj (Option.some.inj hs)
    obtain ⟨d, x, y, rfl⟩ := l3 e1
    have k2 := l0 e2
    subst k2
    have q : (whole32 d && whole32 x && whole32 y) = true := ha
    rw [Bool.and_eq_true, Bool.and_eq_true] at q
    exact .prod (w32_of q.1.1) (w32_of q.1.2) (w32_of q.2)
  split at hs
  · rename_i e; subst e
    obtain ⟨e1, e2⟩ := Prod.mk.inj (Option.some.inj hs)
    obtain ⟨d, x, rfl⟩ := l2 e1
    have k2 := l0 e2
    subst k2
    have q : (whole32 d && whole32 x) = true := ha
    rw [Bool.and_eq_true] at q
    exact .half (w32_of q.1) (w32_of q.2)
  split at hs
  · rename_i e; subst e
    obtain ⟨e1, e2⟩ := Prod.mk.inj (Option.some.inj hs)
    obtain ⟨d, x, y, rfl⟩ := l3 e1
    have k2 := l0 e2
    subst k2
    have q : (whole32 d && whole32 x && whole32 y) = true := ha
    rw [Bool.and_eq_true, Bool.and_eq_true] at q
    exact .doubled (w32_of q.1.1) (w32_of q.1.2) (w32_of q.2)
  split at hs
  · rename_i e; subst e
    obtain ⟨e1, e2⟩ := Prod.mk.inj (Option.some.inj hs)
    obtain ⟨d, x, rfl⟩ := l2 e1
    obtain ⟨e, rfl⟩ := l1 e2
    have q : (whole32 d && whole32 x && natural (e.length : Int) 32 && (e.all (fun (z : Int) => natural z 8) && long e (e.length : Int) 0 512)) = true := ha
    rw [Bool.and_eq_true, Bool.and_eq_true, Bool.and_eq_true] at q
    exact .power (w32_of q.1.1.1) (w32_of q.1.1.2) (byts_of q.2)
  split at hs
  · rename_i e; subst e
    obtain ⟨e1, e2⟩ := Prod.mk.inj (Option.some.inj hs)
    obtain ⟨x, y, rfl⟩ := l2 e1
    have k2 := l0 e2
    subst k2
    have q : (whole32 x && whole32 y) = true := ha
    rw [Bool.and_eq_true] at q
    exact .order (w32_of q.1) (w32_of q.2)
  split at hs
  · rename_i e; subst e
    obtain ⟨e1, e2⟩ := Prod.mk.inj (Option.some.inj hs)
    have k1 := l0 e1
    subst k1
    obtain ⟨x, y, rfl⟩ := l2 e2
    have q : (natural (x.length : Int) 32 && (x.all (fun (z : Int) => natural z 64) && long x (x.length : Int) 1 64) && (y.all (fun (z : Int) => natural z 64) && long y (x.length : Int) 1 64)) = true := ha
    rw [Bool.and_eq_true, Bool.and_eq_true] at q
    have r := row_of q.1.2
    have r2 := row_of2 r q.2
    exact .wide r r2.1 r2.2
  split at hs
  · rename_i e; subst e
    obtain ⟨e1, e2⟩ := Prod.mk.inj (Option.some.inj hs)
    obtain ⟨t, rfl⟩ := l1 e1
    obtain ⟨x, rfl⟩ := l1 e2
    have q : (natural (x.length : Int) 32 && (x.all (fun (z : Int) => natural z 64) && long x (x.length : Int) 1 64) && whole32 t) = true := ha
    rw [Bool.and_eq_true, Bool.and_eq_true] at q
    exact .shifted (w32_of q.2) (row_of q.1.2)
  · cases hs
end Kgm

set_option linter.all false
namespace Kgm
open Kg07 Kg07Neutral

def num (l : List Int) : Nat := (l.map Int.toNat).foldr (fun (w x : Nat) => w + 2 ^ 64 * x) 0
def words (k x : Nat) : List Int := (List.range k).map fun (i : Nat) => ((x / 2 ^ (64 * i) % 2 ^ 64 : Nat) : Int)
/-- a register's number -/
def Reg (r : Int) : Prop := 0 ≤ r ∧ r < 8
instance instDecReg (r : Int) : Decidable (Reg r) := inferInstanceAs (Decidable (0 ≤ r ∧ r < 8))
def shown (a : Kg07.Ans) : List Int := a.code :: (match a.out with
    | some (k, x) => (List.range k).map fun (i : Nat) => ((x / 2 ^ (64 * i) % 2 ^ 64 : Nat) : Int)
    | none => [])
theorem i32_u32 {x : Int} (h : W32 x) : i32 (unsigned32 x) = x := by
  unfold W32 at h
  unfold i32 unsigned32
  split <;> omega
theorem h32_u32 {x : Int} (h : W32 x) (r : List Nat) : h32 (unsigned32 x :: r) = x := i32_u32 h
theorem idx_some {r : Int} (h : Reg r) : idx r = some r.toNat := by
  unfold idx
  exact if_pos h
theorem idx_none {r : Int} (h : ¬ Reg r) : idx r = none := by
  unfold idx
  exact if_neg h
theorem of_some {s : Abs} {r : Int} (h : Reg r) : s.of r = some (s.reg r.toNat) := by
  unfold Abs.of
  rw [idx_some h]
  rfl
theorem of_none {s : Abs} {r : Int} (h : ¬ Reg r) : s.of r = none := by
  unfold Abs.of
  rw [idx_none h]
  rfl
theorem makes_some {s : Abs} {d : Int} (h : Reg d) (x : Nat) : s.makes d (some x) = (s.set d.toNat (x % s.m), says 0) := by
  unfold Abs.makes
  rw [idx_some h]
theorem makes_none {s : Abs} (d : Int) : s.makes d none = (s, says (-1)) := by
  unfold Abs.makes
  cases idx d <;> rfl
theorem makes_bad {s : Abs} {d : Int} (h : ¬ Reg d) (x : Option Nat) : s.makes d x = (s, says (-1)) := by
  unfold Abs.makes
  rw [idx_none h]
theorem two_some {s : Abs} {a b : Int} (ha : Reg a) (hb : Reg b) (f : Nat → Nat → Nat) : s.two a b f = some (f (s.reg a.toNat) (s.reg b.toNat)) := by
  unfold Abs.two
  rw [of_some ha, of_some hb]
  rfl
theorem two_none {s : Abs} {a b : Int} (h : ¬ (Reg a ∧ Reg b)) (f : Nat → Nat → Nat) : s.two a b f = none := by
  unfold Abs.two
  by_cases ha : Reg a
  · rw [of_some ha, of_none (fun hb => h ⟨ha, hb⟩)]; rfl
  · rw [of_none ha]; rfl

/-- what the call does: the object behind it, what is answered -/
abbrev Do := Abs × List Int
theorem step_begin (s : Abs) {m : List Int} (h : Row m) : step s (PyKg07.whole [[0], m]) = if 1 ≤ m.length ∧ num m % 2 = 1 ∧ 3 ≤ num m then (⟨num m, m.length, List.replicate 8 0⟩, [0]) else (s, [-1]) := by
  have e : step s (PyKg07.whole [[0], m]) = ((Kg07.init (wordsAt m.length (m.map Int.toNat)).1 m.length).2.getD s, [(Kg07.init (wordsAt m.length (m.map Int.toNat)).1 m.length).1]) := rfl
  rw [e]
  have hl := h.len
  unfold wordsAt
  by_cases h1 : 1 ≤ m.length
  · rw [if_pos ⟨h1, hl⟩]
    have et : (m.map Int.toNat).take m.length = m.map Int.toNat := by
      rw [List.take_of_length_le]
      rw [List.length_map]
      exact Nat.le_refl _
    show ((Kg07.init (some (((m.map Int.toNat).take m.length).foldr (fun (w x : Nat) => w + 2 ^ 64 * x) 0)) m.length).2.getD s, [(Kg07.init (some (((m.map Int.toNat).take m.length).foldr (fun (w x : Nat) => w + 2 ^ 64 * x) 0)) m.length).1]) = _
    rw [et]
    show ((Kg07.init (some (num m)) m.length).2.getD s, [(Kg07.init (some (num m)) m.length).1]) = _
    unfold Kg07.init
    by_cases h2 : num m % 2 = 1 ∧ 3 ≤ num m
    · simp only [if_pos (show 1 ≤ m.length ∧ m.length ≤ WORDS ∧ num m % 2 = 1 ∧ 3 ≤ num m from ⟨h1, hl, h2.1, h2.2⟩), if_pos (show 1 ≤ m.length ∧ num m % 2 = 1 ∧ 3 ≤ num m from ⟨h1, h2.1, h2.2⟩)]
      rfl
    · simp only [if_neg (show ¬ (1 ≤ m.length ∧ m.length ≤ WORDS ∧ num m % 2 = 1 ∧ 3 ≤ num m) from fun q => h2 ⟨q.2.2.1, q.2.2.2⟩), if_neg (show ¬ (1 ≤ m.length ∧ num m % 2 = 1 ∧ 3 ≤ num m) from fun q => h2 q.2)]
      rfl
  · rw [if_neg (fun q => h1 q.1), if_neg (fun q => h1 q.1)]
    rfl
theorem step_put (s : Abs) {r : Int} {x : List Int} (hr : W32 r) (h : Row x) (hn : 1 ≤ s.n) : step s (PyKg07.whole [[1, r], x]) = if Reg r ∧ x.length = s.n then (s.set r.toNat (num x % s.m), [0]) else (s, [-1]) := by
  have e : step s (PyKg07.whole [[1, r], x]) = (match (wordsAt x.length (x.map Int.toNat)).1 with
      | some y => if x.length = s.n then ((s.makes (h32 (unsigned32 r :: x.length :: x.map Int.toNat)) (some y)).1, shown (s.makes (h32 (unsigned32 r :: x.length :: x.map Int.toNat)) (some y)).2) else (s, [-1])
      | none => (s, [-1])) := rfl
  rw [e, h32_u32 hr]
  have hl := h.len
  unfold wordsAt
  by_cases h1 : x.length = s.n
  · rw [if_pos ⟨by omega, hl⟩]
    have et : (x.map Int.toNat).take x.length = x.map Int.toNat := by
      rw [List.take_of_length_le]
      rw [List.length_map]
      exact Nat.le_refl _
    show (if x.length = s.n then ((s.makes r (some (((x.map Int.toNat).take x.length).foldr (fun (w x : Nat) => w + 2 ^ 64 * x) 0))).1, shown (s.makes r (some (((x.map Int.toNat).take x.length).foldr (fun (w x : Nat) => w + 2 ^ 64 * x) 0))).2) else (s, [-1])) = _
    rw [et, if_pos h1]
    show ((s.makes r (some (num x))).1, shown (s.makes r (some (num x))).2) = _
    by_cases h2 : Reg r
    · rw [makes_some h2, if_pos ⟨h2, h1⟩]; rfl
    · rw [makes_bad h2, if_neg (fun q => h2 q.1)]; rfl
  · rw [if_neg (show ¬ (Reg r ∧ x.length = s.n) from fun q => h1 q.2)]
    split
    · rw [if_neg h1]
    · rfl
theorem step_get (s : Abs) {r n : Int} (hr : W32 r) (h0 : 0 ≤ n) : step s (PyKg07.whole [[2, r, n]]) = if Reg r ∧ n = (s.n : Int) then (s, 0 :: words s.n (s.reg r.toNat)) else (s, [-1]) := by
  have e : step s (PyKg07.whole [[2, r, n]]) = (match idx (h32 [unsigned32 r, n.toNat]) with
      | some k => if n.toNat = s.n then (s, shown ⟨0, some (n.toNat, s.reg k)⟩) else (s, [-1])
      | none => (s, [-1])) := rfl
  rw [e, h32_u32 hr]
  by_cases h2 : Reg r
  · rw [idx_some h2]
    by_cases h1 : n = (s.n : Int)
    · subst h1
      rw [if_pos ⟨h2, rfl⟩]
      show (if (s.n : Int).toNat = s.n then (s, shown ⟨0, some ((s.n : Int).toNat, s.reg r.toNat)⟩) else (s, [-1])) = _
      rw [Int.toNat_natCast, if_pos rfl]
      rfl
    · rw [if_neg (show ¬ (Reg r ∧ n = (s.n : Int)) from fun q => h1 q.2)]
      show (if n.toNat = s.n then (s, shown ⟨0, some (n.toNat, s.reg r.toNat)⟩) else (s, [-1])) = _
      rw [if_neg (by omega)]
  · rw [idx_none h2, if_neg (fun q => h2 q.1)]
theorem made (s : Abs) {d a b : Int} (f : Nat → Nat → Nat) : ((s.makes d (s.two a b f)).1, shown (s.makes d (s.two a b f)).2) = if Reg d ∧ Reg a ∧ Reg b then (s.set d.toNat (f (s.reg a.toNat) (s.reg b.toNat) % s.m), [0]) else (s, [-1]) := by
  by_cases hab : Reg a ∧ Reg b
  · rw [two_some hab.1 hab.2]
    by_cases hd : Reg d
    · rw [makes_some hd, if_pos ⟨hd, hab⟩]; rfl
    · rw [makes_bad hd, if_neg (fun q => hd q.1)]; rfl
  · rw [two_none hab, makes_none, if_neg (fun q => hab q.2)]; rfl
theorem made1 (s : Abs) {d a : Int} (f : Nat → Nat) : ((s.makes d ((s.of a).map f)).1, shown (s.makes d ((s.of a).map f)).2) = if Reg d ∧ Reg a then (s.set d.toNat (f (s.reg a.toNat) % s.m), [0]) else (s, [-1]) := by
  by_cases ha : Reg a
  · rw [of_some ha]
    show ((s.makes d (some (f (s.reg a.toNat)))).1, shown (s.makes d (some (f (s.reg a.toNat)))).2) = _
    by_cases hd : Reg d
    · rw [makes_some hd, if_pos ⟨hd, ha⟩]; rfl
    · rw [makes_bad hd, if_neg (fun q => hd q.1)]; rfl
  · rw [of_none ha]
    show ((s.makes d none).1, shown (s.makes d none).2) = _
    rw [makes_none, if_neg (fun q => ha q.2)]; rfl
theorem step_sum (s : Abs) {d a b : Int} (hd : W32 d) (ha : W32 a) (hb : W32 b) : step s (PyKg07.whole [[3, d, a, b]]) = if Reg d ∧ Reg a ∧ Reg b then (s.set d.toNat ((s.reg a.toNat + s.reg b.toNat) % s.m), [0]) else (s, [-1]) := by
  have e : step s (PyKg07.whole [[3, d, a, b]]) = ((s.makes (h32 [unsigned32 d, unsigned32 a, unsigned32 b]) (s.two (h32 [unsigned32 a, unsigned32 b]) (h32 [unsigned32 b]) fun x y => x + y)).1, shown (s.makes (h32 [unsigned32 d, unsigned32 a, unsigned32 b]) (s.two (h32 [unsigned32 a, unsigned32 b]) (h32 [unsigned32 b]) fun x y => x + y)).2) := rfl
  rw [e, h32_u32 hd, h32_u32 ha, h32_u32 hb]
  exact made s _
theorem step_diff (s : Abs) {d a b : Int} (hd : W32 d) (ha : W32 a) (hb : W32 b) : step s (PyKg07.whole [[4, d, a, b]]) = if Reg d ∧ Reg a ∧ Reg b then (s.set d.toNat ((s.reg a.toNat + s.m - s.reg b.toNat) % s.m), [0]) else (s, [-1]) := by
  have e : step s (PyKg07.whole [[4, d, a, b]]) = ((s.makes (h32 [unsigned32 d, unsigned32 a, unsigned32 b]) (s.two (h32 [unsigned32 a, unsigned32 b]) (h32 [unsigned32 b]) fun x y => x + s.m - y)).1, shown (s.makes (h32 [unsigned32 d, unsigned32 a, unsigned32 b]) (s.two (h32 [unsigned32 a, unsigned32 b]) (h32 [unsigned32 b]) fun x y => x + s.m - y)).2) := rfl
  rw [e, h32_u32 hd, h32_u32 ha, h32_u32 hb]
  exact made s _
theorem step_prod (s : Abs) {d a b : Int} (hd : W32 d) (ha : W32 a) (hb : W32 b) : step s (PyKg07.whole [[5, d, a, b]]) = if Reg d ∧ Reg a ∧ Reg b then (s.set d.toNat ((s.reg a.toNat * s.reg b.toNat) % s.m), [0]) else (s, [-1]) := by
  have e : step s (PyKg07.whole [[5, d, a, b]]) = ((s.makes (h32 [unsigned32 d, unsigned32 a, unsigned32 b]) (s.two (h32 [unsigned32 a, unsigned32 b]) (h32 [unsigned32 b]) fun x y => x * y)).1, shown (s.makes (h32 [unsigned32 d, unsigned32 a, unsigned32 b]) (s.two (h32 [unsigned32 a, unsigned32 b]) (h32 [unsigned32 b]) fun x y => x * y)).2) := rfl
  rw [e, h32_u32 hd, h32_u32 ha, h32_u32 hb]
  exact made s _
theorem step_half (s : Abs) {d a : Int} (hd : W32 d) (ha : W32 a) : step s (PyKg07.whole [[6, d, a]]) = if Reg d ∧ Reg a then (s.set d.toNat (Kg07.half s.m (s.reg a.toNat) % s.m), [0]) else (s, [-1]) := by
  have e : step s (PyKg07.whole [[6, d, a]]) = ((s.makes (h32 [unsigned32 d, unsigned32 a]) ((s.of (h32 [unsigned32 a])).map (Kg07.half s.m))).1, shown (s.makes (h32 [unsigned32 d, unsigned32 a]) ((s.of (h32 [unsigned32 a])).map (Kg07.half s.m))).2) := rfl
  rw [e, h32_u32 hd, h32_u32 ha]
  exact made1 s _
theorem step_doubled (s : Abs) {d a t : Int} (hd : W32 d) (ha : W32 a) (ht : W32 t) : step s (PyKg07.whole [[7, d, a, t]]) = if (0 ≤ t ∧ t ≤ 4096) ∧ Reg d ∧ Reg a then (s.set d.toNat (s.reg a.toNat * 2 ^ t.toNat % s.m), [0]) else (s, [-1]) := by
  have e : step s (PyKg07.whole [[7, d, a, t]]) = ((s.makes (h32 [unsigned32 d, unsigned32 a, unsigned32 t]) ((times (h32 [unsigned32 t])).bind fun k => (s.of (h32 [unsigned32 a, unsigned32 t])).map fun x => x * 2 ^ k)).1, shown (s.makes (h32 [unsigned32 d, unsigned32 a, unsigned32 t]) ((times (h32 [unsigned32 t])).bind fun k => (s.of (h32 [unsigned32 a, unsigned32 t])).map fun x => x * 2 ^ k)).2) := rfl
  rw [e, h32_u32 hd, h32_u32 ha, h32_u32 ht]
  unfold times
  by_cases h1 : 0 ≤ t ∧ t ≤ 4096
  · rw [if_pos h1]
    show ((s.makes d ((s.of a).map fun x => x * 2 ^ t.toNat)).1, shown (s.makes d ((s.of a).map fun x => x * 2 ^ t.toNat)).2) = _
    rw [made1]
    by_cases h2 : Reg d ∧ Reg a
    · rw [if_pos h2, if_pos ⟨h1, h2⟩]
    · rw [if_neg h2, if_neg (fun q => h2 q.2)]
  · rw [if_neg h1]
    show ((s.makes d none).1, shown (s.makes d none).2) = _
    rw [makes_none, if_neg (fun q => h1 q.1)]
    rfl
theorem step_order (s : Abs) {a b : Int} (ha : W32 a) (hb : W32 b) : step s (PyKg07.whole [[10, a, b]]) = if Reg a ∧ Reg b then (s, [if s.reg a.toNat < s.reg b.toNat then -1 else if s.reg a.toNat = s.reg b.toNat then 0 else 1]) else (s, [-2]) := by
  have e : step s (PyKg07.whole [[10, a, b]]) = (match s.of (h32 [unsigned32 a, unsigned32 b]), s.of (h32 [unsigned32 b]) with
      | some x, some y => (s, [if x < y then -1 else if x = y then 0 else 1])
      | _, _ => (s, [-2])) := rfl
  rw [e, h32_u32 ha, h32_u32 hb]
  by_cases h1 : Reg a
  · by_cases h2 : Reg b
    · rw [of_some h1, of_some h2, if_pos ⟨h1, h2⟩]
    · rw [of_some h1, of_none h2, if_neg (fun q => h2 q.2)]
  · rw [of_none h1, if_neg (fun q => h1 q.1)]
end Kgm

set_option linter.all false
namespace Kgm
open Kg07 Kg07Neutral

def bnum (l : List Int) : Nat := (l.map Int.toNat).foldr (fun (c n : Nat) => c + 256 * n) 0
theorem number_bytes : ∀ {e : List Int}, (∀ z ∈ e, Bt z) → number ((e.map Int.toNat).map UInt8.ofNat) = bnum e
  | [], _ => rfl
  | z :: e, h => by
    have ih := number_bytes (e := e) fun y hy => h y (List.mem_cons_of_mem _ hy)
    have hz : Bt z := h z List.mem_cons_self
    unfold Bt at hz
    show (UInt8.ofNat z.toNat).toNat + 256 * number ((e.map Int.toNat).map UInt8.ofNat) = z.toNat + 256 * bnum e
    rw [ih, UInt8.toNat_ofNat', Nat.mod_eq_of_lt (by omega)]
theorem bnum_lt : ∀ {e : List Int}, (∀ z ∈ e, Bt z) → bnum e < 2 ^ (8 * e.length)
  | [], _ => by decide
  | z :: e, h => by
    have ih := bnum_lt (e := e) fun y hy => h y (List.mem_cons_of_mem _ hy)
    have hz : Bt z := h z List.mem_cons_self
    unfold Bt at hz
    have e1 : (2 : Nat) ^ (8 * (z :: e).length) = 256 * 2 ^ (8 * e.length) := by
      rw [List.length_cons, show 8 * (e.length + 1) = 8 + 8 * e.length by omega, Nat.pow_add]
    show z.toNat + 256 * bnum e < _
    rw [e1]
    omega
theorem num_lt : ∀ {x : List Int}, (∀ z ∈ x, Wd z) → num x < 2 ^ (64 * x.length)
  | [], _ => by decide
  | z :: x, h => by
    have ih := num_lt (x := x) fun y hy => h y (List.mem_cons_of_mem _ hy)
    have hz : Wd z := h z List.mem_cons_self
    unfold Wd at hz
    have e1 : (2 : Nat) ^ (64 * (z :: x).length) = 2 ^ 64 * 2 ^ (64 * x.length) := by
      rw [List.length_cons, show 64 * (x.length + 1) = 64 + 64 * x.length by omega, Nat.pow_add]
    show z.toNat + 2 ^ 64 * num x < _
    rw [e1]
    omega
theorem power_eq (m : Nat) : ∀ (k e x : Nat), e < 2 ^ k → Kg07.power m x k e = x ^ e % m
  | 0, e, x, h => by
    have e0 : e = 0 := by
      rw [Nat.pow_zero] at h
      omega
    subst e0
    rfl
  | k + 1, e, x, h => by
    show (if e = 0 then 1 % m else if e % 2 = 1 then Kg07.power m (x * x % m) k (e / 2) * x % m else Kg07.power m (x * x % m) k (e / 2)) = x ^ e % m
    rw [Nat.pow_succ] at h
    by_cases e0 : e = 0
    · subst e0; rfl
    · rw [if_neg e0, power_eq m k (e / 2) (x * x % m) (by omega), ← Nat.pow_mod]
      have e2 : x * x = x ^ 2 := by rw [Nat.pow_succ, Nat.pow_one]
      rw [e2, ← Nat.pow_mul]
      by_cases h1 : e % 2 = 1
      · rw [if_pos h1]
        have e3 : e = 2 * (e / 2) + 1 := by omega
        have e4 : x ^ e = x ^ (2 * (e / 2)) * x := by
          conv => lhs; rw [e3, Nat.pow_succ]
        rw [e4]
        exact Nat.mod_mul_mod _ _ _
      · rw [if_neg h1]
        have e3 : e = 2 * (e / 2) := by omega
        rw [← e3]
theorem step_power (s : Abs) {d a : Int} {e : List Int} (hd : W32 d) (ha : W32 a) (he : Byts e) : step s (PyKg07.whole [[8, d, a], e]) = if Reg d ∧ Reg a then (s.set d.toNat (s.reg a.toNat ^ bnum e % s.m), [0]) else (s, [-1]) := by
  have q : step s (PyKg07.whole [[8, d, a], e]) = (if 512 < e.length then ((s.makes (h32 (unsigned32 d :: unsigned32 a :: e.length :: e.map Int.toNat)) none).1, shown (s.makes (h32 (unsigned32 d :: unsigned32 a :: e.length :: e.map Int.toNat)) none).2) else
    ((s.makes (h32 (unsigned32 d :: unsigned32 a :: e.length :: e.map Int.toNat)) ((s.of (h32 (unsigned32 a :: e.length :: e.map Int.toNat))).map fun x => Kg07.power s.m x (8 * (((e.map Int.toNat).take e.length).map UInt8.ofNat).length) (number (((e.map Int.toNat).take e.length).map UInt8.ofNat)))).1,
     shown (s.makes (h32 (unsigned32 d :: unsigned32 a :: e.length :: e.map Int.toNat)) ((s.of (h32 (unsigned32 a :: e.length :: e.map Int.toNat))).map fun x => Kg07.power s.m x (8 * (((e.map Int.toNat).take e.length).map UInt8.ofNat).length) (number (((e.map Int.toNat).take e.length).map UInt8.ofNat)))).2)) := rfl
  have hl := he.len
  rw [q, h32_u32 hd, h32_u32 ha, if_neg (by omega), made1]
  have et : (e.map Int.toNat).take e.length = e.map Int.toNat := by
    rw [List.take_of_length_le]
    rw [List.length_map]
    exact Nat.le_refl _
  rw [et, number_bytes he.all, List.length_map, List.length_map, power_eq _ _ _ _ (bnum_lt he.all), Nat.mod_mod]
theorem wordsAt_row {a : List Int} (ha : Row a) (h1 : 1 ≤ a.length) (r : List Nat) : wordsAt a.length (a.map Int.toNat ++ r) = (some (num a), r) := by
  unfold wordsAt
  rw [if_pos ⟨h1, ha.len⟩]
  have e1 : (a.map Int.toNat ++ r).take a.length = a.map Int.toNat := by
    have : a.length = (a.map Int.toNat).length := (List.length_map _).symm
    rw [this, List.take_left]
  have e2 : (a.map Int.toNat ++ r).drop a.length = r := by
    have : a.length = (a.map Int.toNat).length := (List.length_map _).symm
    rw [this, List.drop_left]
  rw [e1, e2]
  rfl
theorem step_wide (s : Abs) {a b : List Int} (ha : Row a) (hb : Row b) (hab : b.length = a.length) : step s (PyKg07.whole [[11], a, b]) = if 1 ≤ a.length then (s, 0 :: words (2 * a.length) (num a * num b)) else (s, [-1]) := by
  have q : step s (PyKg07.whole [[11], a, b]) = (s, shown (Kg07.wide ((wordsAt a.length (a.map Int.toNat ++ b.map Int.toNat)).1.getD 0) ((wordsAt a.length (wordsAt a.length (a.map Int.toNat ++ b.map Int.toNat)).2).1.getD 0) a.length)) := rfl
  rw [q]
  unfold Kg07.wide
  by_cases h1 : 1 ≤ a.length
  · rw [if_pos ⟨h1, ha.len⟩, if_pos h1, wordsAt_row ha h1]
    have e3 : wordsAt a.length (b.map Int.toNat) = (some (num b), []) := by
      have z := wordsAt_row hb (by omega) []
      rw [List.append_nil, hab] at z
      exact z
    show (s, shown ⟨0, some (2 * a.length, num a * (wordsAt a.length (b.map Int.toNat)).1.getD 0)⟩) = _
    rw [e3]
    rfl
  · rw [if_neg (fun z => h1 z.1), if_neg h1]
    rfl
theorem step_shifted (s : Abs) {t : Int} {a : List Int} (ht : W32 t) (ha : Row a) : step s (PyKg07.whole [[12, t], a]) = if 1 ≤ a.length then (s, 0 :: words a.length (if 0 ≤ t then num a * 2 ^ t.toNat % 2 ^ (64 * a.length) else num a / 2 ^ (-t).toNat)) else (s, [-1]) := by
  have q : step s (PyKg07.whole [[12, t], a]) = (s, shown (Kg07.shifted ((wordsAt a.length (a.map Int.toNat ++ [unsigned32 t])).1.getD 0) a.length (h32 (wordsAt a.length (a.map Int.toNat ++ [unsigned32 t])).2))) := rfl
  rw [q]
  unfold Kg07.shifted
  by_cases h1 : 1 ≤ a.length
  · rw [if_pos ⟨h1, ha.len⟩, if_pos h1, wordsAt_row ha h1, h32_u32 ht]
    rfl
  · rw [if_neg (fun z => h1 z.1), if_neg h1]
    rfl

/-- what holds of an object that has begun -/
structure Good (s : Abs) : Prop where
  n1 : 1 ≤ s.n
  n64 : s.n ≤ 64
  odd : s.m % 2 = 1
  m3 : 3 ≤ s.m
  mlt : s.m < 2 ^ (64 * s.n)
  len : s.regs.length = 8
  lt : ∀ x ∈ s.regs, x < s.m
theorem Good.reg {s : Abs} (g : Good s) (r : Nat) : s.reg r < s.m := by
  unfold Abs.reg
  rw [List.getD_eq_getElem?_getD]
  cases e : s.regs[r]? with
  | none => exact Nat.lt_of_lt_of_le (by decide) g.m3
  | some x => exact g.lt x (List.mem_of_getElem? e)
theorem Good.get {s : Abs} (g : Good s) {r : Int} (h : Reg r) : s.regs[r.toNat]? = some (s.reg r.toNat) := by
  have hl : r.toNat < s.regs.length := by
    rw [g.len]
    have := h.1
    have := h.2
    omega
  unfold Abs.reg
  rw [List.getD_eq_getElem?_getD, List.getElem?_eq_getElem hl]
  rfl
theorem Good.set {s : Abs} (g : Good s) (r x : Nat) : Good (s.set r (x % s.m)) := by
  refine ⟨g.n1, g.n64, g.odd, g.m3, g.mlt, ?_, fun y hy => ?_⟩
  · show (s.regs.set r (x % s.m)).length = 8
    rw [List.length_set]
    exact g.len
  · have m3 := g.m3
    rcases List.mem_or_eq_of_mem_set hy with h | h
    · exact g.lt y h
    · rw [h]
      exact Nat.mod_lt _ (by omega)
theorem good_new {m : List Int} (h : Row m) (h1 : 1 ≤ m.length) (ho : num m % 2 = 1) (h3 : 3 ≤ num m) : Good ⟨num m, m.length, List.replicate 8 0⟩ := by
  refine ⟨h1, h.len, ho, h3, num_lt h.all, List.length_replicate, fun x hx => ?_⟩
  have := List.eq_of_mem_replicate hx
  subst this
  show 0 < num m
  omega

/-- the object behind some calls -/
def final (s : Abs) (cs : List Kg07Neutral.Call) : Abs := cs.foldl (fun s c => (step s c).1) s
theorem played_snoc (c : Kg07Neutral.Call) : ∀ (cs : List Kg07Neutral.Call) (s : Abs), PyFlat.played step s (cs ++ [c]) = PyFlat.played step s cs ++ [(step (final s cs) c).2]
  | [], s => rfl
  | b :: cs, s => by
    show (step s b).2 :: PyFlat.played step (step s b).1 (cs ++ [c]) = (step s b).2 :: (PyFlat.played step (step s b).1 cs ++ [(step (final (step s b).1 cs) c).2])
    rw [played_snoc c cs]
theorem final_snoc (c : Kg07Neutral.Call) (cs : List Kg07Neutral.Call) (s : Abs) : final s (cs ++ [c]) = (step (final s cs) c).1 := by
  unfold final
  rw [List.foldl_append]
  rfl
theorem told_snoc (l : List (List Int)) (a : List Int) : PyFlat.told (l ++ [a]) = PyFlat.told l ++ ((a.length : Int) :: a) := by
  unfold PyFlat.told
  rw [List.flatMap_append]
  simp
end Kgm

set_option linter.all false
namespace Kgm
open Kg07 Kg07Neutral

theorem words_length (k x : Nat) : (words k x).length = k := by
  unfold words
  rw [List.length_map, List.length_range]
theorem ite_ok {s : Abs} {p : Prop} [Decidable p] {x y : Abs × List Int} (h1 : p → Good x.1 ∧ x.2.length ≤ 129) (h2 : ¬ p → Good y.1 ∧ y.2.length ≤ 129) : Good (if p then x else y).1 ∧ (if p then x else y).2.length ≤ 129 := by
  by_cases h : p
  · rw [if_pos h]; exact h1 h
  · rw [if_neg h]; exact h2 h
theorem step_ok {s : Abs} (g : Good s) {c : List (List Int)} (f : Form c) : Good (step s (PyKg07.whole c)).1 ∧ (step s (PyKg07.whole c)).2.length ≤ 129 := by
  have sm : ∀ z : Int, Good (s, [z]).1 ∧ (s, [z]).2.length ≤ 129 := fun z => ⟨g, by show 1 ≤ 129; decide⟩
  have mk : ∀ r x : Nat, Good ((s.set r (x % s.m)), [(0 : Int)]).1 ∧ ((s.set r (x % s.m)), [(0 : Int)]).2.length ≤ 129 := fun r x => ⟨g.set r x, by show 1 ≤ 129; decide⟩
  cases f with
  | begin h =>
    rw [step_begin s h]
    exact ite_ok (s := s) (fun q => ⟨good_new h q.1 q.2.1 q.2.2, by show 1 ≤ 129; decide⟩) fun _ => sm _
  | put h1 h2 => rw [step_put s h1 h2 g.n1]; exact ite_ok (s := s) (fun q => mk _ _) fun _ => sm _
  | get h1 h2 h3 =>
    rw [step_get s h1 h2]
    exact ite_ok (s := s) (fun q => ⟨g, by show (words _ _).length + 1 ≤ 129; rw [words_length]; have := g.n64; omega⟩) fun _ => sm _
  | sum h1 h2 h3 => rw [step_sum s h1 h2 h3]; exact ite_ok (s := s) (fun q => mk _ _) fun _ => sm _
  | diff h1 h2 h3 => rw [step_diff s h1 h2 h3]; exact ite_ok (s := s) (fun q => mk _ _) fun _ => sm _
  | prod h1 h2 h3 => rw [step_prod s h1 h2 h3]; exact ite_ok (s := s) (fun q => mk _ _) fun _ => sm _
  | half h1 h2 => rw [step_half s h1 h2]; exact ite_ok (s := s) (fun q => mk _ _) fun _ => sm _
  | doubled h1 h2 h3 => rw [step_doubled s h1 h2 h3]; exact ite_ok (s := s) (fun q => mk _ _) fun _ => sm _
  | power h1 h2 h3 => rw [step_power s h1 h2 h3]; exact ite_ok (s := s) (fun q => mk _ _) fun _ => sm _
  | order h1 h2 => rw [step_order s h1 h2]; exact ite_ok (s := s) (fun q => sm _) fun _ => sm _
  | wide h1 h2 h3 =>
    rw [step_wide s h1 h2 h3]
    exact ite_ok (s := s) (fun q => ⟨g, by show (words _ _).length + 1 ≤ 129; rw [words_length]; have := h1.len; omega⟩) fun _ => sm _
  | shifted h1 h2 =>
    rw [step_shifted s h1 h2]
    exact ite_ok (s := s) (fun q => ⟨g, by show (words _ _).length + 1 ≤ 129; rw [words_length]; have := h2.len; omega⟩) fun _ => sm _

/-- what is asked, and what is due -/
structure Asked (l : List Int) (m : List Int) (rest : List (List (List Int))) : Prop where
  list : l = PyFlat.put ([[0], m] :: rest)
  row : Row m
  n1 : 1 ≤ m.length
  odd : num m % 2 = 1
  m3 : 3 ≤ num m
  form : ∀ c ∈ rest, Form c
  most : rest.length ≤ 99
  due : PyKg07.answers l = PyFlat.told (PyFlat.played step start (([[0], m] :: rest).map PyKg07.whole))
theorem asked_of {l : List Int} (h : PyKg07.answers_asked l = true) : ∃ m rest, Asked l m rest := by
  unfold PyKg07.answers_asked at h
  cases e : PyKg07.calls l with
  | none => rw [e] at h; cases h
  | some cs' =>
    rw [e] at h
    have h1 : (PyFlat.atMost 100 cs' && asked cs') = true := h
    rw [Bool.and_eq_true] at h1
    unfold PyKg07.calls at e
    cases e2 : PyFlat.calls PyKg07.shape l.length l with
    | none => rw [e2] at e; cases e
    | some cs =>
      have e3 : cs.map PyKg07.whole = cs' := by
        rw [e2] at e
        exact Option.some.inj e
      have hd : PyKg07.answers l = PyFlat.told (PyFlat.played step start (cs.map PyKg07.whole)) := by
        unfold PyKg07.answers PyKg07.calls
        rw [e2]
      subst e3
      obtain ⟨hl, hok⟩ := PyFlat.put_calls _ _ _ e2
      have h2 := h1.2
      unfold asked at h2
      rw [Bool.and_eq_true, Bool.and_eq_true, Bool.and_eq_true, List.all_eq_true] at h2
      obtain ⟨_, hlen, hall, hfirst⟩ := h2
      have hform : ∀ c ∈ cs, Form c := fun c hc => form_of (hok c hc) (hall _ (List.mem_map_of_mem hc))
      cases cs with
      | nil => cases hfirst
      | cons c rest =>
        have hf : (((PyKg07.whole c).headD []).headD 9 == 0 && (step start (PyKg07.whole c)).2 == [0]) = true := hfirst
        rw [Bool.and_eq_true] at hf
        have hc := hform c List.mem_cons_self
        have hm : rest.length ≤ 99 := by
          rw [decide_eq_true_eq, List.length_map, List.length_cons] at hlen
          omega
        cases hc with
        | @begin m hr =>
          refine ⟨m, rest, ?_⟩
          have hz := hf.2
          rw [step_begin start hr] at hz
          by_cases q : 1 ≤ m.length ∧ num m % 2 = 1 ∧ 3 ≤ num m
          · exact ⟨hl, hr, q.1, q.2.1, q.2.2, fun c hc => hform c (List.mem_cons_of_mem _ hc), hm, hd⟩
          · rw [if_neg q] at hz
            exact absurd hz (by decide)
        | put h1 h2 => exact absurd (show (((1 : Int) == 0) = true) from hf.1) (by decide)
        | get h1 h2 h3 => exact absurd (show (((2 : Int) == 0) = true) from hf.1) (by decide)
        | sum h1 h2 h3 => exact absurd (show (((3 : Int) == 0) = true) from hf.1) (by decide)
        | diff h1 h2 h3 => exact absurd (show (((4 : Int) == 0) = true) from hf.1) (by decide)
        | prod h1 h2 h3 => exact absurd (show (((5 : Int) == 0) = true) from hf.1) (by decide)
        | half h1 h2 => exact absurd (show (((6 : Int) == 0) = true) from hf.1) (by decide)
        | doubled h1 h2 h3 => exact absurd (show (((7 : Int) == 0) = true) from hf.1) (by decide)
        | power h1 h2 h3 => exact absurd (show (((8 : Int) == 0) = true) from hf.1) (by decide)
        | order h1 h2 => exact absurd (show (((10 : Int) == 0) = true) from hf.1) (by decide)
        | wide h1 h2 h3 => exact absurd (show (((11 : Int) == 0) = true) from hf.1) (by decide)
        | shifted h1 h2 => exact absurd (show (((12 : Int) == 0) = true) from hf.1) (by decide)
end Kgm

set_option linter.all false
namespace Kgm
open Kg07 Kg07Neutral

/-! ### numbers by a loop -/
/-- the words from the highest down -/
theorem num_snoc_rev (x : List Int) (i : Nat) (hi : i < x.length) (hw : ∀ z ∈ x, Wd z) :
    num (x.drop (x.length - (i + 1))) = num (x.drop (x.length - i)) * 2 ^ 64 + (x.getD (x.length - 1 - i) 0).toNat := by
  have hlt : x.length - (i + 1) < x.length := by omega
  have e : x.drop (x.length - (i + 1)) = x[x.length - (i + 1)] :: x.drop (x.length - (i + 1) + 1) := List.drop_eq_getElem_cons hlt
  rw [e, show x.length - (i + 1) + 1 = x.length - i by omega]
  have e2 : x.getD (x.length - 1 - i) 0 = x[x.length - (i + 1)] := by
    rw [List.getD_eq_getElem?_getD, show x.length - 1 - i = x.length - (i + 1) by omega, List.getElem?_eq_getElem hlt]
    rfl
  rw [e2]
  show x[x.length - (i + 1)].toNat + 2 ^ 64 * num (x.drop (x.length - i)) = _
  omega
theorem num_drop_lt {x : List Int} (h : Row x) (k : Nat) : num (x.drop k) < 2 ^ 4096 := by
  have h1 : num (x.drop k) < 2 ^ (64 * (x.drop k).length) := num_lt fun z hz => h.all z (List.mem_of_mem_drop hz)
  have h2 : 64 * (x.drop k).length ≤ 4096 := by
    rw [List.length_drop]
    have := h.len
    omega
  exact Nat.lt_of_lt_of_le h1 (Nat.pow_le_pow_right (by decide) h2)
theorem num_row_lt {x : List Int} (h : Row x) : num x < 2 ^ 4096 := num_drop_lt h 0
theorem Good.reg_lt {s : Abs} (g : Good s) (r : Nat) : s.reg r < 2 ^ 4096 := by
  have h1 := g.reg r
  have h2 : 64 * s.n ≤ 4096 := by have := g.n64; omega
  exact Nat.lt_of_lt_of_le (Nat.lt_trans h1 g.mlt) (Nat.pow_le_pow_right (by decide) h2)
theorem words_snoc (k x : Nat) : words (k + 1) x = words k x ++ [((x / 2 ^ (64 * k) % 2 ^ 64 : Nat) : Int)] := by
  unfold words
  rw [List.range_succ, List.map_append]
  rfl
/-- the difference by Python's remainder -/
theorem sub_mod {x y m : Nat} (hy : y < m) : ((x : Int) - (y : Int)) % (m : Int) = (((x + m - y) % m : Nat) : Int) := by
  have e : ((x : Int) - (y : Int)) % (m : Int) = ((x + m - y : Nat) : Int) % (m : Int) := by
    have e1 : ((x + m - y : Nat) : Int) = ((x : Int) - (y : Int)) + (m : Int) := by omega
    rw [e1, Int.add_emod_right]
  rw [e]
  exact (Int.natCast_emod _ _).symm
theorem half_lt {m x : Nat} (hx : x < m) : Kg07.half m x < m := by
  unfold Kg07.half
  split <;> omega
end Kgm

set_option linter.all false
namespace Kgm
open Kg07 Kg07Neutral

theorem bnum_snoc_rev (x : List Int) (i : Nat) (hi : i < x.length) :
    bnum (x.drop (x.length - (i + 1))) = bnum (x.drop (x.length - i)) * 256 + (x.getD (x.length - 1 - i) 0).toNat := by
  have hlt : x.length - (i + 1) < x.length := by omega
  have e : x.drop (x.length - (i + 1)) = x[x.length - (i + 1)] :: x.drop (x.length - (i + 1) + 1) := List.drop_eq_getElem_cons hlt
  rw [e, show x.length - (i + 1) + 1 = x.length - i by omega]
  have e2 : x.getD (x.length - 1 - i) 0 = x[x.length - (i + 1)] := by
    rw [List.getD_eq_getElem?_getD, show x.length - 1 - i = x.length - (i + 1) by omega, List.getElem?_eq_getElem hlt]
    rfl
  rw [e2]
  show x[x.length - (i + 1)].toNat + 256 * bnum (x.drop (x.length - i)) = _
  omega
/-- four bits more of an exponent -/
theorem pow_digit {b m E d y z : Nat} (hy : y % m = b ^ E % m) (hz : z % m = y ^ 16 % m) : z * (b ^ d % m) % m % m = b ^ (E * 16 + d) % m := by
  rw [Nat.mod_mod, Nat.mul_mod, hz, Nat.mod_mod, Nat.pow_mod y 16 m, hy, ← Nat.pow_mod, ← Nat.mul_mod, ← Nat.pow_mul, ← Nat.pow_add]
theorem pow_square {x m k y : Nat} (hy : y % m = x ^ 2 ^ k % m) : y * y % m % m = x ^ 2 ^ (k + 1) % m := by
  rw [Nat.mod_mod, Nat.mul_mod, hy, ← Nat.mul_mod, ← Nat.pow_add, Nat.pow_succ 2 k, Nat.mul_two]
/-- the first powers -/
def pows (b m k : Nat) : List Nat := (List.range k).map fun i => b ^ i % m
theorem pows_one {m : Nat} (b : Nat) (h : 2 ≤ m) : pows b m 1 = [1] := by
  show [b ^ 0 % m] = [1]
  rw [Nat.pow_zero, Nat.mod_eq_of_lt h]
theorem pows_length (b m k : Nat) : (pows b m k).length = k := by
  unfold pows
  rw [List.length_map, List.length_range]
theorem pows_at {b m k i : Nat} (h : i < k) : (pows b m k)[i]? = some (b ^ i % m) := by
  unfold pows
  rw [List.getElem?_map, List.getElem?_range h]
  rfl
theorem pows_snoc (b m k : Nat) : pows b m (k + 1) = pows b m k ++ [b ^ k % m] := by
  unfold pows
  rw [List.range_succ, List.map_append]
  rfl
theorem pow_more (b m k : Nat) : b ^ k % m * b % m = b ^ (k + 1) % m := by
  rw [Nat.pow_succ, Nat.mul_mod, Nat.mod_mod, ← Nat.mul_mod]
theorem words_mod (n x : Nat) : words n (x % 2 ^ (64 * n)) = words n x := by
  unfold words
  apply List.map_congr_left
  intro i hi
  have hi := List.mem_range.mp hi
  have e : x % 2 ^ (64 * n) / 2 ^ (64 * i) % 2 ^ 64 = x / 2 ^ (64 * i) % 2 ^ 64 := by
    apply Nat.eq_of_testBit_eq
    intro j
    rw [Nat.testBit_mod_two_pow, Nat.testBit_mod_two_pow, Nat.testBit_div_two_pow, Nat.testBit_div_two_pow, Nat.testBit_mod_two_pow]
    by_cases hj : j < 64
    · have h1 : j + 64 * i < 64 * n := by omega
      have h2 : 64 * i + j < 64 * n := by omega
      simp [hj, h1, h2]
    · simp [hj]
  rw [e]
/-- a shift by all the bits or more drops the whole number -/
theorem words_shl (n x t : Nat) : words n (x * 2 ^ (if 64 * n < t then 64 * n else t)) = words n (x * 2 ^ t % 2 ^ (64 * n)) := by
  by_cases h : 64 * n < t
  · rw [if_pos h, ← words_mod n (x * 2 ^ (64 * n)), Nat.mul_mod_left]
    have e : x * 2 ^ t % 2 ^ (64 * n) = 0 := by
      rw [show t = (t - 64 * n) + 64 * n by omega, Nat.pow_add, ← Nat.mul_assoc, Nat.mul_mod_left]
    rw [e]
  · rw [if_neg h, words_mod]
theorem lt_of_mod {x m : Nat} (h : 0 < m) (hm : m < 2 ^ 4096) : x % m < 2 ^ 4096 := Nat.lt_trans (Nat.mod_lt _ h) hm
theorem Good.mlt2 {s : Abs} (g : Good s) : s.m < 2 ^ 4096 := by
  have h2 : 64 * s.n ≤ 4096 := by have := g.n64; omega
  exact Nat.lt_of_lt_of_le g.mlt (Nat.pow_le_pow_right (by decide) h2)
end Kgm

set_option linter.all false
namespace Kgm
open Kg07 Kg07Neutral

/-! ### a call as it stands in the list -/
theorem put1_row (h x : List Int) (r : List Int) : PyFlat.put1 [h, x] ++ r = h ++ ((x.length : Int) :: (x ++ r)) := by
  simp [PyFlat.put1, PyFlat.putRows, PyFlat.putRow]
theorem put1_none (h : List Int) (r : List Int) : PyFlat.put1 [h] ++ r = h ++ r := by
  simp [PyFlat.put1, PyFlat.putRows]
theorem put1_rows (h x y : List Int) (r : List Int) : PyFlat.put1 [h, x, y] ++ r = h ++ ((x.length : Int) :: (x ++ ((y.length : Int) :: (y ++ r)))) := by
  simp [PyFlat.put1, PyFlat.putRows, PyFlat.putRow]
theorem len_row (h x : List Int) : (PyFlat.put1 [h, x]).length = h.length + x.length + 1 := by
  simp [PyFlat.put1, PyFlat.putRows, PyFlat.putRow]
  omega
theorem len_none (h : List Int) : (PyFlat.put1 [h]).length = h.length := by
  simp [PyFlat.put1, PyFlat.putRows]
theorem len_rows (h x y : List Int) : (PyFlat.put1 [h, x, y]).length = h.length + x.length + y.length + 2 := by
  simp [PyFlat.put1, PyFlat.putRows, PyFlat.putRow]
  omega
theorem form_head {c : List (List Int)} (f : Form c) : ∃ k tl, PyFlat.put1 c = k :: tl ∧ (k ∈ ([0, 1, 2] : List Int) ∨ k ∈ ([3, 4, 5] : List Int) ∨ k ∈ ([6, 7, 8, 10] : List Int) ∨ k ∈ ([11, 12] : List Int)) ∧ ((∃ m, c = [[0], m]) → k = 0) := by
  cases f with
  | begin _ => exact ⟨0, _, rfl, .inl (by decide), fun _ => rfl⟩
  | put _ _ => exact ⟨1, _, rfl, .inl (by decide), fun ⟨_, e⟩ => by simp at e⟩
  | get _ _ _ => exact ⟨2, _, rfl, .inl (by decide), fun ⟨_, e⟩ => by simp at e⟩
  | sum _ _ _ => exact ⟨3, _, rfl, .inr (.inl (by decide)), fun ⟨_, e⟩ => by simp at e⟩
  | diff _ _ _ => exact ⟨4, _, rfl, .inr (.inl (by decide)), fun ⟨_, e⟩ => by simp at e⟩
  | prod _ _ _ => exact ⟨5, _, rfl, .inr (.inl (by decide)), fun ⟨_, e⟩ => by simp at e⟩
  | half _ _ => exact ⟨6, _, rfl, .inr (.inr (.inl (by decide))), fun ⟨_, e⟩ => by simp at e⟩
  | doubled _ _ _ => exact ⟨7, _, rfl, .inr (.inr (.inl (by decide))), fun ⟨_, e⟩ => by simp at e⟩
  | power _ _ _ => exact ⟨8, _, rfl, .inr (.inr (.inl (by decide))), fun ⟨_, e⟩ => by simp at e⟩
  | order _ _ => exact ⟨10, _, rfl, .inr (.inr (.inl (by decide))), fun ⟨_, e⟩ => by simp at e⟩
  | wide _ _ _ => exact ⟨11, _, rfl, .inr (.inr (.inr (by decide))), fun ⟨_, e⟩ => by simp at e⟩
  | shifted _ _ => exact ⟨12, _, rfl, .inr (.inr (.inr (by decide))), fun ⟨_, e⟩ => by simp at e⟩
theorem form_words {c : List (List Int)} {k : Int} {tl rest : List Int} (f : Form c) (hk : k ∈ ([0, 1, 2] : List Int)) (h : k :: tl = PyFlat.put1 c ++ rest) :
    (∃ m, Row m ∧ c = [[0], m] ∧ k = 0 ∧ tl = (m.length : Int) :: (m ++ rest)) ∨ (∃ r x, W32 r ∧ Row x ∧ c = [[1, r], x] ∧ k = 1 ∧ tl = r :: (x.length : Int) :: (x ++ rest)) ∨
    (∃ r n, W32 r ∧ 0 ≤ n ∧ c = [[2, r, n]] ∧ k = 2 ∧ tl = r :: n :: rest) := by
  have no : ∀ {z : Int} {t : List Int}, z ∉ ([0, 1, 2] : List Int) → k :: tl = z :: t → False := fun hz e => hz ((List.cons.inj e).1 ▸ hk)
  cases f with
  | begin h1 => rw [put1_row] at h; exact .inl ⟨_, h1, rfl, (List.cons.inj h).1, (List.cons.inj h).2⟩
  | put h1 h2 => rw [put1_row] at h; exact .inr (.inl ⟨_, _, h1, h2, rfl, (List.cons.inj h).1, (List.cons.inj h).2⟩)
  | get h1 h2 h3 => rw [put1_none] at h; exact .inr (.inr ⟨_, _, h1, h2, rfl, (List.cons.inj h).1, (List.cons.inj h).2⟩)
  | sum _ _ _ => exact (no (by decide) h).elim
  | diff _ _ _ => exact (no (by decide) h).elim
  | prod _ _ _ => exact (no (by decide) h).elim
  | half _ _ => exact (no (by decide) h).elim
  | doubled _ _ _ => exact (no (by decide) h).elim
  | power _ _ _ => exact (no (by decide) h).elim
  | order _ _ => exact (no (by decide) h).elim
  | wide _ _ _ => exact (no (by decide) h).elim
  | shifted _ _ => exact (no (by decide) h).elim
theorem form_three {c : List (List Int)} {k : Int} {tl rest : List Int} (f : Form c) (hk : k ∈ ([3, 4, 5] : List Int)) (h : k :: tl = PyFlat.put1 c ++ rest) :
    ∃ d a b, W32 d ∧ W32 a ∧ W32 b ∧ c = [[k, d, a, b]] ∧ tl = d :: a :: b :: rest := by
  have no : ∀ {z : Int} {t : List Int}, z ∉ ([3, 4, 5] : List Int) → k :: tl = z :: t → False := fun hz e => hz ((List.cons.inj e).1 ▸ hk)
  cases f with
  | begin h1 => exact (no (by decide) h).elim
  | put h1 h2 => exact (no (by decide) h).elim
  | get h1 h2 h3 => exact (no (by decide) h).elim
  | sum h1 h2 h3 => rw [put1_none] at h; obtain ⟨rfl, e⟩ := List.cons.inj h; exact ⟨_, _, _, h1, h2, h3, rfl, e⟩
  | diff h1 h2 h3 => rw [put1_none] at h; obtain ⟨rfl, e⟩ := List.cons.inj h; exact ⟨_, _, _, h1, h2, h3, rfl, e⟩
  | prod h1 h2 h3 => rw [put1_none] at h; obtain ⟨rfl, e⟩ := List.cons.inj h; exact ⟨_, _, _, h1, h2, h3, rfl, e⟩
  | half _ _ => exact (no (by decide) h).elim
  | doubled _ _ _ => exact (no (by decide) h).elim
  | power _ _ _ => exact (no (by decide) h).elim
  | order _ _ => exact (no (by decide) h).elim
  | wide _ _ _ => exact (no (by decide) h).elim
  | shifted _ _ => exact (no (by decide) h).elim
theorem form_two {c : List (List Int)} {k : Int} {tl rest : List Int} (f : Form c) (hk : k ∈ ([6, 7, 8, 10] : List Int)) (h : k :: tl = PyFlat.put1 c ++ rest) :
    ∃ d a, W32 d ∧ W32 a ∧ ((c = [[6, d, a]] ∧ k = 6 ∧ tl = d :: a :: rest) ∨ (∃ t, W32 t ∧ c = [[7, d, a, t]] ∧ k = 7 ∧ tl = d :: a :: t :: rest) ∨
      (∃ e, Byts e ∧ c = [[8, d, a], e] ∧ k = 8 ∧ tl = d :: a :: (e.length : Int) :: (e ++ rest)) ∨ (c = [[10, d, a]] ∧ k = 10 ∧ tl = d :: a :: rest)) := by
  have no : ∀ {z : Int} {t : List Int}, z ∉ ([6, 7, 8, 10] : List Int) → k :: tl = z :: t → False := fun hz e => hz ((List.cons.inj e).1 ▸ hk)
  cases f with
  | begin h1 => exact (no (by decide) h).elim
  | put h1 h2 => exact (no (by decide) h).elim
  | get h1 h2 h3 => exact (no (by decide) h).elim
  | sum _ _ _ => exact (no (by decide) h).elim
  | diff _ _ _ => exact (no (by decide) h).elim
  | prod _ _ _ => exact (no (by decide) h).elim
  | half h1 h2 => rw [put1_none] at h; obtain ⟨e1, e⟩ := List.cons.inj h; exact ⟨_, _, h1, h2, .inl ⟨rfl, e1, e⟩⟩
  | doubled h1 h2 h3 => rw [put1_none] at h; obtain ⟨e1, e⟩ := List.cons.inj h; exact ⟨_, _, h1, h2, .inr (.inl ⟨_, h3, rfl, e1, e⟩)⟩
  | power h1 h2 h3 => rw [put1_row] at h; obtain ⟨e1, e⟩ := List.cons.inj h; exact ⟨_, _, h1, h2, .inr (.inr (.inl ⟨_, h3, rfl, e1, e⟩))⟩
  | order h1 h2 => rw [put1_none] at h; obtain ⟨e1, e⟩ := List.cons.inj h; exact ⟨_, _, h1, h2, .inr (.inr (.inr ⟨rfl, e1, e⟩))⟩
  | wide _ _ _ => exact (no (by decide) h).elim
  | shifted _ _ => exact (no (by decide) h).elim
theorem form_whole {c : List (List Int)} {k : Int} {tl rest : List Int} (f : Form c) (hk : k ∈ ([11, 12] : List Int)) (h : k :: tl = PyFlat.put1 c ++ rest) :
    (∃ x y, Row x ∧ Row y ∧ y.length = x.length ∧ c = [[11], x, y] ∧ k = 11 ∧ tl = (x.length : Int) :: (x ++ ((y.length : Int) :: (y ++ rest)))) ∨
    (∃ t x, W32 t ∧ Row x ∧ c = [[12, t], x] ∧ k = 12 ∧ tl = t :: (x.length : Int) :: (x ++ rest)) := by
  have no : ∀ {z : Int} {t : List Int}, z ∉ ([11, 12] : List Int) → k :: tl = z :: t → False := fun hz e => hz ((List.cons.inj e).1 ▸ hk)
  cases f with
  | begin h1 => exact (no (by decide) h).elim
  | put h1 h2 => exact (no (by decide) h).elim
  | get h1 h2 h3 => exact (no (by decide) h).elim
  | sum _ _ _ => exact (no (by decide) h).elim
  | diff _ _ _ => exact (no (by decide) h).elim
  | prod _ _ _ => exact (no (by decide) h).elim
  | half h1 h2 => exact (no (by decide) h).elim
  | doubled h1 h2 h3 => exact (no (by decide) h).elim
  | power h1 h2 h3 => exact (no (by decide) h).elim
  | order h1 h2 => exact (no (by decide) h).elim
  | wide h1 h2 h3 => rw [put1_rows] at h; obtain ⟨e1, e⟩ := List.cons.inj h; exact .inl ⟨_, _, h1, h2, h3, rfl, e1, e⟩
  | shifted h1 h2 => rw [put1_row] at h; obtain ⟨e1, e⟩ := List.cons.inj h; exact .inr ⟨_, _, h1, h2, rfl, e1, e⟩
theorem whole_state {c : List (List Int)} {k : Int} {tl rest : List Int} (s : Abs) (f : Form c) (hk : k ∈ ([11, 12] : List Int)) (h : k :: tl = PyFlat.put1 c ++ rest) : (step s (PyKg07.whole c)).1 = s := by
  rcases form_whole f hk h with ⟨x, y, h1, h2, h3, rfl, _, _⟩ | ⟨t, x, h1, h2, rfl, _, _⟩
  · rw [step_wide s h1 h2 h3]
    by_cases q : 1 ≤ x.length
    · rw [if_pos q]
    · rw [if_neg q]
  · rw [step_shifted s h1 h2]
    by_cases q : 1 ≤ x.length
    · rw [if_pos q]
    · rw [if_neg q]
end Kgm

set_option linter.all false
namespace Kgm
open Kg07 Kg07Neutral
open PyKg07 (whole)

/-! ### call by call -/
def told (cs : List (List (List Int))) : List Int := PyFlat.told (PyFlat.played step Kg07Neutral.start (cs.map whole))
def fin (cs : List (List (List Int))) : Abs := final Kg07Neutral.start (cs.map whole)
theorem told_more (cs : List (List (List Int))) (c : List (List Int)) : told (cs ++ [c]) = told cs ++ (((step (fin cs) (whole c)).2.length : Int) :: (step (fin cs) (whole c)).2) := by
  unfold told fin
  rw [List.map_append, List.map_cons, List.map_nil, Kgm.played_snoc, Kgm.told_snoc]
theorem fin_more (cs : List (List (List Int))) (c : List (List Int)) : fin (cs ++ [c]) = (step (fin cs) (whole c)).1 := by
  unfold fin
  rw [List.map_append, List.map_cons, List.map_nil, Kgm.final_snoc]
/-- the turn's facts: done, still to do, the bank's object -/
structure Now (m : List Int) (rest done todo : List (List (List Int))) (s : Abs) : Prop where
  all : done ++ todo = [[0], m] :: rest
  st : (done = [] ∧ True) ∨ (Good s ∧ s = fin done)
  len : (told done).length ≤ 130 * done.length
theorem Now.form {m : List Int} {rest done cs : List (List (List Int))} {c : List (List Int)} {s : Abs} {ns : List Int} (N : Now m rest done (c :: cs) s) (A : Asked ns m rest) : Form c := by
  have h : c ∈ [[0], m] :: rest := by
    rw [← N.all]
    exact List.mem_append_right _ List.mem_cons_self
  rcases List.mem_cons.mp h with rfl | h
  · exact .begin A.row
  · exact A.form c h
theorem Now.first {m : List Int} {rest cs done : List (List (List Int))} {c : List (List Int)} {s : Abs} (N : Now m rest done (c :: cs) s) : Good s ∨ ∃ m, c = [[0], m] := by
  rcases N.st with ⟨rfl, _⟩ | ⟨g, _⟩
  · exact .inr ⟨m, (List.cons.inj N.all).1⟩
  · exact .inl g
/-- one call more -/
theorem Now.more {m : List Int} {rest done cs : List (List (List Int))} {c : List (List Int)} {s : Abs} {ns : List Int} (N : Now m rest done (c :: cs) s) (A : Asked ns m rest) :
    Now m rest (done ++ [c]) cs (step s (whole c)).1 ∧ step s (whole c) = step (fin done) (whole c) ∧ (step s (whole c)).2.length ≤ 129 := by
  have hf := N.form A
  have e : (done ++ [c]) ++ cs = [[0], m] :: rest := by rw [List.append_assoc]; exact N.all
  have k : Good (step s (whole c)).1 ∧ step s (whole c) = step (fin done) (whole c) ∧ (step s (whole c)).2.length ≤ 129 := by
    rcases N.st with ⟨rfl, _⟩ | ⟨g, hs⟩
    · obtain rfl := (List.cons.inj N.all).1
      rw [Kgm.step_begin s A.row, Kgm.step_begin (fin []) A.row, if_pos ⟨A.n1, A.odd, A.m3⟩, if_pos ⟨A.n1, A.odd, A.m3⟩]
      exact ⟨Kgm.good_new A.row A.n1 A.odd A.m3, rfl, by show 1 ≤ 129; decide⟩
    · have h := Kgm.step_ok g hf
      exact ⟨h.1, by rw [← hs], h.2⟩
  refine ⟨⟨e, .inr ⟨k.1, ?_⟩, ?_⟩, k.2⟩
  · rw [fin_more, ← k.2.1]
  · have h1 := N.len
    have h2 := k.2.2
    rw [told_more, ← k.2.1, List.length_append, List.length_append, List.length_cons, List.length_singleton]
    omega
theorem Now.short {m : List Int} {rest done todo : List (List (List Int))} {s : Abs} {ns : List Int} (N : Now m rest done todo s) (A : Asked ns m rest) : (told done).length ≤ 13000 := by
  have h1 := N.len
  have h2 := congrArg List.length N.all
  have h3 := A.most
  rw [List.length_append, List.length_cons] at h2
  omega
theorem put_nil {p : Nat} {ns : List Int} (h : ns.drop p = PyFlat.put []) : ns.length ≤ p := List.drop_eq_nil_iff.mp h
theorem put_cons {p : Nat} {ns : List Int} {c : List (List Int)} {cs : List (List (List Int))} (f : Form c) (h : ns.drop p = PyFlat.put (c :: cs)) : ¬ ns.length ≤ p ∧ ns.drop p = PyFlat.put1 c ++ PyFlat.put cs := by
  refine ⟨fun q => ?_, h⟩
  obtain ⟨k, tl, e, _⟩ := form_head f
  rw [List.drop_eq_nil_iff.mpr q] at h
  have h : [] = PyFlat.put1 c ++ PyFlat.put cs := h
  rw [e] at h
  cases h
theorem put_next {p : Nat} {ns : List Int} {c : List (List Int)} {cs : List (List (List Int))} (h : ns.drop p = PyFlat.put1 c ++ PyFlat.put cs) : ns.drop (p + (PyFlat.put1 c).length) = PyFlat.put cs := by
  rw [← List.drop_drop, h, List.drop_left]
end Kgm

set_option Elab.async false
set_option linter.all false
set_option maxRecDepth 100000
namespace L2
open PySem PySem.Spec PyProof.Rows

/-! ### numbers of many bits -/
/-- an int of at most 20000 bits -/
structure Fits (i : Int) : Prop where
  lt : i.natAbs < 2 ^ 20000
theorem Fits.bits {i : Int} (h : Fits i) : Builtin.Int.intBits i ≤ 20000 := by
  unfold Builtin.Int.intBits
  split
  · exact Nat.zero_le _
  · rename_i hz
    have hz : ¬ i = 0 := by simpa using hz
    have : i.natAbs.log2 < 20000 := (Nat.log2_lt (by omega)).mpr h.lt
    omega
theorem Fits.nat {x k : Nat} (h : x < 2 ^ k) (hk : k ≤ 20000) : Fits (x : Int) := by
  refine ⟨?_⟩
  rw [Int.natAbs_natCast]
  exact Nat.lt_of_lt_of_le h (Nat.pow_le_pow_right (by decide) hk)
theorem Fits.neg {i : Int} (h : Fits i) : Fits (-i) := ⟨by rw [Int.natAbs_neg]; exact h.lt⟩
section
variable {X : Cx}
theorem pe_gint {x : Str} {n : Int} {pos : Pos} (hg : Gl X x) (hm : ∃ u, X.mg x = some (Value.int n u)) (hd : (x == ("__debug__" : Str)) = false := by decide) : PE X (.Name x pos) (tC (.int n)) := by
  obtain ⟨u, hm⟩ := hm
  exact pe_glob hg hm ⟨u, rfl⟩ hd
theorem mulOk {i j : Int} (hi : Fits i) (hj : Fits j) : IntMulOk i j := IntMulOk.of_le hi.bits hj.bits (by decide)
theorem op_mulB : OpR X (binaryOp .Mult) (rI (fun i j => Fits i ∧ Fits j) fun i j => .int (i * j)) := opI fun _ _ _ _ _ _ _ hc q => mul_int q (mulOk hc.1 hc.2)
theorem iop_mulB : OpR X (inplaceOp .Mult) (rI (fun i j => Fits i ∧ Fits j) fun i j => .int (i * j)) := opI fun _ _ _ _ _ _ _ hc q => imul_int q (mulOk hc.1 hc.2)
theorem op_shlB : OpR X (binaryOp .LShift) (rI (fun i j => Fits i ∧ 0 ≤ j ∧ j ≤ 100000) fun i j => .int (i * 2 ^ j.toNat)) := opI fun _ _ _ _ _ _ _ hc q => by
  have h1 := hc.1.bits
  have h2 := hc.2.1
  have h3 := hc.2.2
  exact lshift_int h2 (by omega) q
theorem iop_shlB : OpR X (inplaceOp .LShift) (rI (fun i j => Fits i ∧ 0 ≤ j ∧ j ≤ 100000) fun i j => .int (i * 2 ^ j.toNat)) := opI fun _ _ _ _ _ _ _ hc q => by
  have h1 := hc.1.bits
  have h2 := hc.2.1
  have h3 := hc.2.2
  exact ilshift_int h2 (by omega) q
end

/-! ### heaps -/
theorem upd_none {H : Hp} {l p : Addr} {o : HO} (h : upd H l o p = none) : H p = none ∧ p ≠ l := by
  by_cases e : p = l
  · subst e
    rw [upd_same] at h
    cases h
  · rw [upd_ne e] at h
    exact ⟨h, e⟩
theorem SqL.keep {K : PySem.W.Frag} {H H' : Hp} {a : Addr} {xs : List V} (h : SqL K H a xs) (k : ∀ o, H a = some o → H' a = some o) : SqL K H' a xs := by
  rcases h with (h | ⟨o, h⟩) | h
  · exact .inl (.inl (k _ h))
  · exact .inl (.inr ⟨o, k _ h⟩)
  · exact .inr h
/-- the list that was handed in: known, never written -/
def Req (K : PySem.W.Frag) (H : Hp) (a : Addr) (ns : List Int) : Prop := (∃ ob, H a = some (.frz ob (.lst (ns.map V.int)))) ∨ ∀ H' : Hp, SqL K H' a (ns.map V.int)
theorem Req.seq {K : PySem.W.Frag} {H : Hp} {a : Addr} {ns : List Int} (r : Req K H a ns) : SqL K H a (ns.map V.int) := by
  rcases r with ⟨ob, h⟩ | h
  · exact .inl (.inr ⟨ob, h⟩)
  · exact h H
theorem Req.keep {K : PySem.W.Frag} {H H' : Hp} {a : Addr} {ns : List Int} (r : Req K H a ns) (k : ∀ ob u, H a = some (.frz ob u) → H' a = some (.frz ob u)) : Req K H' a ns := by
  rcases r with ⟨ob, h⟩ | h
  · exact .inl ⟨ob, k _ _ h⟩
  · exact .inr h
theorem Req.of {K : PySem.W.Frag} {H : Hp} {a : Addr} {ns : List Int} (h : SqL K H a (ns.map V.int)) (n : ∀ xs, H a ≠ some (.lst xs)) : Req K H a ns := by
  rcases h with (h | ⟨o, h⟩) | h
  · exact absurd h (n _)
  · exact .inl ⟨o, h⟩
  · exact .inr fun _ => .inr h
/-- what was tracked is as it was, but at the places M -/
def Ch (M : List Addr) (H H' : Hp) : Prop := ∀ x o, H x = some o → x ∉ M → H' x = some o
theorem Ch.refl (M : List Addr) (H : Hp) : Ch M H H := fun _ _ e _ => e
theorem Ch.trans {M : List Addr} {H H1 H2 : Hp} (a : Ch M H H1) (b : Ch M H1 H2) : Ch M H H2 := fun x o e n => b x o (a x o e n) n
theorem Ch.mono {M N : List Addr} {H H1 : Hp} (a : Ch M H H1) (h : ∀ x ∈ M, x ∈ N) : Ch N H H1 := fun x o e n => a x o e fun m => n (h x m)
theorem Ch.at_ {M : List Addr} {H H1 : Hp} {x : Addr} {o : HO} (a : Ch M H H1) (h : x ∈ M) : Ch M H (upd H1 x o) := fun y u e n => by
  rw [upd_ne (fun q => n (by rw [q]; exact h))]
  exact a y u e n
theorem Ch.new {M : List Addr} {H H1 : Hp} {p : Addr} {o : HO} (a : Ch M H H1) (h : H1 p = none ∨ H p = none) : Ch M H (upd H1 p o) := fun y u e n => by
  have q := a y u e n
  rw [upd_ne (fun z => by
    subst z
    rcases h with h | h
    · rw [q] at h; cases h
    · rw [e] at h; cases h)]
  exact q
theorem Ch.free {H H1 : Hp} {p : Addr} {M : List Addr} (a : Ch M H H1) (h : H1 p = none) (n : p ∉ M) : H p = none := by
  cases q : H p with
  | none => rfl
  | some o =>
    rw [a p o q n] at h
    cases h
theorem Req.ch {K : PySem.W.Frag} {H H' : Hp} {a : Addr} {ns : List Int} {M : List Addr} (r : Req K H a ns) (c : Ch M H H') (h : ∀ x ∈ M, ∀ ob u, H x ≠ some (.frz ob u)) : Req K H' a ns :=
  r.keep fun ob u e => c a _ e fun m => h a m ob u e
theorem Req.upd {K : PySem.W.Frag} {H : Hp} {a r : Addr} {o : HO} {ns : List Int} (q : Req K H a ns) (h : ∀ ob u, H r ≠ some (.frz ob u)) : Req K (upd H r o) a ns :=
  q.keep fun ob u e => by
    rw [upd_ne (fun z => h ob u (by rw [← z]; exact e))]
    exact e
theorem ixN_pos {n : Nat} {i : Int} (h0 : 0 ≤ i) (h1 : i < n) : ixN n i = some i.toNat := by
  unfold ixN
  rw [if_pos h0, if_pos h1]
theorem atI_pos {α : Type} {xs : List α} {i : Int} {v : α} (h0 : 0 ≤ i) (h : xs[i.toNat]? = some v) : atI xs i = some v := by
  have hl := (List.getElem?_eq_some_iff.mp h).1
  unfold atI
  rw [ixN_pos h0 (by omega)]
  exact h

/-! ### bits -/
theorem shl_and {n w k : Nat} (h : w < 2 ^ k) : (n * 2 ^ k) &&& w = 0 := by
  apply Nat.eq_of_testBit_eq
  intro i
  rw [Nat.testBit_and, Nat.zero_testBit]
  by_cases hi : i < k
  · have e : (n * 2 ^ k).testBit i = false := by
      rw [Nat.mul_comm, Nat.testBit_two_pow_mul]
      simp
      omega
    rw [e, Bool.false_and]
  · have e : w.testBit i = false := Nat.testBit_lt_two_pow (Nat.lt_of_lt_of_le h (Nat.pow_le_pow_right (by decide) (by omega)))
    rw [e, Bool.and_false]
theorem bitOr_low {n w k : Nat} (h : w < 2 ^ k) : Builtin.bitOr ((n * 2 ^ k : Nat) : Int) (w : Int) = ((n * 2 ^ k + w : Nat) : Int) := by
  rw [bitOr_and, bitAnd_pp (Int.natCast_nonneg _) (Int.natCast_nonneg _), Int.toNat_natCast, Int.toNat_natCast, shl_and h]
  omega
theorem and_mask (x : Nat) : x &&& 18446744073709551615 = x % 18446744073709551616 := Nat.and_two_pow_sub_one_eq_mod x 64
theorem bitAnd_mask (x : Nat) : Builtin.bitAnd (x : Int) 18446744073709551615 = ((x % 2 ^ 64 : Nat) : Int) := by
  rw [bitAnd_pp (Int.natCast_nonneg _) (by decide), Int.toNat_natCast]
  exact congrArg Int.ofNat (and_mask x)
theorem drop_cons {ns : List Int} {p : Nat} {z : Int} {r : List Int} (h : ns.drop p = z :: r) : ns[p]? = some z ∧ ns.drop (p + 1) = r := by
  constructor
  · have e : (ns.drop p)[0]? = some z := by rw [h]; rfl
    rw [List.getElem?_drop] at e
    exact e
  · rw [← List.drop_drop, h]
    rfl
theorem drop_app {ns x r : List Int} {p : Nat} (h : ns.drop p = x ++ r) : ns.drop (p + x.length) = r := by
  rw [← List.drop_drop, h, List.drop_left]
theorem cut_math {α β : Type} {f : α → β} {ns x r : List α} {p : Nat} (h : ns.drop p = x ++ r) :
    ((ns.map f).drop (min p (ns.map f).length)).take (min (p + x.length) (ns.map f).length - min p (ns.map f).length) = x.map f := by
  have hl := congrArg List.length h
  rw [List.length_drop, List.length_append] at hl
  rw [List.length_map]
  by_cases hp : p ≤ ns.length
  · rw [Nat.min_eq_left hp, Nat.min_eq_left (by omega), Nat.add_sub_cancel_left, ← List.map_drop, h, List.map_append, ← List.length_map (as := x) f, List.take_left]
  · have hx : x = [] := List.length_eq_zero_iff.mp (by omega)
    subst hx
    rw [List.length_nil, Nat.add_zero, Nat.min_eq_right (show ns.length ≤ p by omega), Nat.sub_self]
    rfl
theorem cut_row {ns x r : List Int} {p : Nat} (h : ns.drop p = x ++ r) : cutV (ns.map V.int) (some (p : Int)) (some ((p : Int) + (x.length : Int))) = x.map V.int := by
  unfold cutV
  rw [show (p : Int) + (x.length : Int) = ((p + x.length : Nat) : Int) from rfl, HT.sIx_nat, HT.sIx_nat]
  exact cut_math h

/-! ### loops -/
theorem for_rev {K : PySem.W.Frag} {a : Addr} {xs : List V} {g : TG} {tb : TS} {D : Ends} {σ : St} {H : Hp} (Pv : Nat → St → Hp → Prop) (h0 : Pv 0 σ H) (hl : ∀ i σ H, i ≤ xs.length → Pv i σ H → SqL K H a xs)
    (hs : ∀ i x σ H, i < xs.length → xs[xs.length - 1 - i]? = some x → Pv i σ H → g x σ H fun σ2 H2 => tb { D with nx := Pv (i + 1), ct := Pv (i + 1), bk := D.nx } σ2 H2) (hd : ∀ σ H, Pv xs.length σ H → D.nx σ H) :
    ∃ W : Nat → Nat → St → Hp → Prop, (∃ m, W 0 m σ H) ∧ ∀ i m σ H, W i m σ H →
      ((Itv K a xs.length).stop i H ∧ D.nx σ H) ∨ ((Itv K a xs.length).go i H ∧ ∃ N : St → Hp → Prop, (∀ σ' H', N σ' H' → ∃ m', m' < m ∧ W (i + 1) m' σ' H') ∧ ∀ x H', (Itv K a xs.length).yld i H x H' → g x σ H' fun σ2 H2 => tb { D with nx := N, ct := N, bk := D.nx } σ2 H2) := by
  refine ⟨fun i m σ H => m = xs.length - i ∧ i ≤ xs.length ∧ Pv i σ H, ⟨xs.length, by simp, Nat.zero_le _, h0⟩, ?_⟩
  rintro i m σ H ⟨rfl, hi, p⟩
  have q := hl i σ H hi p
  by_cases hlt : i < xs.length
  · have hlt2 : xs.length - 1 - i < xs.length := by omega
    refine .inr ⟨⟨hlt, xs, xs[xs.length - 1 - i], q, by simp [hlt2]⟩, Pv (i + 1), fun σ' H' p' => ⟨xs.length - (i + 1), by omega, rfl, hlt, p'⟩, fun x H' y => ?_⟩
    obtain ⟨e, y⟩ := y
    subst e
    exact hs i x σ _ hlt (y xs q) p
  · have e : i = xs.length := by omega
    subst e
    exact .inl ⟨Nat.le_refl _, hd σ H p⟩
/-- [e for v in range(n)], e without effect -/
theorem lc_pure {te : TE} {σ : St} {H : Hp} {Q : VK} {n v : Nat} (f : Nat → V) (hn : n ≤ sizeLine)
    (he : ∀ (i : Nat) (H' : Hp) (R : VK), i < n → R (f i) H' → te ((σ.set v none).set v (some (.int (0 + (i : Int))))) H' R)
    (hq : ∀ p, H p = none → Q (.ref p) (upd H p (.lst ((List.range n).map f)))) :
    ∀ D, H D = none → ∃ W : Nat → Nat → Hp → Prop, (∃ m, W 0 m (upd H D (.lst []))) ∧ ∀ i m H, W i m H →
      ((Itr 0 n).stop i H ∧ Q (.ref D) H) ∨ ((Itr 0 n).go i H ∧ ∃ Nx : Hp → Prop, (∀ H', Nx H' → ∃ m', m' < m ∧ W (i + 1) m' H') ∧ ∀ x H', (Itr 0 n).yld i H x H' → gName v x (wipe σ [v]) H' fun σ2 H2 => wipe σ2 [v] = wipe σ [v] ∧ tYes σ2 H2 fun b H3 =>
        if b = true then te σ2 H3 fun y H4 => ∃ acc, H4 D = some (.lst acc) ∧ acc.length < sizeLine ∧ Nx (upd H4 D (.lst (acc ++ [y]))) else Nx H3) := by
  intro D hD
  refine ⟨fun i m H' => m = n - i ∧ i ≤ n ∧ H' = upd H D (.lst ((List.range i).map f)), ⟨n, by simp, Nat.zero_le _, rfl⟩, ?_⟩
  rintro i m H' ⟨rfl, hi, rfl⟩
  by_cases hlt : i < n
  · refine .inr ⟨hlt, fun H' => H' = upd H D (.lst ((List.range (i + 1)).map f)), fun H' e => ⟨n - (i + 1), by omega, rfl, hlt, e⟩, fun x H' y => ?_⟩
    obtain ⟨e, y⟩ := y
    subst e y
    refine ⟨?_, ?_⟩
    · show (((σ.set v none).set v _).set v none) = σ.set v none
      rw [List.set_set, List.set_set]
    · unfold tYes
      dsimp only
      rw [if_pos rfl]
      refine he i _ _ hlt ⟨_, upd_same, ?_, ?_⟩
      · rw [List.length_map, List.length_range]
        omega
      · rw [upd_upd, List.range_succ, List.map_append]
        rfl
  · have e : i = n := by omega
    subst e
    exact .inl ⟨Nat.le_refl _, hq D hD⟩
end L2

set_option Elab.async false
set_option linter.all false
set_option maxRecDepth 100000
set_option maxHeartbeats 4000000
namespace Odd
open PySem PySem.Spec PyProof.Rows L2
open Kgm (Reg Row Wd num words W32 Bt)

def compScope : Stmt → Scope
  | .Return (some (.ListComp _ _ sc _)) _ => sc
  | _ => { kind := .function, names := [], isGenerator := false, isCoroutine := false }
def top (i : Nat) : Stmt := PySem.Challenge.pw_oddmodulus_s01_answers.main.body.getD i (.Pass ⟨0, 0, 0, 0⟩)
abbrev st_power_modulo : Stmt := top 3
abbrev st_first_powers : Stmt := top 4
abbrev st_sixteenth_power : Stmt := top 5
abbrev st_is_length : Stmt := top 16
abbrev st_number_from_words : Stmt := top 17
abbrev st_words_from_number : Stmt := top 18
abbrev st_is_place : Stmt := top 24
abbrev st_are_two_places : Stmt := top 25
abbrev st_are_places : Stmt := top 26
abbrev st_is_modulus : Stmt := top 27
abbrev st_Bank_init : Stmt := inClass (top 28) 0
abbrev st_Bank_begin : Stmt := inClass (top 28) 1
abbrev st_Bank_put_words : Stmt := inClass (top 28) 2
abbrev st_Bank_get_words : Stmt := inClass (top 28) 3
abbrev st_Bank_hold_sum : Stmt := inClass (top 28) 4
abbrev st_Bank_hold_difference : Stmt := inClass (top 28) 5
abbrev st_Bank_hold_product : Stmt := inClass (top 28) 6
abbrev st_Bank_hold_half : Stmt := inClass (top 28) 7
abbrev st_Bank_hold_doubled : Stmt := inClass (top 28) 8
abbrev st_Bank_hold_power : Stmt := inClass (top 28) 9
abbrev st_Bank_order : Stmt := inClass (top 28) 10
abbrev st_Bank_hold : Stmt := inClass (top 28) 11
abbrev st_Reader_init : Stmt := inClass (top 30) 0
abbrev st_Reader_is_done : Stmt := inClass (top 30) 1
abbrev st_Reader_take : Stmt := inClass (top 30) 2
abbrev st_Reader_take_row : Stmt := inClass (top 30) 3
abbrev st_wide_product : Stmt := top 32
abbrev st_shifted_words : Stmt := top 33
abbrev st_shifted_number : Stmt := top 34
abbrev st_answers : Stmt := top 49
abbrev st_answer_next : Stmt := top 50
abbrev st_answer_of_words : Stmt := top 51
abbrev st_answer_of_three : Stmt := top 52
abbrev st_answer_of_two : Stmt := top 53
abbrev st_answer_of_whole : Stmt := top 54
theorem sc_power_modulo : FnScope ["base", "exponent", "modulus", "powers", "power", "byte", "digit"] ["base", "exponent", "modulus"] (defScope st_power_modulo) := ⟨rfl, rfl, rfl, by decide +kernel, rfl, by decide +kernel, by decide +kernel⟩
theorem sc_first_powers : FnScope ["base", "modulus", "powers", "digit"] ["base", "modulus"] (defScope st_first_powers) := ⟨rfl, rfl, rfl, by decide +kernel, rfl, by decide +kernel, by decide +kernel⟩
theorem sc_sixteenth_power : FnScope ["number", "modulus", "power", "bit"] ["number", "modulus"] (defScope st_sixteenth_power) := ⟨rfl, rfl, rfl, by decide +kernel, rfl, by decide +kernel, by decide +kernel⟩
theorem sc_is_length : FnScope ["length"] ["length"] (defScope st_is_length) := ⟨rfl, rfl, rfl, by decide +kernel, rfl, by decide +kernel, by decide +kernel⟩
theorem sc_number_from_words : FnScope ["words", "number", "word"] ["words"] (defScope st_number_from_words) := ⟨rfl, rfl, rfl, by decide +kernel, rfl, by decide +kernel, by decide +kernel⟩
theorem sc_words_from_number : FnScope ["number", "length", "place"] ["number", "length"] (defScope st_words_from_number) := ⟨rfl, rfl, rfl, by decide +kernel, rfl, by decide +kernel, by decide +kernel⟩
theorem sc_is_place : FnScope ["place"] ["place"] (defScope st_is_place) := ⟨rfl, rfl, rfl, by decide +kernel, rfl, by decide +kernel, by decide +kernel⟩
theorem sc_are_two_places : FnScope ["first", "second"] ["first", "second"] (defScope st_are_two_places) := ⟨rfl, rfl, rfl, by decide +kernel, rfl, by decide +kernel, by decide +kernel⟩
theorem sc_are_places : FnScope ["target", "left", "right"] ["target", "left", "right"] (defScope st_are_places) := ⟨rfl, rfl, rfl, by decide +kernel, rfl, by decide +kernel, by decide +kernel⟩
theorem sc_is_modulus : FnScope ["number"] ["number"] (defScope st_is_modulus) := ⟨rfl, rfl, rfl, by decide +kernel, rfl, by decide +kernel, by decide +kernel⟩
theorem sc_Bank_init : FnScope ["self"] ["self"] (defScope st_Bank_init) := ⟨rfl, rfl, rfl, by decide +kernel, rfl, by decide +kernel, by decide +kernel⟩
theorem sc_Bank_begin : FnScope ["self", "words", "modulus"] ["self", "words"] (defScope st_Bank_begin) := ⟨rfl, rfl, rfl, by decide +kernel, rfl, by decide +kernel, by decide +kernel⟩
theorem sc_Bank_put_words : FnScope ["self", "place", "words"] ["self", "place", "words"] (defScope st_Bank_put_words) := ⟨rfl, rfl, rfl, by decide +kernel, rfl, by decide +kernel, by decide +kernel⟩
theorem sc_Bank_get_words : FnScope ["self", "place", "length"] ["self", "place", "length"] (defScope st_Bank_get_words) := ⟨rfl, rfl, rfl, by decide +kernel, rfl, by decide +kernel, by decide +kernel⟩
theorem sc_Bank_hold_sum : FnScope ["self", "target", "left", "right"] ["self", "target", "left", "right"] (defScope st_Bank_hold_sum) := ⟨rfl, rfl, rfl, by decide +kernel, rfl, by decide +kernel, by decide +kernel⟩
theorem sc_Bank_hold_difference : FnScope ["self", "target", "left", "right"] ["self", "target", "left", "right"] (defScope st_Bank_hold_difference) := ⟨rfl, rfl, rfl, by decide +kernel, rfl, by decide +kernel, by decide +kernel⟩
theorem sc_Bank_hold_product : FnScope ["self", "target", "left", "right"] ["self", "target", "left", "right"] (defScope st_Bank_hold_product) := ⟨rfl, rfl, rfl, by decide +kernel, rfl, by decide +kernel, by decide +kernel⟩
theorem sc_Bank_hold_half : FnScope ["self", "target", "source", "number"] ["self", "target", "source"] (defScope st_Bank_hold_half) := ⟨rfl, rfl, rfl, by decide +kernel, rfl, by decide +kernel, by decide +kernel⟩
theorem sc_Bank_hold_doubled : FnScope ["self", "target", "source", "times"] ["self", "target", "source", "times"] (defScope st_Bank_hold_doubled) := ⟨rfl, rfl, rfl, by decide +kernel, rfl, by decide +kernel, by decide +kernel⟩
theorem sc_Bank_hold_power : FnScope ["self", "target", "source", "exponent"] ["self", "target", "source", "exponent"] (defScope st_Bank_hold_power) := ⟨rfl, rfl, rfl, by decide +kernel, rfl, by decide +kernel, by decide +kernel⟩
theorem sc_Bank_order : FnScope ["self", "left", "right"] ["self", "left", "right"] (defScope st_Bank_order) := ⟨rfl, rfl, rfl, by decide +kernel, rfl, by decide +kernel, by decide +kernel⟩
theorem sc_Bank_hold : FnScope ["self", "place", "number"] ["self", "place", "number"] (defScope st_Bank_hold) := ⟨rfl, rfl, rfl, by decide +kernel, rfl, by decide +kernel, by decide +kernel⟩
theorem sc_Reader_init : FnScope ["self", "numbers"] ["self", "numbers"] (defScope st_Reader_init) := ⟨rfl, rfl, rfl, by decide +kernel, rfl, by decide +kernel, by decide +kernel⟩
theorem sc_Reader_is_done : FnScope ["self"] ["self"] (defScope st_Reader_is_done) := ⟨rfl, rfl, rfl, by decide +kernel, rfl, by decide +kernel, by decide +kernel⟩
theorem sc_Reader_take : FnScope ["self", "number"] ["self"] (defScope st_Reader_take) := ⟨rfl, rfl, rfl, by decide +kernel, rfl, by decide +kernel, by decide +kernel⟩
theorem sc_Reader_take_row : FnScope ["self", "length", "first"] ["self"] (defScope st_Reader_take_row) := ⟨rfl, rfl, rfl, by decide +kernel, rfl, by decide +kernel, by decide +kernel⟩
theorem sc_wide_product : FnScope ["left", "right", "length", "number"] ["left", "right"] (defScope st_wide_product) := ⟨rfl, rfl, rfl, by decide +kernel, rfl, by decide +kernel, by decide +kernel⟩
theorem sc_shifted_words : FnScope ["words", "by", "length", "number"] ["words", "by"] (defScope st_shifted_words) := ⟨rfl, rfl, rfl, by decide +kernel, rfl, by decide +kernel, by decide +kernel⟩
theorem sc_shifted_number : FnScope ["number", "by", "bits"] ["number", "by", "bits"] (defScope st_shifted_number) := ⟨rfl, rfl, rfl, by decide +kernel, rfl, by decide +kernel, by decide +kernel⟩
theorem sc_answers : FnScope ["calls", "bank", "reader", "answered", "answer"] ["calls"] (defScope st_answers) := ⟨rfl, rfl, rfl, by decide +kernel, rfl, by decide +kernel, by decide +kernel⟩
theorem sc_answer_next : FnScope ["bank", "reader", "call"] ["bank", "reader"] (defScope st_answer_next) := ⟨rfl, rfl, rfl, by decide +kernel, rfl, by decide +kernel, by decide +kernel⟩
theorem sc_answer_of_words : FnScope ["bank", "call", "reader", "place"] ["bank", "call", "reader"] (defScope st_answer_of_words) := ⟨rfl, rfl, rfl, by decide +kernel, rfl, by decide +kernel, by decide +kernel⟩
theorem sc_answer_of_three : FnScope ["bank", "call", "reader", "target", "left", "right"] ["bank", "call", "reader"] (defScope st_answer_of_three) := ⟨rfl, rfl, rfl, by decide +kernel, rfl, by decide +kernel, by decide +kernel⟩
theorem sc_answer_of_two : FnScope ["bank", "call", "reader", "first", "second"] ["bank", "call", "reader"] (defScope st_answer_of_two) := ⟨rfl, rfl, rfl, by decide +kernel, rfl, by decide +kernel, by decide +kernel⟩
theorem sc_answer_of_whole : FnScope ["call", "reader", "left", "by"] ["call", "reader"] (defScope st_answer_of_whole) := ⟨rfl, rfl, rfl, by decide +kernel, rfl, by decide +kernel, by decide +kernel⟩
theorem blk_words_from_number : BlkOk ["number", "length", "place"] (defScope st_words_from_number) (compScope ((defBody st_words_from_number).getD 0 (.Pass ⟨0, 0, 0, 0⟩))) [("place", 2)] := ⟨rfl, by decide +kernel, by decide +kernel, by decide +kernel, by decide +kernel⟩
structure Adr where
  c_Bank : Addr
  c_Reader : Addr
  f_power_modulo : Addr
  d_power_modulo : FuncData
  f_first_powers : Addr
  d_first_powers : FuncData
  f_sixteenth_power : Addr
  d_sixteenth_power : FuncData
  f_is_length : Addr
  d_is_length : FuncData
  f_number_from_words : Addr
  d_number_from_words : FuncData
  f_words_from_number : Addr
  d_words_from_number : FuncData
  f_is_place : Addr
  d_is_place : FuncData
  f_are_two_places : Addr
  d_are_two_places : FuncData
  f_are_places : Addr
  d_are_places : FuncData
  f_is_modulus : Addr
  d_is_modulus : FuncData
  f_Bank_init : Addr
  d_Bank_init : FuncData
  f_Bank_begin : Addr
  d_Bank_begin : FuncData
  f_Bank_put_words : Addr
  d_Bank_put_words : FuncData
  f_Bank_get_words : Addr
  d_Bank_get_words : FuncData
  f_Bank_hold_sum : Addr
  d_Bank_hold_sum : FuncData
  f_Bank_hold_difference : Addr
  d_Bank_hold_difference : FuncData
  f_Bank_hold_product : Addr
  d_Bank_hold_product : FuncData
  f_Bank_hold_half : Addr
  d_Bank_hold_half : FuncData
  f_Bank_hold_doubled : Addr
  d_Bank_hold_doubled : FuncData
  f_Bank_hold_power : Addr
  d_Bank_hold_power : FuncData
  f_Bank_order : Addr
  d_Bank_order : FuncData
  f_Bank_hold : Addr
  d_Bank_hold : FuncData
  f_Reader_init : Addr
  d_Reader_init : FuncData
  f_Reader_is_done : Addr
  d_Reader_is_done : FuncData
  f_Reader_take : Addr
  d_Reader_take : FuncData
  f_Reader_take_row : Addr
  d_Reader_take_row : FuncData
  f_wide_product : Addr
  d_wide_product : FuncData
  f_shifted_words : Addr
  d_shifted_words : FuncData
  f_shifted_number : Addr
  d_shifted_number : FuncData
  f_answers : Addr
  d_answers : FuncData
  f_answer_next : Addr
  d_answer_next : FuncData
  f_answer_of_words : Addr
  d_answer_of_words : FuncData
  f_answer_of_three : Addr
  d_answer_of_three : FuncData
  f_answer_of_two : Addr
  d_answer_of_two : FuncData
  f_answer_of_whole : Addr
  d_answer_of_whole : FuncData
structure Txt (K : PySem.W.Frag) (mg : Str → Option Value) (t : Adr) : Prop where
  k_DIGIT_BITS : ∃ u, mg "DIGIT_BITS" = some (Value.int (4) u)
  k_DIGITS : ∃ u, mg "DIGITS" = some (Value.int (16) u)
  k_DONE : ∃ u, mg "DONE" = some (Value.int (0) u)
  k_REFUSED : ∃ u, mg "REFUSED" = some (Value.int (-1) u)
  k_BELOW : ∃ u, mg "BELOW" = some (Value.int (-1) u)
  k_LEVEL : ∃ u, mg "LEVEL" = some (Value.int (0) u)
  k_ABOVE : ∃ u, mg "ABOVE" = some (Value.int (1) u)
  k_NO_ORDER : ∃ u, mg "NO_ORDER" = some (Value.int (-2) u)
  k_WORD_BITS : ∃ u, mg "WORD_BITS" = some (Value.int (64) u)
  k_GREATEST_WORD : ∃ u, mg "GREATEST_WORD" = some (Value.int (18446744073709551615) u)
  k_MOST_WORDS : ∃ u, mg "MOST_WORDS" = some (Value.int (64) u)
  k_PLACES : ∃ u, mg "PLACES" = some (Value.int (8) u)
  k_LEAST_MODULUS : ∃ u, mg "LEAST_MODULUS" = some (Value.int (3) u)
  k_MOST_TIMES : ∃ u, mg "MOST_TIMES" = some (Value.int (4096) u)
  k_MOST_BYTES : ∃ u, mg "MOST_BYTES" = some (Value.int (512) u)
  k_BEGIN : ∃ u, mg "BEGIN" = some (Value.int (0) u)
  k_PUT : ∃ u, mg "PUT" = some (Value.int (1) u)
  k_GET : ∃ u, mg "GET" = some (Value.int (2) u)
  k_SUM_OF : ∃ u, mg "SUM_OF" = some (Value.int (3) u)
  k_DIFFERENCE : ∃ u, mg "DIFFERENCE" = some (Value.int (4) u)
  k_PRODUCT : ∃ u, mg "PRODUCT" = some (Value.int (5) u)
  k_HALF : ∃ u, mg "HALF" = some (Value.int (6) u)
  k_DOUBLED : ∃ u, mg "DOUBLED" = some (Value.int (7) u)
  k_POWER : ∃ u, mg "POWER" = some (Value.int (8) u)
  k_ORDER : ∃ u, mg "ORDER" = some (Value.int (10) u)
  k_WIDE : ∃ u, mg "WIDE" = some (Value.int (11) u)
  k_SHIFTED : ∃ u, mg "SHIFTED" = some (Value.int (12) u)
  b_len : mg "len" = none
  b_min : mg "min" = none
  b_range : mg "range" = none
  b_reversed : mg "reversed" = none
  cl_Bank : Cls K t.c_Bank
  g_Bank : mg "Bank" = some (.ref t.c_Bank)
  n_Bank_modulus : NoAttr K t.c_Bank "modulus"
  n_Bank_length : NoAttr K t.c_Bank "length"
  n_Bank_held : NoAttr K t.c_Bank "held"
  mk_Bank : Mk K t.c_Bank t.f_Bank_init
  cl_Reader : Cls K t.c_Reader
  g_Reader : mg "Reader" = some (.ref t.c_Reader)
  n_Reader_numbers : NoAttr K t.c_Reader "numbers"
  n_Reader_place : NoAttr K t.c_Reader "place"
  mk_Reader : Mk K t.c_Reader t.f_Reader_init
  F_power_modulo : Fun K "power_modulo" "power_modulo" st_power_modulo t.f_power_modulo t.d_power_modulo
  B_power_modulo : Binds K t.d_power_modulo ["base", "exponent", "modulus"] []
  g_power_modulo : mg "power_modulo" = some (.ref t.f_power_modulo)
  F_first_powers : Fun K "first_powers" "first_powers" st_first_powers t.f_first_powers t.d_first_powers
  B_first_powers : Binds K t.d_first_powers ["base", "modulus"] []
  g_first_powers : mg "first_powers" = some (.ref t.f_first_powers)
  F_sixteenth_power : Fun K "sixteenth_power" "sixteenth_power" st_sixteenth_power t.f_sixteenth_power t.d_sixteenth_power
  B_sixteenth_power : Binds K t.d_sixteenth_power ["number", "modulus"] []
  g_sixteenth_power : mg "sixteenth_power" = some (.ref t.f_sixteenth_power)
  F_is_length : Fun K "is_length" "is_length" st_is_length t.f_is_length t.d_is_length
  B_is_length : Binds K t.d_is_length ["length"] []
  g_is_length : mg "is_length" = some (.ref t.f_is_length)
  F_number_from_words : Fun K "number_from_words" "number_from_words" st_number_from_words t.f_number_from_words t.d_number_from_words
  B_number_from_words : Binds K t.d_number_from_words ["words"] []
  g_number_from_words : mg "number_from_words" = some (.ref t.f_number_from_words)
  F_words_from_number : Fun K "words_from_number" "words_from_number" st_words_from_number t.f_words_from_number t.d_words_from_number
  B_words_from_number : Binds K t.d_words_from_number ["number", "length"] []
  g_words_from_number : mg "words_from_number" = some (.ref t.f_words_from_number)
  F_is_place : Fun K "is_place" "is_place" st_is_place t.f_is_place t.d_is_place
  B_is_place : Binds K t.d_is_place ["place"] []
  g_is_place : mg "is_place" = some (.ref t.f_is_place)
  F_are_two_places : Fun K "are_two_places" "are_two_places" st_are_two_places t.f_are_two_places t.d_are_two_places
  B_are_two_places : Binds K t.d_are_two_places ["first", "second"] []
  g_are_two_places : mg "are_two_places" = some (.ref t.f_are_two_places)
  F_are_places : Fun K "are_places" "are_places" st_are_places t.f_are_places t.d_are_places
  B_are_places : Binds K t.d_are_places ["target", "left", "right"] []
  g_are_places : mg "are_places" = some (.ref t.f_are_places)
  F_is_modulus : Fun K "is_modulus" "is_modulus" st_is_modulus t.f_is_modulus t.d_is_modulus
  B_is_modulus : Binds K t.d_is_modulus ["number"] []
  g_is_modulus : mg "is_modulus" = some (.ref t.f_is_modulus)
  F_Bank_init : Fun K "__init__" "Bank.__init__" st_Bank_init t.f_Bank_init t.d_Bank_init
  B_Bank_init : Binds K t.d_Bank_init ["self"] []
  F_Bank_begin : Fun K "begin" "Bank.begin" st_Bank_begin t.f_Bank_begin t.d_Bank_begin
  B_Bank_begin : Binds K t.d_Bank_begin ["self", "words"] []
  m_Bank_begin : Meth K t.c_Bank "begin" t.f_Bank_begin
  F_Bank_put_words : Fun K "put_words" "Bank.put_words" st_Bank_put_words t.f_Bank_put_words t.d_Bank_put_words
  B_Bank_put_words : Binds K t.d_Bank_put_words ["self", "place", "words"] []
  m_Bank_put_words : Meth K t.c_Bank "put_words" t.f_Bank_put_words
  F_Bank_get_words : Fun K "get_words" "Bank.get_words" st_Bank_get_words t.f_Bank_get_words t.d_Bank_get_words
  B_Bank_get_words : Binds K t.d_Bank_get_words ["self", "place", "length"] []
  m_Bank_get_words : Meth K t.c_Bank "get_words" t.f_Bank_get_words
  F_Bank_hold_sum : Fun K "hold_sum" "Bank.hold_sum" st_Bank_hold_sum t.f_Bank_hold_sum t.d_Bank_hold_sum
  B_Bank_hold_sum : Binds K t.d_Bank_hold_sum ["self", "target", "left", "right"] []
  m_Bank_hold_sum : Meth K t.c_Bank "hold_sum" t.f_Bank_hold_sum
  F_Bank_hold_difference : Fun K "hold_difference" "Bank.hold_difference" st_Bank_hold_difference t.f_Bank_hold_difference t.d_Bank_hold_difference
  B_Bank_hold_difference : Binds K t.d_Bank_hold_difference ["self", "target", "left", "right"] []
  m_Bank_hold_difference : Meth K t.c_Bank "hold_difference" t.f_Bank_hold_difference
  F_Bank_hold_product : Fun K "hold_product" "Bank.hold_product" st_Bank_hold_product t.f_Bank_hold_product t.d_Bank_hold_product
  B_Bank_hold_product : Binds K t.d_Bank_hold_product ["self", "target", "left", "right"] []
  m_Bank_hold_product : Meth K t.c_Bank "hold_product" t.f_Bank_hold_product
  F_Bank_hold_half : Fun K "hold_half" "Bank.hold_half" st_Bank_hold_half t.f_Bank_hold_half t.d_Bank_hold_half
  B_Bank_hold_half : Binds K t.d_Bank_hold_half ["self", "target", "source"] []
  m_Bank_hold_half : Meth K t.c_Bank "hold_half" t.f_Bank_hold_half
  F_Bank_hold_doubled : Fun K "hold_doubled" "Bank.hold_doubled" st_Bank_hold_doubled t.f_Bank_hold_doubled t.d_Bank_hold_doubled
  B_Bank_hold_doubled : Binds K t.d_Bank_hold_doubled ["self", "target", "source", "times"] []
  m_Bank_hold_doubled : Meth K t.c_Bank "hold_doubled" t.f_Bank_hold_doubled
  F_Bank_hold_power : Fun K "hold_power" "Bank.hold_power" st_Bank_hold_power t.f_Bank_hold_power t.d_Bank_hold_power
  B_Bank_hold_power : Binds K t.d_Bank_hold_power ["self", "target", "source", "exponent"] []
  m_Bank_hold_power : Meth K t.c_Bank "hold_power" t.f_Bank_hold_power
  F_Bank_order : Fun K "order" "Bank.order" st_Bank_order t.f_Bank_order t.d_Bank_order
  B_Bank_order : Binds K t.d_Bank_order ["self", "left", "right"] []
  m_Bank_order : Meth K t.c_Bank "order" t.f_Bank_order
  F_Bank_hold : Fun K "hold" "Bank.hold" st_Bank_hold t.f_Bank_hold t.d_Bank_hold
  B_Bank_hold : Binds K t.d_Bank_hold ["self", "place", "number"] []
  m_Bank_hold : Meth K t.c_Bank "hold" t.f_Bank_hold
  F_Reader_init : Fun K "__init__" "Reader.__init__" st_Reader_init t.f_Reader_init t.d_Reader_init
  B_Reader_init : Binds K t.d_Reader_init ["self", "numbers"] []
  F_Reader_is_done : Fun K "is_done" "Reader.is_done" st_Reader_is_done t.f_Reader_is_done t.d_Reader_is_done
  B_Reader_is_done : Binds K t.d_Reader_is_done ["self"] []
  m_Reader_is_done : Meth K t.c_Reader "is_done" t.f_Reader_is_done
  F_Reader_take : Fun K "take" "Reader.take" st_Reader_take t.f_Reader_take t.d_Reader_take
  B_Reader_take : Binds K t.d_Reader_take ["self"] []
  m_Reader_take : Meth K t.c_Reader "take" t.f_Reader_take
  F_Reader_take_row : Fun K "take_row" "Reader.take_row" st_Reader_take_row t.f_Reader_take_row t.d_Reader_take_row
  B_Reader_take_row : Binds K t.d_Reader_take_row ["self"] []
  m_Reader_take_row : Meth K t.c_Reader "take_row" t.f_Reader_take_row
  F_wide_product : Fun K "wide_product" "wide_product" st_wide_product t.f_wide_product t.d_wide_product
  B_wide_product : Binds K t.d_wide_product ["left", "right"] []
  g_wide_product : mg "wide_product" = some (.ref t.f_wide_product)
  F_shifted_words : Fun K "shifted_words" "shifted_words" st_shifted_words t.f_shifted_words t.d_shifted_words
  B_shifted_words : Binds K t.d_shifted_words ["words", "by"] []
  g_shifted_words : mg "shifted_words" = some (.ref t.f_shifted_words)
  F_shifted_number : Fun K "shifted_number" "shifted_number" st_shifted_number t.f_shifted_number t.d_shifted_number
  B_shifted_number : Binds K t.d_shifted_number ["number", "by", "bits"] []
  g_shifted_number : mg "shifted_number" = some (.ref t.f_shifted_number)
  F_answers : Fun K "answers" "answers" st_answers t.f_answers t.d_answers
  B_answers : Binds K t.d_answers ["calls"] []
  g_answers : mg "answers" = some (.ref t.f_answers)
  F_answer_next : Fun K "answer_next" "answer_next" st_answer_next t.f_answer_next t.d_answer_next
  B_answer_next : Binds K t.d_answer_next ["bank", "reader"] []
  g_answer_next : mg "answer_next" = some (.ref t.f_answer_next)
  F_answer_of_words : Fun K "answer_of_words" "answer_of_words" st_answer_of_words t.f_answer_of_words t.d_answer_of_words
  B_answer_of_words : Binds K t.d_answer_of_words ["bank", "call", "reader"] []
  g_answer_of_words : mg "answer_of_words" = some (.ref t.f_answer_of_words)
  F_answer_of_three : Fun K "answer_of_three" "answer_of_three" st_answer_of_three t.f_answer_of_three t.d_answer_of_three
  B_answer_of_three : Binds K t.d_answer_of_three ["bank", "call", "reader"] []
  g_answer_of_three : mg "answer_of_three" = some (.ref t.f_answer_of_three)
  F_answer_of_two : Fun K "answer_of_two" "answer_of_two" st_answer_of_two t.f_answer_of_two t.d_answer_of_two
  B_answer_of_two : Binds K t.d_answer_of_two ["bank", "call", "reader"] []
  g_answer_of_two : mg "answer_of_two" = some (.ref t.f_answer_of_two)
  F_answer_of_whole : Fun K "answer_of_whole" "answer_of_whole" st_answer_of_whole t.f_answer_of_whole t.d_answer_of_whole
  B_answer_of_whole : Binds K t.d_answer_of_whole ["call", "reader"] []
  g_answer_of_whole : mg "answer_of_whole" = some (.ref t.f_answer_of_whole)
/-- the attributes of a Bank -/
def fs_Bank (a0 a1 a2 : V) : List (Str × V) := [("modulus", a0), ("length", a1), ("held", a2)]
theorem fs_Bank_modulus (a0 a1 a2 : V) : (fs_Bank a0 a1 a2).lookup ("modulus" : Str) = some a0 := by rfl
theorem fs_Bank_put_modulus (a0 a1 a2 v : V) : putF "modulus" v (fs_Bank a0 a1 a2) = fs_Bank v a1 a2 := by rfl
theorem fs_Bank_length (a0 a1 a2 : V) : (fs_Bank a0 a1 a2).lookup ("length" : Str) = some a1 := by rfl
theorem fs_Bank_put_length (a0 a1 a2 v : V) : putF "length" v (fs_Bank a0 a1 a2) = fs_Bank a0 v a2 := by rfl
theorem fs_Bank_held (a0 a1 a2 : V) : (fs_Bank a0 a1 a2).lookup ("held" : Str) = some a2 := by rfl
theorem fs_Bank_put_held (a0 a1 a2 v : V) : putF "held" v (fs_Bank a0 a1 a2) = fs_Bank a0 a1 v := by rfl
theorem fs_Bank_no_begin (a0 a1 a2 : V) : (fs_Bank a0 a1 a2).lookup ("begin" : Str) = none := by rfl
theorem fs_Bank_no_put_words (a0 a1 a2 : V) : (fs_Bank a0 a1 a2).lookup ("put_words" : Str) = none := by rfl
theorem fs_Bank_no_get_words (a0 a1 a2 : V) : (fs_Bank a0 a1 a2).lookup ("get_words" : Str) = none := by rfl
theorem fs_Bank_no_hold_sum (a0 a1 a2 : V) : (fs_Bank a0 a1 a2).lookup ("hold_sum" : Str) = none := by rfl
theorem fs_Bank_no_hold_difference (a0 a1 a2 : V) : (fs_Bank a0 a1 a2).lookup ("hold_difference" : Str) = none := by rfl
theorem fs_Bank_no_hold_product (a0 a1 a2 : V) : (fs_Bank a0 a1 a2).lookup ("hold_product" : Str) = none := by rfl
theorem fs_Bank_no_hold_half (a0 a1 a2 : V) : (fs_Bank a0 a1 a2).lookup ("hold_half" : Str) = none := by rfl
theorem fs_Bank_no_hold_doubled (a0 a1 a2 : V) : (fs_Bank a0 a1 a2).lookup ("hold_doubled" : Str) = none := by rfl
theorem fs_Bank_no_hold_power (a0 a1 a2 : V) : (fs_Bank a0 a1 a2).lookup ("hold_power" : Str) = none := by rfl
theorem fs_Bank_no_order (a0 a1 a2 : V) : (fs_Bank a0 a1 a2).lookup ("order" : Str) = none := by rfl
theorem fs_Bank_no_hold (a0 a1 a2 : V) : (fs_Bank a0 a1 a2).lookup ("hold" : Str) = none := by rfl
theorem fs_Bank_len (a0 a1 a2 : V) : (fs_Bank a0 a1 a2).length = 3 := rfl
theorem fs_Bank_inj (a0 a1 a2 : V) (b0 b1 b2 : V) : (fs_Bank a0 a1 a2 = fs_Bank b0 b1 b2) = (a0 = b0 ∧ a1 = b1 ∧ a2 = b2) := by
  unfold fs_Bank
  simp
theorem fs_Bank_new0 (a0 : V) : putF "modulus" a0 ([] : List (Str × V)) = ([("modulus", a0)] : List (Str × V)) := by rfl
theorem fs_Bank_new1 (a0 a1 : V) : putF "length" a1 ([("modulus", a0)] : List (Str × V)) = ([("modulus", a0), ("length", a1)] : List (Str × V)) := by rfl
theorem fs_Bank_new2 (a0 a1 a2 : V) : putF "held" a2 ([("modulus", a0), ("length", a1)] : List (Str × V)) = (fs_Bank a0 a1 a2 : List (Str × V)) := by rfl
/-- the attributes of a Reader -/
def fs_Reader (a0 a1 : V) : List (Str × V) := [("numbers", a0), ("place", a1)]
theorem fs_Reader_numbers (a0 a1 : V) : (fs_Reader a0 a1).lookup ("numbers" : Str) = some a0 := by rfl
theorem fs_Reader_put_numbers (a0 a1 v : V) : putF "numbers" v (fs_Reader a0 a1) = fs_Reader v a1 := by rfl
theorem fs_Reader_place (a0 a1 : V) : (fs_Reader a0 a1).lookup ("place" : Str) = some a1 := by rfl
theorem fs_Reader_put_place (a0 a1 v : V) : putF "place" v (fs_Reader a0 a1) = fs_Reader a0 v := by rfl
theorem fs_Reader_no_is_done (a0 a1 : V) : (fs_Reader a0 a1).lookup ("is_done" : Str) = none := by rfl
theorem fs_Reader_no_take (a0 a1 : V) : (fs_Reader a0 a1).lookup ("take" : Str) = none := by rfl
theorem fs_Reader_no_take_row (a0 a1 : V) : (fs_Reader a0 a1).lookup ("take_row" : Str) = none := by rfl
theorem fs_Reader_len (a0 a1 : V) : (fs_Reader a0 a1).length = 2 := rfl
theorem fs_Reader_inj (a0 a1 : V) (b0 b1 : V) : (fs_Reader a0 a1 = fs_Reader b0 b1) = (a0 = b0 ∧ a1 = b1) := by
  unfold fs_Reader
  simp
theorem fs_Reader_new0 (a0 : V) : putF "numbers" a0 ([] : List (Str × V)) = ([("numbers", a0)] : List (Str × V)) := by rfl
theorem fs_Reader_new1 (a0 a1 : V) : putF "place" a1 ([("numbers", a0)] : List (Str × V)) = (fs_Reader a0 a1 : List (Str × V)) := by rfl
theorem txt_mk {K : PySem.W.Frag} {h : Heap} {mg : Str → Option Value} (X : K.In h) (G : h.Ns mainGlobals mg)
    {u_DIGIT_BITS : Tok}
    {u_DIGITS : Tok}
    {u_DONE : Tok}
    {u_REFUSED : Tok}
    {u_BELOW : Tok}
    {u_LEVEL : Tok}
    {u_ABOVE : Tok}
    {u_NO_ORDER : Tok}
    {u_WORD_BITS : Tok}
    {u_GREATEST_WORD : Tok}
    {u_MOST_WORDS : Tok}
    {u_PLACES : Tok}
    {u_LEAST_MODULUS : Tok}
    {u_MOST_TIMES : Tok}
    {u_MOST_BYTES : Tok}
    {u_BEGIN : Tok}
    {u_PUT : Tok}
    {u_GET : Tok}
    {u_SUM_OF : Tok}
    {u_DIFFERENCE : Tok}
    {u_PRODUCT : Tok}
    {u_HALF : Tok}
    {u_DOUBLED : Tok}
    {u_POWER : Tok}
    {u_ORDER : Tok}
    {u_WIDE : Tok}
    {u_SHIFTED : Tok}
    {c_Bank : Addr}
    {c_Reader : Addr}
    {f_power_modulo : Addr} {od_power_modulo an_power_modulo : Option Addr} {sl_power_modulo : Array (Option Value)} {oc_power_modulo kV_power_modulo dc_power_modulo pm_power_modulo cd_power_modulo ct_power_modulo : Value}
    {f_first_powers : Addr} {od_first_powers an_first_powers : Option Addr} {sl_first_powers : Array (Option Value)} {oc_first_powers kV_first_powers dc_first_powers pm_first_powers cd_first_powers ct_first_powers : Value}
    {f_sixteenth_power : Addr} {od_sixteenth_power an_sixteenth_power : Option Addr} {sl_sixteenth_power : Array (Option Value)} {oc_sixteenth_power kV_sixteenth_power dc_sixteenth_power pm_sixteenth_power cd_sixteenth_power ct_sixteenth_power : Value}
    {f_is_length : Addr} {od_is_length an_is_length : Option Addr} {sl_is_length : Array (Option Value)} {oc_is_length kV_is_length dc_is_length pm_is_length cd_is_length ct_is_length : Value}
    {f_number_from_words : Addr} {od_number_from_words an_number_from_words : Option Addr} {sl_number_from_words : Array (Option Value)} {oc_number_from_words kV_number_from_words dc_number_from_words pm_number_from_words cd_number_from_words ct_number_from_words : Value}
    {f_words_from_number : Addr} {od_words_from_number an_words_from_number : Option Addr} {sl_words_from_number : Array (Option Value)} {oc_words_from_number kV_words_from_number dc_words_from_number pm_words_from_number cd_words_from_number ct_words_from_number : Value}
    {f_is_place : Addr} {od_is_place an_is_place : Option Addr} {sl_is_place : Array (Option Value)} {oc_is_place kV_is_place dc_is_place pm_is_place cd_is_place ct_is_place : Value}
    {f_are_two_places : Addr} {od_are_two_places an_are_two_places : Option Addr} {sl_are_two_places : Array (Option Value)} {oc_are_two_places kV_are_two_places dc_are_two_places pm_are_two_places cd_are_two_places ct_are_two_places : Value}
    {f_are_places : Addr} {od_are_places an_are_places : Option Addr} {sl_are_places : Array (Option Value)} {oc_are_places kV_are_places dc_are_places pm_are_places cd_are_places ct_are_places : Value}
    {f_is_modulus : Addr} {od_is_modulus an_is_modulus : Option Addr} {sl_is_modulus : Array (Option Value)} {oc_is_modulus kV_is_modulus dc_is_modulus pm_is_modulus cd_is_modulus ct_is_modulus : Value}
    {f_Bank_init : Addr} {od_Bank_init an_Bank_init : Option Addr} {sl_Bank_init : Array (Option Value)} {oc_Bank_init kV_Bank_init dc_Bank_init pm_Bank_init cd_Bank_init ct_Bank_init : Value}
    {f_Bank_begin : Addr} {od_Bank_begin an_Bank_begin : Option Addr} {sl_Bank_begin : Array (Option Value)} {oc_Bank_begin kV_Bank_begin dc_Bank_begin pm_Bank_begin cd_Bank_begin ct_Bank_begin : Value}
    {f_Bank_put_words : Addr} {od_Bank_put_words an_Bank_put_words : Option Addr} {sl_Bank_put_words : Array (Option Value)} {oc_Bank_put_words kV_Bank_put_words dc_Bank_put_words pm_Bank_put_words cd_Bank_put_words ct_Bank_put_words : Value}
    {f_Bank_get_words : Addr} {od_Bank_get_words an_Bank_get_words : Option Addr} {sl_Bank_get_words : Array (Option Value)} {oc_Bank_get_words kV_Bank_get_words dc_Bank_get_words pm_Bank_get_words cd_Bank_get_words ct_Bank_get_words : Value}
    {f_Bank_hold_sum : Addr} {od_Bank_hold_sum an_Bank_hold_sum : Option Addr} {sl_Bank_hold_sum : Array (Option Value)} {oc_Bank_hold_sum kV_Bank_hold_sum dc_Bank_hold_sum pm_Bank_hold_sum cd_Bank_hold_sum ct_Bank_hold_sum : Value}
    {f_Bank_hold_difference : Addr} {od_Bank_hold_difference an_Bank_hold_difference : Option Addr} {sl_Bank_hold_difference : Array (Option Value)} {oc_Bank_hold_difference kV_Bank_hold_difference dc_Bank_hold_difference pm_Bank_hold_difference cd_Bank_hold_difference ct_Bank_hold_difference : Value}
    {f_Bank_hold_product : Addr} {od_Bank_hold_product an_Bank_hold_product : Option Addr} {sl_Bank_hold_product : Array (Option Value)} {oc_Bank_hold_product kV_Bank_hold_product dc_Bank_hold_product pm_Bank_hold_product cd_Bank_hold_product ct_Bank_hold_product : Value}
    {f_Bank_hold_half : Addr} {od_Bank_hold_half an_Bank_hold_half : Option Addr} {sl_Bank_hold_half : Array (Option Value)} {oc_Bank_hold_half kV_Bank_hold_half dc_Bank_hold_half pm_Bank_hold_half cd_Bank_hold_half ct_Bank_hold_half : Value}
    {f_Bank_hold_doubled : Addr} {od_Bank_hold_doubled an_Bank_hold_doubled : Option Addr} {sl_Bank_hold_doubled : Array (Option Value)} {oc_Bank_hold_doubled kV_Bank_hold_doubled dc_Bank_hold_doubled pm_Bank_hold_doubled cd_Bank_hold_doubled ct_Bank_hold_doubled : Value}
    {f_Bank_hold_power : Addr} {od_Bank_hold_power an_Bank_hold_power : Option Addr} {sl_Bank_hold_power : Array (Option Value)} {oc_Bank_hold_power kV_Bank_hold_power dc_Bank_hold_power pm_Bank_hold_power cd_Bank_hold_power ct_Bank_hold_power : Value}
    {f_Bank_order : Addr} {od_Bank_order an_Bank_order : Option Addr} {sl_Bank_order : Array (Option Value)} {oc_Bank_order kV_Bank_order dc_Bank_order pm_Bank_order cd_Bank_order ct_Bank_order : Value}
    {f_Bank_hold : Addr} {od_Bank_hold an_Bank_hold : Option Addr} {sl_Bank_hold : Array (Option Value)} {oc_Bank_hold kV_Bank_hold dc_Bank_hold pm_Bank_hold cd_Bank_hold ct_Bank_hold : Value}
    {f_Reader_init : Addr} {od_Reader_init an_Reader_init : Option Addr} {sl_Reader_init : Array (Option Value)} {oc_Reader_init kV_Reader_init dc_Reader_init pm_Reader_init cd_Reader_init ct_Reader_init : Value}
    {f_Reader_is_done : Addr} {od_Reader_is_done an_Reader_is_done : Option Addr} {sl_Reader_is_done : Array (Option Value)} {oc_Reader_is_done kV_Reader_is_done dc_Reader_is_done pm_Reader_is_done cd_Reader_is_done ct_Reader_is_done : Value}
    {f_Reader_take : Addr} {od_Reader_take an_Reader_take : Option Addr} {sl_Reader_take : Array (Option Value)} {oc_Reader_take kV_Reader_take dc_Reader_take pm_Reader_take cd_Reader_take ct_Reader_take : Value}
    {f_Reader_take_row : Addr} {od_Reader_take_row an_Reader_take_row : Option Addr} {sl_Reader_take_row : Array (Option Value)} {oc_Reader_take_row kV_Reader_take_row dc_Reader_take_row pm_Reader_take_row cd_Reader_take_row ct_Reader_take_row : Value}
    {f_wide_product : Addr} {od_wide_product an_wide_product : Option Addr} {sl_wide_product : Array (Option Value)} {oc_wide_product kV_wide_product dc_wide_product pm_wide_product cd_wide_product ct_wide_product : Value}
    {f_shifted_words : Addr} {od_shifted_words an_shifted_words : Option Addr} {sl_shifted_words : Array (Option Value)} {oc_shifted_words kV_shifted_words dc_shifted_words pm_shifted_words cd_shifted_words ct_shifted_words : Value}
    {f_shifted_number : Addr} {od_shifted_number an_shifted_number : Option Addr} {sl_shifted_number : Array (Option Value)} {oc_shifted_number kV_shifted_number dc_shifted_number pm_shifted_number cd_shifted_number ct_shifted_number : Value}
    {f_answers : Addr} {od_answers an_answers : Option Addr} {sl_answers : Array (Option Value)} {oc_answers kV_answers dc_answers pm_answers cd_answers ct_answers : Value}
    {f_answer_next : Addr} {od_answer_next an_answer_next : Option Addr} {sl_answer_next : Array (Option Value)} {oc_answer_next kV_answer_next dc_answer_next pm_answer_next cd_answer_next ct_answer_next : Value}
    {f_answer_of_words : Addr} {od_answer_of_words an_answer_of_words : Option Addr} {sl_answer_of_words : Array (Option Value)} {oc_answer_of_words kV_answer_of_words dc_answer_of_words pm_answer_of_words cd_answer_of_words ct_answer_of_words : Value}
    {f_answer_of_three : Addr} {od_answer_of_three an_answer_of_three : Option Addr} {sl_answer_of_three : Array (Option Value)} {oc_answer_of_three kV_answer_of_three dc_answer_of_three pm_answer_of_three cd_answer_of_three ct_answer_of_three : Value}
    {f_answer_of_two : Addr} {od_answer_of_two an_answer_of_two : Option Addr} {sl_answer_of_two : Array (Option Value)} {oc_answer_of_two kV_answer_of_two dc_answer_of_two pm_answer_of_two cd_answer_of_two ct_answer_of_two : Value}
    {f_answer_of_whole : Addr} {od_answer_of_whole an_answer_of_whole : Option Addr} {sl_answer_of_whole : Array (Option Value)} {oc_answer_of_whole kV_answer_of_whole dc_answer_of_whole pm_answer_of_whole cd_answer_of_whole ct_answer_of_whole : Value}
    (k_DIGIT_BITS : PySem.W.nsIn K mainGlobals "DIGIT_BITS" = some (some (Value.int (4) u_DIGIT_BITS)))
    (k_DIGITS : PySem.W.nsIn K mainGlobals "DIGITS" = some (some (Value.int (16) u_DIGITS)))
    (k_DONE : PySem.W.nsIn K mainGlobals "DONE" = some (some (Value.int (0) u_DONE)))
    (k_REFUSED : PySem.W.nsIn K mainGlobals "REFUSED" = some (some (Value.int (-1) u_REFUSED)))
    (k_BELOW : PySem.W.nsIn K mainGlobals "BELOW" = some (some (Value.int (-1) u_BELOW)))
    (k_LEVEL : PySem.W.nsIn K mainGlobals "LEVEL" = some (some (Value.int (0) u_LEVEL)))
    (k_ABOVE : PySem.W.nsIn K mainGlobals "ABOVE" = some (some (Value.int (1) u_ABOVE)))
    (k_NO_ORDER : PySem.W.nsIn K mainGlobals "NO_ORDER" = some (some (Value.int (-2) u_NO_ORDER)))
    (k_WORD_BITS : PySem.W.nsIn K mainGlobals "WORD_BITS" = some (some (Value.int (64) u_WORD_BITS)))
    (k_GREATEST_WORD : PySem.W.nsIn K mainGlobals "GREATEST_WORD" = some (some (Value.int (18446744073709551615) u_GREATEST_WORD)))
    (k_MOST_WORDS : PySem.W.nsIn K mainGlobals "MOST_WORDS" = some (some (Value.int (64) u_MOST_WORDS)))
    (k_PLACES : PySem.W.nsIn K mainGlobals "PLACES" = some (some (Value.int (8) u_PLACES)))
    (k_LEAST_MODULUS : PySem.W.nsIn K mainGlobals "LEAST_MODULUS" = some (some (Value.int (3) u_LEAST_MODULUS)))
    (k_MOST_TIMES : PySem.W.nsIn K mainGlobals "MOST_TIMES" = some (some (Value.int (4096) u_MOST_TIMES)))
    (k_MOST_BYTES : PySem.W.nsIn K mainGlobals "MOST_BYTES" = some (some (Value.int (512) u_MOST_BYTES)))
    (k_BEGIN : PySem.W.nsIn K mainGlobals "BEGIN" = some (some (Value.int (0) u_BEGIN)))
    (k_PUT : PySem.W.nsIn K mainGlobals "PUT" = some (some (Value.int (1) u_PUT)))
    (k_GET : PySem.W.nsIn K mainGlobals "GET" = some (some (Value.int (2) u_GET)))
    (k_SUM_OF : PySem.W.nsIn K mainGlobals "SUM_OF" = some (some (Value.int (3) u_SUM_OF)))
    (k_DIFFERENCE : PySem.W.nsIn K mainGlobals "DIFFERENCE" = some (some (Value.int (4) u_DIFFERENCE)))
    (k_PRODUCT : PySem.W.nsIn K mainGlobals "PRODUCT" = some (some (Value.int (5) u_PRODUCT)))
    (k_HALF : PySem.W.nsIn K mainGlobals "HALF" = some (some (Value.int (6) u_HALF)))
    (k_DOUBLED : PySem.W.nsIn K mainGlobals "DOUBLED" = some (some (Value.int (7) u_DOUBLED)))
    (k_POWER : PySem.W.nsIn K mainGlobals "POWER" = some (some (Value.int (8) u_POWER)))
    (k_ORDER : PySem.W.nsIn K mainGlobals "ORDER" = some (some (Value.int (10) u_ORDER)))
    (k_WIDE : PySem.W.nsIn K mainGlobals "WIDE" = some (some (Value.int (11) u_WIDE)))
    (k_SHIFTED : PySem.W.nsIn K mainGlobals "SHIFTED" = some (some (Value.int (12) u_SHIFTED)))
    (b_len : PySem.W.nsIn K mainGlobals "len" = some none)
    (b_min : PySem.W.nsIn K mainGlobals "min" = some none)
    (b_range : PySem.W.nsIn K mainGlobals "range" = some none)
    (b_reversed : PySem.W.nsIn K mainGlobals "reversed" = some none)
    (g_Bank : PySem.W.nsIn K mainGlobals "Bank" = some (some (.ref c_Bank)))
    (pg_Bank : PySem.W.plainGet K c_Bank Str.empty = true)
    (hd_Bank : PySem.W.hasDictIn K c_Bank = true)
    (po_Bank : PySem.W.plainOver K c_Bank = true)
    (sa_Bank : PySem.W.findIn K (.ref c_Bank) "__setattr__" = some (some (.builtin "object.__setattr__")))
    (mk_Bank : PySem.W.makesIn K c_Bank = true)
    (kc_Bank : PySem.W.keepIn K (.ref c_Bank) = true)
    (n_Bank_modulus : PySem.W.findIn K (.ref c_Bank) "modulus" = some none)
    (n_Bank_length : PySem.W.findIn K (.ref c_Bank) "length" = some none)
    (n_Bank_held : PySem.W.findIn K (.ref c_Bank) "held" = some none)
    (g_Reader : PySem.W.nsIn K mainGlobals "Reader" = some (some (.ref c_Reader)))
    (pg_Reader : PySem.W.plainGet K c_Reader Str.empty = true)
    (hd_Reader : PySem.W.hasDictIn K c_Reader = true)
    (po_Reader : PySem.W.plainOver K c_Reader = true)
    (sa_Reader : PySem.W.findIn K (.ref c_Reader) "__setattr__" = some (some (.builtin "object.__setattr__")))
    (mk_Reader : PySem.W.makesIn K c_Reader = true)
    (kc_Reader : PySem.W.keepIn K (.ref c_Reader) = true)
    (n_Reader_numbers : PySem.W.findIn K (.ref c_Reader) "numbers" = some none)
    (n_Reader_place : PySem.W.findIn K (.ref c_Reader) "place" = some none)
    (a_power_modulo : PySem.W.nsIn K mainGlobals "power_modulo" = some (some (.ref f_power_modulo)))
    (l_power_modulo : K.lookup f_power_modulo = some ⟨oc_power_modulo, od_power_modulo, .func (PySem.W.fnOf "power_modulo" "power_modulo" (defArgs st_power_modulo) (defBody st_power_modulo) (defScope st_power_modulo) .none kV_power_modulo dc_power_modulo pm_power_modulo an_power_modulo cd_power_modulo ct_power_modulo), sl_power_modulo⟩)
    (c_power_modulo : PySem.W.codeIn K cd_power_modulo "power_modulo" = true)
    (p_power_modulo : PySem.W.keepIn K (.ref f_power_modulo) = true)
    (a_first_powers : PySem.W.nsIn K mainGlobals "first_powers" = some (some (.ref f_first_powers)))
    (l_first_powers : K.lookup f_first_powers = some ⟨oc_first_powers, od_first_powers, .func (PySem.W.fnOf "first_powers" "first_powers" (defArgs st_first_powers) (defBody st_first_powers) (defScope st_first_powers) .none kV_first_powers dc_first_powers pm_first_powers an_first_powers cd_first_powers ct_first_powers), sl_first_powers⟩)
    (c_first_powers : PySem.W.codeIn K cd_first_powers "first_powers" = true)
    (p_first_powers : PySem.W.keepIn K (.ref f_first_powers) = true)
    (a_sixteenth_power : PySem.W.nsIn K mainGlobals "sixteenth_power" = some (some (.ref f_sixteenth_power)))
    (l_sixteenth_power : K.lookup f_sixteenth_power = some ⟨oc_sixteenth_power, od_sixteenth_power, .func (PySem.W.fnOf "sixteenth_power" "sixteenth_power" (defArgs st_sixteenth_power) (defBody st_sixteenth_power) (defScope st_sixteenth_power) .none kV_sixteenth_power dc_sixteenth_power pm_sixteenth_power an_sixteenth_power cd_sixteenth_power ct_sixteenth_power), sl_sixteenth_power⟩)
    (c_sixteenth_power : PySem.W.codeIn K cd_sixteenth_power "sixteenth_power" = true)
    (p_sixteenth_power : PySem.W.keepIn K (.ref f_sixteenth_power) = true)
    (a_is_length : PySem.W.nsIn K mainGlobals "is_length" = some (some (.ref f_is_length)))
    (l_is_length : K.lookup f_is_length = some ⟨oc_is_length, od_is_length, .func (PySem.W.fnOf "is_length" "is_length" (defArgs st_is_length) (defBody st_is_length) (defScope st_is_length) .none kV_is_length dc_is_length pm_is_length an_is_length cd_is_length ct_is_length), sl_is_length⟩)
    (c_is_length : PySem.W.codeIn K cd_is_length "is_length" = true)
    (p_is_length : PySem.W.keepIn K (.ref f_is_length) = true)
    (a_number_from_words : PySem.W.nsIn K mainGlobals "number_from_words" = some (some (.ref f_number_from_words)))
    (l_number_from_words : K.lookup f_number_from_words = some ⟨oc_number_from_words, od_number_from_words, .func (PySem.W.fnOf "number_from_words" "number_from_words" (defArgs st_number_from_words) (defBody st_number_from_words) (defScope st_number_from_words) .none kV_number_from_words dc_number_from_words pm_number_from_words an_number_from_words cd_number_from_words ct_number_from_words), sl_number_from_words⟩)
    (c_number_from_words : PySem.W.codeIn K cd_number_from_words "number_from_words" = true)
    (p_number_from_words : PySem.W.keepIn K (.ref f_number_from_words) = true)
    (a_words_from_number : PySem.W.nsIn K mainGlobals "words_from_number" = some (some (.ref f_words_from_number)))
    (l_words_from_number : K.lookup f_words_from_number = some ⟨oc_words_from_number, od_words_from_number, .func (PySem.W.fnOf "words_from_number" "words_from_number" (defArgs st_words_from_number) (defBody st_words_from_number) (defScope st_words_from_number) .none kV_words_from_number dc_words_from_number pm_words_from_number an_words_from_number cd_words_from_number ct_words_from_number), sl_words_from_number⟩)
    (c_words_from_number : PySem.W.codeIn K cd_words_from_number "words_from_number" = true)
    (p_words_from_number : PySem.W.keepIn K (.ref f_words_from_number) = true)
    (a_is_place : PySem.W.nsIn K mainGlobals "is_place" = some (some (.ref f_is_place)))
    (l_is_place : K.lookup f_is_place = some ⟨oc_is_place, od_is_place, .func (PySem.W.fnOf "is_place" "is_place" (defArgs st_is_place) (defBody st_is_place) (defScope st_is_place) .none kV_is_place dc_is_place pm_is_place an_is_place cd_is_place ct_is_place), sl_is_place⟩)
    (c_is_place : PySem.W.codeIn K cd_is_place "is_place" = true)
    (p_is_place : PySem.W.keepIn K (.ref f_is_place) = true)
    (a_are_two_places : PySem.W.nsIn K mainGlobals "are_two_places" = some (some (.ref f_are_two_places)))
    (l_are_two_places : K.lookup f_are_two_places = some ⟨oc_are_two_places, od_are_two_places, .func (PySem.W.fnOf "are_two_places" "are_two_places" (defArgs st_are_two_places) (defBody st_are_two_places) (defScope st_are_two_places) .none kV_are_two_places dc_are_two_places pm_are_two_places an_are_two_places cd_are_two_places ct_are_two_places), sl_are_two_places⟩)
    (c_are_two_places : PySem.W.codeIn K cd_are_two_places "are_two_places" = true)
    (p_are_two_places : PySem.W.keepIn K (.ref f_are_two_places) = true)
    (a_are_places : PySem.W.nsIn K mainGlobals "are_places" = some (some (.ref f_are_places)))
    (l_are_places : K.lookup f_are_places = some ⟨oc_are_places, od_are_places, .func (PySem.W.fnOf "are_places" "are_places" (defArgs st_are_places) (defBody st_are_places) (defScope st_are_places) .none kV_are_places dc_are_places pm_are_places an_are_places cd_are_places ct_are_places), sl_are_places⟩)
    (c_are_places : PySem.W.codeIn K cd_are_places "are_places" = true)
    (p_are_places : PySem.W.keepIn K (.ref f_are_places) = true)
    (a_is_modulus : PySem.W.nsIn K mainGlobals "is_modulus" = some (some (.ref f_is_modulus)))
    (l_is_modulus : K.lookup f_is_modulus = some ⟨oc_is_modulus, od_is_modulus, .func (PySem.W.fnOf "is_modulus" "is_modulus" (defArgs st_is_modulus) (defBody st_is_modulus) (defScope st_is_modulus) .none kV_is_modulus dc_is_modulus pm_is_modulus an_is_modulus cd_is_modulus ct_is_modulus), sl_is_modulus⟩)
    (c_is_modulus : PySem.W.codeIn K cd_is_modulus "is_modulus" = true)
    (p_is_modulus : PySem.W.keepIn K (.ref f_is_modulus) = true)
    (a_Bank_init : PySem.W.findIn K (.ref c_Bank) "__init__" = some (some (.ref f_Bank_init)))
    (i_Bank_init : PySem.W.isFn K (.ref f_Bank_init) = true)
    (l_Bank_init : K.lookup f_Bank_init = some ⟨oc_Bank_init, od_Bank_init, .func (PySem.W.fnOf "__init__" "Bank.__init__" (defArgs st_Bank_init) (defBody st_Bank_init) (defScope st_Bank_init) .none kV_Bank_init dc_Bank_init pm_Bank_init an_Bank_init cd_Bank_init ct_Bank_init), sl_Bank_init⟩)
    (c_Bank_init : PySem.W.codeIn K cd_Bank_init "Bank.__init__" = true)
    (p_Bank_init : PySem.W.keepIn K (.ref f_Bank_init) = true)
    (a_Bank_begin : PySem.W.findIn K (.ref c_Bank) "begin" = some (some (.ref f_Bank_begin)))
    (i_Bank_begin : PySem.W.isFn K (.ref f_Bank_begin) = true)
    (l_Bank_begin : K.lookup f_Bank_begin = some ⟨oc_Bank_begin, od_Bank_begin, .func (PySem.W.fnOf "begin" "Bank.begin" (defArgs st_Bank_begin) (defBody st_Bank_begin) (defScope st_Bank_begin) .none kV_Bank_begin dc_Bank_begin pm_Bank_begin an_Bank_begin cd_Bank_begin ct_Bank_begin), sl_Bank_begin⟩)
    (c_Bank_begin : PySem.W.codeIn K cd_Bank_begin "Bank.begin" = true)
    (p_Bank_begin : PySem.W.keepIn K (.ref f_Bank_begin) = true)
    (a_Bank_put_words : PySem.W.findIn K (.ref c_Bank) "put_words" = some (some (.ref f_Bank_put_words)))
    (i_Bank_put_words : PySem.W.isFn K (.ref f_Bank_put_words) = true)
    (l_Bank_put_words : K.lookup f_Bank_put_words = some ⟨oc_Bank_put_words, od_Bank_put_words, .func (PySem.W.fnOf "put_words" "Bank.put_words" (defArgs st_Bank_put_words) (defBody st_Bank_put_words) (defScope st_Bank_put_words) .none kV_Bank_put_words dc_Bank_put_words pm_Bank_put_words an_Bank_put_words cd_Bank_put_words ct_Bank_put_words), sl_Bank_put_words⟩)
    (c_Bank_put_words : PySem.W.codeIn K cd_Bank_put_words "Bank.put_words" = true)
    (p_Bank_put_words : PySem.W.keepIn K (.ref f_Bank_put_words) = true)
    (a_Bank_get_words : PySem.W.findIn K (.ref c_Bank) "get_words" = some (some (.ref f_Bank_get_words)))
    (i_Bank_get_words : PySem.W.isFn K (.ref f_Bank_get_words) = true)
    (l_Bank_get_words : K.lookup f_Bank_get_words = some ⟨oc_Bank_get_words, od_Bank_get_words, .func (PySem.W.fnOf "get_words" "Bank.get_words" (defArgs st_Bank_get_words) (defBody st_Bank_get_words) (defScope st_Bank_get_words) .none kV_Bank_get_words dc_Bank_get_words pm_Bank_get_words an_Bank_get_words cd_Bank_get_words ct_Bank_get_words), sl_Bank_get_words⟩)
    (c_Bank_get_words : PySem.W.codeIn K cd_Bank_get_words "Bank.get_words" = true)
    (p_Bank_get_words : PySem.W.keepIn K (.ref f_Bank_get_words) = true)
    (a_Bank_hold_sum : PySem.W.findIn K (.ref c_Bank) "hold_sum" = some (some (.ref f_Bank_hold_sum)))
    (i_Bank_hold_sum : PySem.W.isFn K (.ref f_Bank_hold_sum) = true)
    (l_Bank_hold_sum : K.lookup f_Bank_hold_sum = some ⟨oc_Bank_hold_sum, od_Bank_hold_sum, .func (PySem.W.fnOf "hold_sum" "Bank.hold_sum" (defArgs st_Bank_hold_sum) (defBody st_Bank_hold_sum) (defScope st_Bank_hold_sum) .none kV_Bank_hold_sum dc_Bank_hold_sum pm_Bank_hold_sum an_Bank_hold_sum cd_Bank_hold_sum ct_Bank_hold_sum), sl_Bank_hold_sum⟩)
    (c_Bank_hold_sum : PySem.W.codeIn K cd_Bank_hold_sum "Bank.hold_sum" = true)
    (p_Bank_hold_sum : PySem.W.keepIn K (.ref f_Bank_hold_sum) = true)
    (a_Bank_hold_difference : PySem.W.findIn K (.ref c_Bank) "hold_difference" = some (some (.ref f_Bank_hold_difference)))
    (i_Bank_hold_difference : PySem.W.isFn K (.ref f_Bank_hold_difference) = true)
    (l_Bank_hold_difference : K.lookup f_Bank_hold_difference = some ⟨oc_Bank_hold_difference, od_Bank_hold_difference, .func (PySem.W.fnOf "hold_difference" "Bank.hold_difference" (defArgs st_Bank_hold_difference) (defBody st_Bank_hold_difference) (defScope st_Bank_hold_difference) .none kV_Bank_hold_difference dc_Bank_hold_difference pm_Bank_hold_difference an_Bank_hold_difference cd_Bank_hold_difference ct_Bank_hold_difference), sl_Bank_hold_difference⟩)
    (c_Bank_hold_difference : PySem.W.codeIn K cd_Bank_hold_difference "Bank.hold_difference" = true)
    (p_Bank_hold_difference : PySem.W.keepIn K (.ref f_Bank_hold_difference) = true)
    (a_Bank_hold_product : PySem.W.findIn K (.ref c_Bank) "hold_product" = some (some (.ref f_Bank_hold_product)))
    (i_Bank_hold_product : PySem.W.isFn K (.ref f_Bank_hold_product) = true)
    (l_Bank_hold_product : K.lookup f_Bank_hold_product = some ⟨oc_Bank_hold_product, od_Bank_hold_product, .func (PySem.W.fnOf "hold_product" "Bank.hold_product" (defArgs st_Bank_hold_product) (defBody st_Bank_hold_product) (defScope st_Bank_hold_product) .none kV_Bank_hold_product dc_Bank_hold_product pm_Bank_hold_product an_Bank_hold_product cd_Bank_hold_product ct_Bank_hold_product), sl_Bank_hold_product⟩)
    (c_Bank_hold_product : PySem.W.codeIn K cd_Bank_hold_product "Bank.hold_product" = true)
    (p_Bank_hold_product : PySem.W.keepIn K (.ref f_Bank_hold_product) = true)
    (a_Bank_hold_half : PySem.W.findIn K (.ref c_Bank) "hold_half" = some (some (.ref f_Bank_hold_half)))
    (i_Bank_hold_half : PySem.W.isFn K (.ref f_Bank_hold_half) = true)
    (l_Bank_hold_half : K.lookup f_Bank_hold_half = some ⟨oc_Bank_hold_half, od_Bank_hold_half, .func (PySem.W.fnOf "hold_half" "Bank.hold_half" (defArgs st_Bank_hold_half) (defBody st_Bank_hold_half) (defScope st_Bank_hold_half) .none kV_Bank_hold_half dc_Bank_hold_half pm_Bank_hold_half an_Bank_hold_half cd_Bank_hold_half ct_Bank_hold_half), sl_Bank_hold_half⟩)
    (c_Bank_hold_half : PySem.W.codeIn K cd_Bank_hold_half "Bank.hold_half" = true)
    (p_Bank_hold_half : PySem.W.keepIn K (.ref f_Bank_hold_half) = true)
    (a_Bank_hold_doubled : PySem.W.findIn K (.ref c_Bank) "hold_doubled" = some (some (.ref f_Bank_hold_doubled)))
    (i_Bank_hold_doubled : PySem.W.isFn K (.ref f_Bank_hold_doubled) = true)
    (l_Bank_hold_doubled : K.lookup f_Bank_hold_doubled = some ⟨oc_Bank_hold_doubled, od_Bank_hold_doubled, .func (PySem.W.fnOf "hold_doubled" "Bank.hold_doubled" (defArgs st_Bank_hold_doubled) (defBody st_Bank_hold_doubled) (defScope st_Bank_hold_doubled) .none kV_Bank_hold_doubled dc_Bank_hold_doubled pm_Bank_hold_doubled an_Bank_hold_doubled cd_Bank_hold_doubled ct_Bank_hold_doubled), sl_Bank_hold_doubled⟩)
    (c_Bank_hold_doubled : PySem.W.codeIn K cd_Bank_hold_doubled "Bank.hold_doubled" = true)
    (p_Bank_hold_doubled : PySem.W.keepIn K (.ref f_Bank_hold_doubled) = true)
    (a_Bank_hold_power : PySem.W.findIn K (.ref c_Bank) "hold_power" = some (some (.ref f_Bank_hold_power)))
    (i_Bank_hold_power : PySem.W.isFn K (.ref f_Bank_hold_power) = true)
    (l_Bank_hold_power : K.lookup f_Bank_hold_power = some ⟨oc_Bank_hold_power, od_Bank_hold_power, .func (PySem.W.fnOf "hold_power" "Bank.hold_power" (defArgs st_Bank_hold_power) (defBody st_Bank_hold_power) (defScope st_Bank_hold_power) .none kV_Bank_hold_power dc_Bank_hold_power pm_Bank_hold_power an_Bank_hold_power cd_Bank_hold_power ct_Bank_hold_power), sl_Bank_hold_power⟩)
    (c_Bank_hold_power : PySem.W.codeIn K cd_Bank_hold_power "Bank.hold_power" = true)
    (p_Bank_hold_power : PySem.W.keepIn K (.ref f_Bank_hold_power) = true)
    (a_Bank_order : PySem.W.findIn K (.ref c_Bank) "order" = some (some (.ref f_Bank_order)))
    (i_Bank_order : PySem.W.isFn K (.ref f_Bank_order) = true)
    (l_Bank_order : K.lookup f_Bank_order = some ⟨oc_Bank_order, od_Bank_order, .func (PySem.W.fnOf "order" "Bank.order" (defArgs st_Bank_order) (defBody st_Bank_order) (defScope st_Bank_order) .none kV_Bank_order dc_Bank_order pm_Bank_order an_Bank_order cd_Bank_order ct_Bank_order), sl_Bank_order⟩)
    (c_Bank_order : PySem.W.codeIn K cd_Bank_order "Bank.order" = true)
    (p_Bank_order : PySem.W.keepIn K (.ref f_Bank_order) = true)
    (a_Bank_hold : PySem.W.findIn K (.ref c_Bank) "hold" = some (some (.ref f_Bank_hold)))
    (i_Bank_hold : PySem.W.isFn K (.ref f_Bank_hold) = true)
    (l_Bank_hold : K.lookup f_Bank_hold = some ⟨oc_Bank_hold, od_Bank_hold, .func (PySem.W.fnOf "hold" "Bank.hold" (defArgs st_Bank_hold) (defBody st_Bank_hold) (defScope st_Bank_hold) .none kV_Bank_hold dc_Bank_hold pm_Bank_hold an_Bank_hold cd_Bank_hold ct_Bank_hold), sl_Bank_hold⟩)
    (c_Bank_hold : PySem.W.codeIn K cd_Bank_hold "Bank.hold" = true)
    (p_Bank_hold : PySem.W.keepIn K (.ref f_Bank_hold) = true)
    (a_Reader_init : PySem.W.findIn K (.ref c_Reader) "__init__" = some (some (.ref f_Reader_init)))
    (i_Reader_init : PySem.W.isFn K (.ref f_Reader_init) = true)
    (l_Reader_init : K.lookup f_Reader_init = some ⟨oc_Reader_init, od_Reader_init, .func (PySem.W.fnOf "__init__" "Reader.__init__" (defArgs st_Reader_init) (defBody st_Reader_init) (defScope st_Reader_init) .none kV_Reader_init dc_Reader_init pm_Reader_init an_Reader_init cd_Reader_init ct_Reader_init), sl_Reader_init⟩)
    (c_Reader_init : PySem.W.codeIn K cd_Reader_init "Reader.__init__" = true)
    (p_Reader_init : PySem.W.keepIn K (.ref f_Reader_init) = true)
    (a_Reader_is_done : PySem.W.findIn K (.ref c_Reader) "is_done" = some (some (.ref f_Reader_is_done)))
    (i_Reader_is_done : PySem.W.isFn K (.ref f_Reader_is_done) = true)
    (l_Reader_is_done : K.lookup f_Reader_is_done = some ⟨oc_Reader_is_done, od_Reader_is_done, .func (PySem.W.fnOf "is_done" "Reader.is_done" (defArgs st_Reader_is_done) (defBody st_Reader_is_done) (defScope st_Reader_is_done) .none kV_Reader_is_done dc_Reader_is_done pm_Reader_is_done an_Reader_is_done cd_Reader_is_done ct_Reader_is_done), sl_Reader_is_done⟩)
    (c_Reader_is_done : PySem.W.codeIn K cd_Reader_is_done "Reader.is_done" = true)
    (p_Reader_is_done : PySem.W.keepIn K (.ref f_Reader_is_done) = true)
    (a_Reader_take : PySem.W.findIn K (.ref c_Reader) "take" = some (some (.ref f_Reader_take)))
    (i_Reader_take : PySem.W.isFn K (.ref f_Reader_take) = true)
    (l_Reader_take : K.lookup f_Reader_take = some ⟨oc_Reader_take, od_Reader_take, .func (PySem.W.fnOf "take" "Reader.take" (defArgs st_Reader_take) (defBody st_Reader_take) (defScope st_Reader_take) .none kV_Reader_take dc_Reader_take pm_Reader_take an_Reader_take cd_Reader_take ct_Reader_take), sl_Reader_take⟩)
    (c_Reader_take : PySem.W.codeIn K cd_Reader_take "Reader.take" = true)
    (p_Reader_take : PySem.W.keepIn K (.ref f_Reader_take) = true)
    (a_Reader_take_row : PySem.W.findIn K (.ref c_Reader) "take_row" = some (some (.ref f_Reader_take_row)))
    (i_Reader_take_row : PySem.W.isFn K (.ref f_Reader_take_row) = true)
    (l_Reader_take_row : K.lookup f_Reader_take_row = some ⟨oc_Reader_take_row, od_Reader_take_row, .func (PySem.W.fnOf "take_row" "Reader.take_row" (defArgs st_Reader_take_row) (defBody st_Reader_take_row) (defScope st_Reader_take_row) .none kV_Reader_take_row dc_Reader_take_row pm_Reader_take_row an_Reader_take_row cd_Reader_take_row ct_Reader_take_row), sl_Reader_take_row⟩)
    (c_Reader_take_row : PySem.W.codeIn K cd_Reader_take_row "Reader.take_row" = true)
    (p_Reader_take_row : PySem.W.keepIn K (.ref f_Reader_take_row) = true)
    (a_wide_product : PySem.W.nsIn K mainGlobals "wide_product" = some (some (.ref f_wide_product)))
    (l_wide_product : K.lookup f_wide_product = some ⟨oc_wide_product, od_wide_product, .func (PySem.W.fnOf "wide_product" "wide_product" (defArgs st_wide_product) (defBody st_wide_product) (defScope st_wide_product) .none kV_wide_product dc_wide_product pm_wide_product an_wide_product cd_wide_product ct_wide_product), sl_wide_product⟩)
    (c_wide_product : PySem.W.codeIn K cd_wide_product "wide_product" = true)
    (p_wide_product : PySem.W.keepIn K (.ref f_wide_product) = true)
    (a_shifted_words : PySem.W.nsIn K mainGlobals "shifted_words" = some (some (.ref f_shifted_words)))
    (l_shifted_words : K.lookup f_shifted_words = some ⟨oc_shifted_words, od_shifted_words, .func (PySem.W.fnOf "shifted_words" "shifted_words" (defArgs st_shifted_words) (defBody st_shifted_words) (defScope st_shifted_words) .none kV_shifted_words dc_shifted_words pm_shifted_words an_shifted_words cd_shifted_words ct_shifted_words), sl_shifted_words⟩)
    (c_shifted_words : PySem.W.codeIn K cd_shifted_words "shifted_words" = true)
    (p_shifted_words : PySem.W.keepIn K (.ref f_shifted_words) = true)
    (a_shifted_number : PySem.W.nsIn K mainGlobals "shifted_number" = some (some (.ref f_shifted_number)))
    (l_shifted_number : K.lookup f_shifted_number = some ⟨oc_shifted_number, od_shifted_number, .func (PySem.W.fnOf "shifted_number" "shifted_number" (defArgs st_shifted_number) (defBody st_shifted_number) (defScope st_shifted_number) .none kV_shifted_number dc_shifted_number pm_shifted_number an_shifted_number cd_shifted_number ct_shifted_number), sl_shifted_number⟩)
    (c_shifted_number : PySem.W.codeIn K cd_shifted_number "shifted_number" = true)
    (p_shifted_number : PySem.W.keepIn K (.ref f_shifted_number) = true)
    (a_answers : PySem.W.nsIn K mainGlobals "answers" = some (some (.ref f_answers)))
    (l_answers : K.lookup f_answers = some ⟨oc_answers, od_answers, .func (PySem.W.fnOf "answers" "answers" (defArgs st_answers) (defBody st_answers) (defScope st_answers) .none kV_answers dc_answers pm_answers an_answers cd_answers ct_answers), sl_answers⟩)
    (c_answers : PySem.W.codeIn K cd_answers "answers" = true)
    (p_answers : PySem.W.keepIn K (.ref f_answers) = true)
    (a_answer_next : PySem.W.nsIn K mainGlobals "answer_next" = some (some (.ref f_answer_next)))
    (l_answer_next : K.lookup f_answer_next = some ⟨oc_answer_next, od_answer_next, .func (PySem.W.fnOf "answer_next" "answer_next" (defArgs st_answer_next) (defBody st_answer_next) (defScope st_answer_next) .none kV_answer_next dc_answer_next pm_answer_next an_answer_next cd_answer_next ct_answer_next), sl_answer_next⟩)
    (c_answer_next : PySem.W.codeIn K cd_answer_next "answer_next" = true)
    (p_answer_next : PySem.W.keepIn K (.ref f_answer_next) = true)
    (a_answer_of_words : PySem.W.nsIn K mainGlobals "answer_of_words" = some (some (.ref f_answer_of_words)))
    (l_answer_of_words : K.lookup f_answer_of_words = some ⟨oc_answer_of_words, od_answer_of_words, .func (PySem.W.fnOf "answer_of_words" "answer_of_words" (defArgs st_answer_of_words) (defBody st_answer_of_words) (defScope st_answer_of_words) .none kV_answer_of_words dc_answer_of_words pm_answer_of_words an_answer_of_words cd_answer_of_words ct_answer_of_words), sl_answer_of_words⟩)
    (c_answer_of_words : PySem.W.codeIn K cd_answer_of_words "answer_of_words" = true)
    (p_answer_of_words : PySem.W.keepIn K (.ref f_answer_of_words) = true)
    (a_answer_of_three : PySem.W.nsIn K mainGlobals "answer_of_three" = some (some (.ref f_answer_of_three)))
    (l_answer_of_three : K.lookup f_answer_of_three = some ⟨oc_answer_of_three, od_answer_of_three, .func (PySem.W.fnOf "answer_of_three" "answer_of_three" (defArgs st_answer_of_three) (defBody st_answer_of_three) (defScope st_answer_of_three) .none kV_answer_of_three dc_answer_of_three pm_answer_of_three an_answer_of_three cd_answer_of_three ct_answer_of_three), sl_answer_of_three⟩)
    (c_answer_of_three : PySem.W.codeIn K cd_answer_of_three "answer_of_three" = true)
    (p_answer_of_three : PySem.W.keepIn K (.ref f_answer_of_three) = true)
    (a_answer_of_two : PySem.W.nsIn K mainGlobals "answer_of_two" = some (some (.ref f_answer_of_two)))
    (l_answer_of_two : K.lookup f_answer_of_two = some ⟨oc_answer_of_two, od_answer_of_two, .func (PySem.W.fnOf "answer_of_two" "answer_of_two" (defArgs st_answer_of_two) (defBody st_answer_of_two) (defScope st_answer_of_two) .none kV_answer_of_two dc_answer_of_two pm_answer_of_two an_answer_of_two cd_answer_of_two ct_answer_of_two), sl_answer_of_two⟩)
    (c_answer_of_two : PySem.W.codeIn K cd_answer_of_two "answer_of_two" = true)
    (p_answer_of_two : PySem.W.keepIn K (.ref f_answer_of_two) = true)
    (a_answer_of_whole : PySem.W.nsIn K mainGlobals "answer_of_whole" = some (some (.ref f_answer_of_whole)))
    (l_answer_of_whole : K.lookup f_answer_of_whole = some ⟨oc_answer_of_whole, od_answer_of_whole, .func (PySem.W.fnOf "answer_of_whole" "answer_of_whole" (defArgs st_answer_of_whole) (defBody st_answer_of_whole) (defScope st_answer_of_whole) .none kV_answer_of_whole dc_answer_of_whole pm_answer_of_whole an_answer_of_whole cd_answer_of_whole ct_answer_of_whole), sl_answer_of_whole⟩)
    (c_answer_of_whole : PySem.W.codeIn K cd_answer_of_whole "answer_of_whole" = true)
    (p_answer_of_whole : PySem.W.keepIn K (.ref f_answer_of_whole) = true) :
    ∃ t, Txt K mg t := by
  refine ⟨⟨c_Bank,
    c_Reader,
    f_power_modulo,
    PySem.W.fnOf "power_modulo" "power_modulo" (defArgs st_power_modulo) (defBody st_power_modulo) (defScope st_power_modulo) .none kV_power_modulo dc_power_modulo pm_power_modulo an_power_modulo cd_power_modulo ct_power_modulo,
    f_first_powers,
    PySem.W.fnOf "first_powers" "first_powers" (defArgs st_first_powers) (defBody st_first_powers) (defScope st_first_powers) .none kV_first_powers dc_first_powers pm_first_powers an_first_powers cd_first_powers ct_first_powers,
    f_sixteenth_power,
    PySem.W.fnOf "sixteenth_power" "sixteenth_power" (defArgs st_sixteenth_power) (defBody st_sixteenth_power) (defScope st_sixteenth_power) .none kV_sixteenth_power dc_sixteenth_power pm_sixteenth_power an_sixteenth_power cd_sixteenth_power ct_sixteenth_power,
    f_is_length,
    PySem.W.fnOf "is_length" "is_length" (defArgs st_is_length) (defBody st_is_length) (defScope st_is_length) .none kV_is_length dc_is_length pm_is_length an_is_length cd_is_length ct_is_length,
    f_number_from_words,
    PySem.W.fnOf "number_from_words" "number_from_words" (defArgs st_number_from_words) (defBody st_number_from_words) (defScope st_number_from_words) .none kV_number_from_words dc_number_from_words pm_number_from_words an_number_from_words cd_number_from_words ct_number_from_words,
    f_words_from_number,
    PySem.W.fnOf "words_from_number" "words_from_number" (defArgs st_words_from_number) (defBody st_words_from_number) (defScope st_words_from_number) .none kV_words_from_number dc_words_from_number pm_words_from_number an_words_from_number cd_words_from_number ct_words_from_number,
    f_is_place,
    PySem.W.fnOf "is_place" "is_place" (defArgs st_is_place) (defBody st_is_place) (defScope st_is_place) .none kV_is_place dc_is_place pm_is_place an_is_place cd_is_place ct_is_place,
    f_are_two_places,
    PySem.W.fnOf "are_two_places" "are_two_places" (defArgs st_are_two_places) (defBody st_are_two_places) (defScope st_are_two_places) .none kV_are_two_places dc_are_two_places pm_are_two_places an_are_two_places cd_are_two_places ct_are_two_places,
    f_are_places,
    PySem.W.fnOf "are_places" "are_places" (defArgs st_are_places) (defBody st_are_places) (defScope st_are_places) .none kV_are_places dc_are_places pm_are_places an_are_places cd_are_places ct_are_places,
    f_is_modulus,
    PySem.W.fnOf "is_modulus" "is_modulus" (defArgs st_is_modulus) (defBody st_is_modulus) (defScope st_is_modulus) .none kV_is_modulus dc_is_modulus pm_is_modulus an_is_modulus cd_is_modulus ct_is_modulus,
    f_Bank_init,
    PySem.W.fnOf "__init__" "Bank.__init__" (defArgs st_Bank_init) (defBody st_Bank_init) (defScope st_Bank_init) .none kV_Bank_init dc_Bank_init pm_Bank_init an_Bank_init cd_Bank_init ct_Bank_init,
    f_Bank_begin,
    PySem.W.fnOf "begin" "Bank.begin" (defArgs st_Bank_begin) (defBody st_Bank_begin) (defScope st_Bank_begin) .none kV_Bank_begin dc_Bank_begin pm_Bank_begin an_Bank_begin cd_Bank_begin ct_Bank_begin,
    f_Bank_put_words,
    PySem.W.fnOf "put_words" "Bank.put_words" (defArgs st_Bank_put_words) (defBody st_Bank_put_words) (defScope st_Bank_put_words) .none kV_Bank_put_words dc_Bank_put_words pm_Bank_put_words an_Bank_put_words cd_Bank_put_words ct_Bank_put_words,
    f_Bank_get_words,
    PySem.W.fnOf "get_words" "Bank.get_words" (defArgs st_Bank_get_words) (defBody st_Bank_get_words) (defScope st_Bank_get_words) .none kV_Bank_get_words dc_Bank_get_words pm_Bank_get_words an_Bank_get_words cd_Bank_get_words ct_Bank_get_words,
    f_Bank_hold_sum,
    PySem.W.fnOf "hold_sum" "Bank.hold_sum" (defArgs st_Bank_hold_sum) (defBody st_Bank_hold_sum) (defScope st_Bank_hold_sum) .none kV_Bank_hold_sum dc_Bank_hold_sum pm_Bank_hold_sum an_Bank_hold_sum cd_Bank_hold_sum ct_Bank_hold_sum,
    f_Bank_hold_difference,
    PySem.W.fnOf "hold_difference" "Bank.hold_difference" (defArgs st_Bank_hold_difference) (defBody st_Bank_hold_difference) (defScope st_Bank_hold_difference) .none kV_Bank_hold_difference dc_Bank_hold_difference pm_Bank_hold_difference an_Bank_hold_difference cd_Bank_hold_difference ct_Bank_hold_difference,
    f_Bank_hold_product,
    PySem.W.fnOf "hold_product" "Bank.hold_product" (defArgs st_Bank_hold_product) (defBody st_Bank_hold_product) (defScope st_Bank_hold_product) .none kV_Bank_hold_product dc_Bank_hold_product pm_Bank_hold_product an_Bank_hold_product cd_Bank_hold_product ct_Bank_hold_product,
    f_Bank_hold_half,
    PySem.W.fnOf "hold_half" "Bank.hold_half" (defArgs st_Bank_hold_half) (defBody st_Bank_hold_half) (defScope st_Bank_hold_half) .none kV_Bank_hold_half dc_Bank_hold_half pm_Bank_hold_half an_Bank_hold_half cd_Bank_hold_half ct_Bank_hold_half,
    f_Bank_hold_doubled,
    PySem.W.fnOf "hold_doubled" "Bank.hold_doubled" (defArgs st_Bank_hold_doubled) (defBody st_Bank_hold_doubled) (defScope st_Bank_hold_doubled) .none kV_Bank_hold_doubled dc_Bank_hold_doubled pm_Bank_hold_doubled an_Bank_hold_doubled cd_Bank_hold_doubled ct_Bank_hold_doubled,
    f_Bank_hold_power,
    PySem.W.fnOf "hold_power" "Bank.hold_power" (defArgs st_Bank_hold_power) (defBody st_Bank_hold_power) (defScope st_Bank_hold_power) .none kV_Bank_hold_power dc_Bank_hold_power pm_Bank_hold_power an_Bank_hold_power cd_Bank_hold_power ct_Bank_hold_power,
    f_Bank_order,
    PySem.W.fnOf "order" "Bank.order" (defArgs st_Bank_order) (defBody st_Bank_order) (defScope st_Bank_order) .none kV_Bank_order dc_Bank_order pm_Bank_order an_Bank_order cd_Bank_order ct_Bank_order,
    f_Bank_hold,
    PySem.W.fnOf "hold" "Bank.hold" (defArgs st_Bank_hold) (defBody st_Bank_hold) (defScope st_Bank_hold) .none kV_Bank_hold dc_Bank_hold pm_Bank_hold an_Bank_hold cd_Bank_hold ct_Bank_hold,
    f_Reader_init,
    PySem.W.fnOf "__init__" "Reader.__init__" (defArgs st_Reader_init) (defBody st_Reader_init) (defScope st_Reader_init) .none kV_Reader_init dc_Reader_init pm_Reader_init an_Reader_init cd_Reader_init ct_Reader_init,
    f_Reader_is_done,
    PySem.W.fnOf "is_done" "Reader.is_done" (defArgs st_Reader_is_done) (defBody st_Reader_is_done) (defScope st_Reader_is_done) .none kV_Reader_is_done dc_Reader_is_done pm_Reader_is_done an_Reader_is_done cd_Reader_is_done ct_Reader_is_done,
    f_Reader_take,
    PySem.W.fnOf "take" "Reader.take" (defArgs st_Reader_take) (defBody st_Reader_take) (defScope st_Reader_take) .none kV_Reader_take dc_Reader_take pm_Reader_take an_Reader_take cd_Reader_take ct_Reader_take,
    f_Reader_take_row,
    PySem.W.fnOf "take_row" "Reader.take_row" (defArgs st_Reader_take_row) (defBody st_Reader_take_row) (defScope st_Reader_take_row) .none kV_Reader_take_row dc_Reader_take_row pm_Reader_take_row an_Reader_take_row cd_Reader_take_row ct_Reader_take_row,
    f_wide_product,
    PySem.W.fnOf "wide_product" "wide_product" (defArgs st_wide_product) (defBody st_wide_product) (defScope st_wide_product) .none kV_wide_product dc_wide_product pm_wide_product an_wide_product cd_wide_product ct_wide_product,
    f_shifted_words,
    PySem.W.fnOf "shifted_words" "shifted_words" (defArgs st_shifted_words) (defBody st_shifted_words) (defScope st_shifted_words) .none kV_shifted_words dc_shifted_words pm_shifted_words an_shifted_words cd_shifted_words ct_shifted_words,
    f_shifted_number,
    PySem.W.fnOf "shifted_number" "shifted_number" (defArgs st_shifted_number) (defBody st_shifted_number) (defScope st_shifted_number) .none kV_shifted_number dc_shifted_number pm_shifted_number an_shifted_number cd_shifted_number ct_shifted_number,
    f_answers,
    PySem.W.fnOf "answers" "answers" (defArgs st_answers) (defBody st_answers) (defScope st_answers) .none kV_answers dc_answers pm_answers an_answers cd_answers ct_answers,
    f_answer_next,
    PySem.W.fnOf "answer_next" "answer_next" (defArgs st_answer_next) (defBody st_answer_next) (defScope st_answer_next) .none kV_answer_next dc_answer_next pm_answer_next an_answer_next cd_answer_next ct_answer_next,
    f_answer_of_words,
    PySem.W.fnOf "answer_of_words" "answer_of_words" (defArgs st_answer_of_words) (defBody st_answer_of_words) (defScope st_answer_of_words) .none kV_answer_of_words dc_answer_of_words pm_answer_of_words an_answer_of_words cd_answer_of_words ct_answer_of_words,
    f_answer_of_three,
    PySem.W.fnOf "answer_of_three" "answer_of_three" (defArgs st_answer_of_three) (defBody st_answer_of_three) (defScope st_answer_of_three) .none kV_answer_of_three dc_answer_of_three pm_answer_of_three an_answer_of_three cd_answer_of_three ct_answer_of_three,
    f_answer_of_two,
    PySem.W.fnOf "answer_of_two" "answer_of_two" (defArgs st_answer_of_two) (defBody st_answer_of_two) (defScope st_answer_of_two) .none kV_answer_of_two dc_answer_of_two pm_answer_of_two an_answer_of_two cd_answer_of_two ct_answer_of_two,
    f_answer_of_whole,
    PySem.W.fnOf "answer_of_whole" "answer_of_whole" (defArgs st_answer_of_whole) (defBody st_answer_of_whole) (defScope st_answer_of_whole) .none kV_answer_of_whole dc_answer_of_whole pm_answer_of_whole an_answer_of_whole cd_answer_of_whole ct_answer_of_whole⟩, ?_⟩
  exact {
    k_DIGIT_BITS := ⟨_, PySem.W.mg_of X G k_DIGIT_BITS⟩,
    k_DIGITS := ⟨_, PySem.W.mg_of X G k_DIGITS⟩,
    k_DONE := ⟨_, PySem.W.mg_of X G k_DONE⟩,
    k_REFUSED := ⟨_, PySem.W.mg_of X G k_REFUSED⟩,
    k_BELOW := ⟨_, PySem.W.mg_of X G k_BELOW⟩,
    k_LEVEL := ⟨_, PySem.W.mg_of X G k_LEVEL⟩,
    k_ABOVE := ⟨_, PySem.W.mg_of X G k_ABOVE⟩,
    k_NO_ORDER := ⟨_, PySem.W.mg_of X G k_NO_ORDER⟩,
    k_WORD_BITS := ⟨_, PySem.W.mg_of X G k_WORD_BITS⟩,
    k_GREATEST_WORD := ⟨_, PySem.W.mg_of X G k_GREATEST_WORD⟩,
    k_MOST_WORDS := ⟨_, PySem.W.mg_of X G k_MOST_WORDS⟩,
    k_PLACES := ⟨_, PySem.W.mg_of X G k_PLACES⟩,
    k_LEAST_MODULUS := ⟨_, PySem.W.mg_of X G k_LEAST_MODULUS⟩,
    k_MOST_TIMES := ⟨_, PySem.W.mg_of X G k_MOST_TIMES⟩,
    k_MOST_BYTES := ⟨_, PySem.W.mg_of X G k_MOST_BYTES⟩,
    k_BEGIN := ⟨_, PySem.W.mg_of X G k_BEGIN⟩,
    k_PUT := ⟨_, PySem.W.mg_of X G k_PUT⟩,
    k_GET := ⟨_, PySem.W.mg_of X G k_GET⟩,
    k_SUM_OF := ⟨_, PySem.W.mg_of X G k_SUM_OF⟩,
    k_DIFFERENCE := ⟨_, PySem.W.mg_of X G k_DIFFERENCE⟩,
    k_PRODUCT := ⟨_, PySem.W.mg_of X G k_PRODUCT⟩,
    k_HALF := ⟨_, PySem.W.mg_of X G k_HALF⟩,
    k_DOUBLED := ⟨_, PySem.W.mg_of X G k_DOUBLED⟩,
    k_POWER := ⟨_, PySem.W.mg_of X G k_POWER⟩,
    k_ORDER := ⟨_, PySem.W.mg_of X G k_ORDER⟩,
    k_WIDE := ⟨_, PySem.W.mg_of X G k_WIDE⟩,
    k_SHIFTED := ⟨_, PySem.W.mg_of X G k_SHIFTED⟩,
    b_len := PySem.W.mg_none_of X G b_len,
    b_min := PySem.W.mg_none_of X G b_min,
    b_range := PySem.W.mg_none_of X G b_range,
    b_reversed := PySem.W.mg_none_of X G b_reversed,
    cl_Bank := ⟨pg_Bank, hd_Bank, po_Bank, sa_Bank⟩,
    g_Bank := PySem.W.mg_of X G g_Bank,
    n_Bank_modulus := n_Bank_modulus,
    n_Bank_length := n_Bank_length,
    n_Bank_held := n_Bank_held,
    mk_Bank := ⟨mk_Bank, a_Bank_init, i_Bank_init, kc_Bank⟩,
    cl_Reader := ⟨pg_Reader, hd_Reader, po_Reader, sa_Reader⟩,
    g_Reader := PySem.W.mg_of X G g_Reader,
    n_Reader_numbers := n_Reader_numbers,
    n_Reader_place := n_Reader_place,
    mk_Reader := ⟨mk_Reader, a_Reader_init, i_Reader_init, kc_Reader⟩,
    F_power_modulo := fun_mk (st := st_power_modulo) l_power_modulo c_power_modulo p_power_modulo,
    B_power_modulo := (fun_mk (st := st_power_modulo) l_power_modulo c_power_modulo p_power_modulo).binds (ps := ["base", "exponent", "modulus"]) fun _ _ _ _ _ _ us hl => match us, hl with | [_, _, _], _ => rfl,
    g_power_modulo := PySem.W.mg_of X G a_power_modulo,
    F_first_powers := fun_mk (st := st_first_powers) l_first_powers c_first_powers p_first_powers,
    B_first_powers := (fun_mk (st := st_first_powers) l_first_powers c_first_powers p_first_powers).binds (ps := ["base", "modulus"]) fun _ _ _ _ _ _ us hl => match us, hl with | [_, _], _ => rfl,
    g_first_powers := PySem.W.mg_of X G a_first_powers,
    F_sixteenth_power := fun_mk (st := st_sixteenth_power) l_sixteenth_power c_sixteenth_power p_sixteenth_power,
    B_sixteenth_power := (fun_mk (st := st_sixteenth_power) l_sixteenth_power c_sixteenth_power p_sixteenth_power).binds (ps := ["number", "modulus"]) fun _ _ _ _ _ _ us hl => match us, hl with | [_, _], _ => rfl,
    g_sixteenth_power := PySem.W.mg_of X G a_sixteenth_power,
    F_is_length := fun_mk (st := st_is_length) l_is_length c_is_length p_is_length,
    B_is_length := (fun_mk (st := st_is_length) l_is_length c_is_length p_is_length).binds (ps := ["length"]) fun _ _ _ _ _ _ us hl => match us, hl with | [_], _ => rfl,
    g_is_length := PySem.W.mg_of X G a_is_length,
    F_number_from_words := fun_mk (st := st_number_from_words) l_number_from_words c_number_from_words p_number_from_words,
    B_number_from_words := (fun_mk (st := st_number_from_words) l_number_from_words c_number_from_words p_number_from_words).binds (ps := ["words"]) fun _ _ _ _ _ _ us hl => match us, hl with | [_], _ => rfl,
    g_number_from_words := PySem.W.mg_of X G a_number_from_words,
    F_words_from_number := fun_mk (st := st_words_from_number) l_words_from_number c_words_from_number p_words_from_number,
    B_words_from_number := (fun_mk (st := st_words_from_number) l_words_from_number c_words_from_number p_words_from_number).binds (ps := ["number", "length"]) fun _ _ _ _ _ _ us hl => match us, hl with | [_, _], _ => rfl,
    g_words_from_number := PySem.W.mg_of X G a_words_from_number,
    F_is_place := fun_mk (st := st_is_place) l_is_place c_is_place p_is_place,
    B_is_place := (fun_mk (st := st_is_place) l_is_place c_is_place p_is_place).binds (ps := ["place"]) fun _ _ _ _ _ _ us hl => match us, hl with | [_], _ => rfl,
    g_is_place := PySem.W.mg_of X G a_is_place,
    F_are_two_places := fun_mk (st := st_are_two_places) l_are_two_places c_are_two_places p_are_two_places,
    B_are_two_places := (fun_mk (st := st_are_two_places) l_are_two_places c_are_two_places p_are_two_places).binds (ps := ["first", "second"]) fun _ _ _ _ _ _ us hl => match us, hl with | [_, _], _ => rfl,
    g_are_two_places := PySem.W.mg_of X G a_are_two_places,
    F_are_places := fun_mk (st := st_are_places) l_are_places c_are_places p_are_places,
    B_are_places := (fun_mk (st := st_are_places) l_are_places c_are_places p_are_places).binds (ps := ["target", "left", "right"]) fun _ _ _ _ _ _ us hl => match us, hl with | [_, _, _], _ => rfl,
    g_are_places := PySem.W.mg_of X G a_are_places,
    F_is_modulus := fun_mk (st := st_is_modulus) l_is_modulus c_is_modulus p_is_modulus,
    B_is_modulus := (fun_mk (st := st_is_modulus) l_is_modulus c_is_modulus p_is_modulus).binds (ps := ["number"]) fun _ _ _ _ _ _ us hl => match us, hl with | [_], _ => rfl,
    g_is_modulus := PySem.W.mg_of X G a_is_modulus,
    F_Bank_init := fun_mk (st := st_Bank_init) l_Bank_init c_Bank_init p_Bank_init,
    B_Bank_init := (fun_mk (st := st_Bank_init) l_Bank_init c_Bank_init p_Bank_init).binds (ps := ["self"]) fun _ _ _ _ _ _ us hl => match us, hl with | [_], _ => rfl,
    F_Bank_begin := fun_mk (st := st_Bank_begin) l_Bank_begin c_Bank_begin p_Bank_begin,
    B_Bank_begin := (fun_mk (st := st_Bank_begin) l_Bank_begin c_Bank_begin p_Bank_begin).binds (ps := ["self", "words"]) fun _ _ _ _ _ _ us hl => match us, hl with | [_, _], _ => rfl,
    m_Bank_begin := ⟨a_Bank_begin, i_Bank_begin, p_Bank_begin⟩,
    F_Bank_put_words := fun_mk (st := st_Bank_put_words) l_Bank_put_words c_Bank_put_words p_Bank_put_words,
    B_Bank_put_words := (fun_mk (st := st_Bank_put_words) l_Bank_put_words c_Bank_put_words p_Bank_put_words).binds (ps := ["self", "place", "words"]) fun _ _ _ _ _ _ us hl => match us, hl with | [_, _, _], _ => rfl,
    m_Bank_put_words := ⟨a_Bank_put_words, i_Bank_put_words, p_Bank_put_words⟩,
    F_Bank_get_words := fun_mk (st := st_Bank_get_words) l_Bank_get_words c_Bank_get_words p_Bank_get_words,
    B_Bank_get_words := (fun_mk (st := st_Bank_get_words) l_Bank_get_words c_Bank_get_words p_Bank_get_words).binds (ps := ["self", "place", "length"]) fun _ _ _ _ _ _ us hl => match us, hl with | [_, _, _], _ => rfl,
    m_Bank_get_words := ⟨a_Bank_get_words, i_Bank_get_words, p_Bank_get_words⟩,
    F_Bank_hold_sum := fun_mk (st := st_Bank_hold_sum) l_Bank_hold_sum c_Bank_hold_sum p_Bank_hold_sum,
    B_Bank_hold_sum := (fun_mk (st := st_Bank_hold_sum) l_Bank_hold_sum c_Bank_hold_sum p_Bank_hold_sum).binds (ps := ["self", "target", "left", "right"]) fun _ _ _ _ _ _ us hl => match us, hl with | [_, _, _, _], _ => rfl,
    m_Bank_hold_sum := ⟨a_Bank_hold_sum, i_Bank_hold_sum, p_Bank_hold_sum⟩,
    F_Bank_hold_difference := fun_mk (st := st_Bank_hold_difference) l_Bank_hold_difference c_Bank_hold_difference p_Bank_hold_difference,
    B_Bank_hold_difference := (fun_mk (st := st_Bank_hold_difference) l_Bank_hold_difference c_Bank_hold_difference p_Bank_hold_difference).binds (ps := ["self", "target", "left", "right"]) fun _ _ _ _ _ _ us hl => match us, hl with | [_, _, _, _], _ => rfl,
    m_Bank_hold_difference := ⟨a_Bank_hold_difference, i_Bank_hold_difference, p_Bank_hold_difference⟩,
    F_Bank_hold_product := fun_mk (st := st_Bank_hold_product) l_Bank_hold_product c_Bank_hold_product p_Bank_hold_product,
    B_Bank_hold_product := (fun_mk (st := st_Bank_hold_product) l_Bank_hold_product c_Bank_hold_product p_Bank_hold_product).binds (ps := ["self", "target", "left", "right"]) fun _ _ _ _ _ _ us hl => match us, hl with | [_, _, _, _], _ => rfl,
    m_Bank_hold_product := ⟨a_Bank_hold_product, i_Bank_hold_product, p_Bank_hold_product⟩,
    F_Bank_hold_half := fun_mk (st := st_Bank_hold_half) l_Bank_hold_half c_Bank_hold_half p_Bank_hold_half,
    B_Bank_hold_half := (fun_mk (st := st_Bank_hold_half) l_Bank_hold_half c_Bank_hold_half p_Bank_hold_half).binds (ps := ["self", "target", "source"]) fun _ _ _ _ _ _ us hl => match us, hl with | [_, _, _], _ => rfl,
    m_Bank_hold_half := ⟨a_Bank_hold_half, i_Bank_hold_half, p_Bank_hold_half⟩,
    F_Bank_hold_doubled := fun_mk (st := st_Bank_hold_doubled) l_Bank_hold_doubled c_Bank_hold_doubled p_Bank_hold_doubled,
    B_Bank_hold_doubled := (fun_mk (st := st_Bank_hold_doubled) l_Bank_hold_doubled c_Bank_hold_doubled p_Bank_hold_doubled).binds (ps := ["self", "target", "source", "times"]) fun _ _ _ _ _ _ us hl => match us, hl with | [_, _, _, _], _ => rfl,
    m_Bank_hold_doubled := ⟨a_Bank_hold_doubled, i_Bank_hold_doubled, p_Bank_hold_doubled⟩,
    F_Bank_hold_power := fun_mk (st := st_Bank_hold_power) l_Bank_hold_power c_Bank_hold_power p_Bank_hold_power,
    B_Bank_hold_power := (fun_mk (st := st_Bank_hold_power) l_Bank_hold_power c_Bank_hold_power p_Bank_hold_power).binds (ps := ["self", "target", "source", "exponent"]) fun _ _ _ _ _ _ us hl => match us, hl with | [_, _, _, _], _ => rfl,
    m_Bank_hold_power := ⟨a_Bank_hold_power, i_Bank_hold_power, p_Bank_hold_power⟩,
    F_Bank_order := fun_mk (st := st_Bank_order) l_Bank_order c_Bank_order p_Bank_order,
    B_Bank_order := (fun_mk (st := st_Bank_order) l_Bank_order c_Bank_order p_Bank_order).binds (ps := ["self", "left", "right"]) fun _ _ _ _ _ _ us hl => match us, hl with | [_, _, _], _ => rfl,
    m_Bank_order := ⟨a_Bank_order, i_Bank_order, p_Bank_order⟩,
    F_Bank_hold := fun_mk (st := st_Bank_hold) l_Bank_hold c_Bank_hold p_Bank_hold,
    B_Bank_hold := (fun_mk (st := st_Bank_hold) l_Bank_hold c_Bank_hold p_Bank_hold).binds (ps := ["self", "place", "number"]) fun _ _ _ _ _ _ us hl => match us, hl with | [_, _, _], _ => rfl,
    m_Bank_hold := ⟨a_Bank_hold, i_Bank_hold, p_Bank_hold⟩,
    F_Reader_init := fun_mk (st := st_Reader_init) l_Reader_init c_Reader_init p_Reader_init,
    B_Reader_init := (fun_mk (st := st_Reader_init) l_Reader_init c_Reader_init p_Reader_init).binds (ps := ["self", "numbers"]) fun _ _ _ _ _ _ us hl => match us, hl with | [_, _], _ => rfl,
    F_Reader_is_done := fun_mk (st := st_Reader_is_done) l_Reader_is_done c_Reader_is_done p_Reader_is_done,
    B_Reader_is_done := (fun_mk (st := st_Reader_is_done) l_Reader_is_done c_Reader_is_done p_Reader_is_done).binds (ps := ["self"]) fun _ _ _ _ _ _ us hl => match us, hl with | [_], _ => rfl,
    m_Reader_is_done := ⟨a_Reader_is_done, i_Reader_is_done, p_Reader_is_done⟩,
    F_Reader_take := fun_mk (st := st_Reader_take) l_Reader_take c_Reader_take p_Reader_take,
    B_Reader_take := (fun_mk (st := st_Reader_take) l_Reader_take c_Reader_take p_Reader_take).binds (ps := ["self"]) fun _ _ _ _ _ _ us hl => match us, hl with | [_], _ => rfl,
    m_Reader_take := ⟨a_Reader_take, i_Reader_take, p_Reader_take⟩,
    F_Reader_take_row := fun_mk (st := st_Reader_take_row) l_Reader_take_row c_Reader_take_row p_Reader_take_row,
    B_Reader_take_row := (fun_mk (st := st_Reader_take_row) l_Reader_take_row c_Reader_take_row p_Reader_take_row).binds (ps := ["self"]) fun _ _ _ _ _ _ us hl => match us, hl with | [_], _ => rfl,
    m_Reader_take_row := ⟨a_Reader_take_row, i_Reader_take_row, p_Reader_take_row⟩,
    F_wide_product := fun_mk (st := st_wide_product) l_wide_product c_wide_product p_wide_product,
    B_wide_product := (fun_mk (st := st_wide_product) l_wide_product c_wide_product p_wide_product).binds (ps := ["left", "right"]) fun _ _ _ _ _ _ us hl => match us, hl with | [_, _], _ => rfl,
    g_wide_product := PySem.W.mg_of X G a_wide_product,
    F_shifted_words := fun_mk (st := st_shifted_words) l_shifted_words c_shifted_words p_shifted_words,
    B_shifted_words := (fun_mk (st := st_shifted_words) l_shifted_words c_shifted_words p_shifted_words).binds (ps := ["words", "by"]) fun _ _ _ _ _ _ us hl => match us, hl with | [_, _], _ => rfl,
    g_shifted_words := PySem.W.mg_of X G a_shifted_words,
    F_shifted_number := fun_mk (st := st_shifted_number) l_shifted_number c_shifted_number p_shifted_number,
    B_shifted_number := (fun_mk (st := st_shifted_number) l_shifted_number c_shifted_number p_shifted_number).binds (ps := ["number", "by", "bits"]) fun _ _ _ _ _ _ us hl => match us, hl with | [_, _, _], _ => rfl,
    g_shifted_number := PySem.W.mg_of X G a_shifted_number,
    F_answers := fun_mk (st := st_answers) l_answers c_answers p_answers,
    B_answers := (fun_mk (st := st_answers) l_answers c_answers p_answers).binds (ps := ["calls"]) fun _ _ _ _ _ _ us hl => match us, hl with | [_], _ => rfl,
    g_answers := PySem.W.mg_of X G a_answers,
    F_answer_next := fun_mk (st := st_answer_next) l_answer_next c_answer_next p_answer_next,
    B_answer_next := (fun_mk (st := st_answer_next) l_answer_next c_answer_next p_answer_next).binds (ps := ["bank", "reader"]) fun _ _ _ _ _ _ us hl => match us, hl with | [_, _], _ => rfl,
    g_answer_next := PySem.W.mg_of X G a_answer_next,
    F_answer_of_words := fun_mk (st := st_answer_of_words) l_answer_of_words c_answer_of_words p_answer_of_words,
    B_answer_of_words := (fun_mk (st := st_answer_of_words) l_answer_of_words c_answer_of_words p_answer_of_words).binds (ps := ["bank", "call", "reader"]) fun _ _ _ _ _ _ us hl => match us, hl with | [_, _, _], _ => rfl,
    g_answer_of_words := PySem.W.mg_of X G a_answer_of_words,
    F_answer_of_three := fun_mk (st := st_answer_of_three) l_answer_of_three c_answer_of_three p_answer_of_three,
    B_answer_of_three := (fun_mk (st := st_answer_of_three) l_answer_of_three c_answer_of_three p_answer_of_three).binds (ps := ["bank", "call", "reader"]) fun _ _ _ _ _ _ us hl => match us, hl with | [_, _, _], _ => rfl,
    g_answer_of_three := PySem.W.mg_of X G a_answer_of_three,
    F_answer_of_two := fun_mk (st := st_answer_of_two) l_answer_of_two c_answer_of_two p_answer_of_two,
    B_answer_of_two := (fun_mk (st := st_answer_of_two) l_answer_of_two c_answer_of_two p_answer_of_two).binds (ps := ["bank", "call", "reader"]) fun _ _ _ _ _ _ us hl => match us, hl with | [_, _, _], _ => rfl,
    g_answer_of_two := PySem.W.mg_of X G a_answer_of_two,
    F_answer_of_whole := fun_mk (st := st_answer_of_whole) l_answer_of_whole c_answer_of_whole p_answer_of_whole,
    B_answer_of_whole := (fun_mk (st := st_answer_of_whole) l_answer_of_whole c_answer_of_whole p_answer_of_whole).binds (ps := ["call", "reader"]) fun _ _ _ _ _ _ us hl => match us, hl with | [_, _], _ => rfl,
    g_answer_of_whole := PySem.W.mg_of X G a_answer_of_whole }
end Odd

set_option Elab.async false
set_option linter.all false
set_option maxRecDepth 100000
set_option maxHeartbeats 2000000
namespace Odd
open PySem PySem.Spec PyProof.Rows L2
open Kgm (Reg Row Wd num words W32 Bt)

/-! ### the promises -/
def sp_number_from_words (K : PySem.W.Frag) : Sp := fun vs H Q _ => ∃ (a : Addr) (xs : List Int), vs = [.ref a] ∧ SqL K H a (xs.map V.int) ∧ Row xs ∧ Q (.int (num xs : Int)) H
def sp_words_from_number : Sp := fun vs H Q _ => ∃ (x n : Nat), vs = [.int (x : Int), .int (n : Int)] ∧ n ≤ 1000 ∧ ∀ p, H p = none → Q (.ref p) (upd H p (.lst ((words n x).map V.int)))
def sp_is_place : Sp := fun vs H Q _ => ∃ (p : Int), vs = [.int p] ∧ Q (.bl (decide (Reg p))) H
def sp_is_length : Sp := fun vs H Q _ => ∃ (n : Int), vs = [.int n] ∧ Q (.bl (decide (1 ≤ n ∧ n ≤ 64))) H
def sp_are_two_places : Sp := fun vs H Q _ => ∃ (a b : Int), vs = [.int a, .int b] ∧ Q (.bl (decide (Reg a ∧ Reg b))) H
def sp_are_places : Sp := fun vs H Q _ => ∃ (d a b : Int), vs = [.int d, .int a, .int b] ∧ Q (.bl (decide (Reg d ∧ Reg a ∧ Reg b))) H
def sp_is_modulus : Sp := fun vs H Q _ => ∃ (m : Int), vs = [.int m] ∧ Q (.bl (decide (3 ≤ m ∧ m % 2 = 1))) H
section
variable {P : Program} {w : World} {K : PySem.W.Frag} {mg : Str → Option Value} {base : Heap} {t : Adr}
theorem ok_is_place (T : Txt K mg t) : FnOk P w K mg base CX0 1 t.f_is_place t.d_is_place ["place"] sp_is_place := by
  refine T.F_is_place.ok sc_is_place (fun vs H Q E h => ?_) (fun cdv A outer s H vs Q E hr h => ?_)
  · obtain ⟨p, rfl, _⟩ := h
    rfl
  · obtain ⟨p, rfl, q⟩ := h
    refine ⟨_, (pss_one (ps_ret (pe_chain op_le op_lt (pe_int) (pv 0) (pe_gint rfl T.k_PLACES)))), ?_⟩
    simp only [tSeq, tNext, tRet, tRetN, tDrop, tIfS, tAsg, gName, tVar, tC, tOp, tUn, rI, rI0, rU, rEq, rNe, tTest, tB, tNot, tAnd, tOr, tAndV, tOrV, tNotV, tChain, tIf, tFld, sFld, tCall, tMeth, tMake, tCons, tNil, tLst, tTup, tBM, tBM0, rIxL, gSub, rSetL, tSl, tPart, tNoPart, rSlL, L2.start, cxOf, Nat.reduceSub, Nat.reduceAdd, List.replicate_succ, List.replicate_zero, List.append_nil, List.cons.injEq, and_true, true_and, exists_eq, decide_eq_true_eq, if_true, if_false, reduceCtorEq, Bool.not_eq_true', decide_eq_false_iff_not, Bool.false_eq_true, List.map_cons, List.map_nil, List.length_cons, List.length_nil, List.cons_append, List.nil_append, List.getElem?_cons_zero, List.getElem?_cons_succ, List.set_cons_zero, List.set_cons_succ, Option.some.injEq, V.int.injEq, V.ref.injEq, V.bl.injEq, exists_eq_left', exists_eq_left, exists_and_left, and_assoc, Int.natCast_inj, HO.ins.injEq, HO.lst.injEq, tCB, Nat.reduceLT, upd_same, upd_upd, scal]
    by_cases h : 0 ≤ p
    · rw [if_pos h]
      rw [show decide (Reg p) = decide (p < 8) from decide_eq_decide.mpr ⟨fun z => z.2, fun z => ⟨h, z⟩⟩] at q
      exact q
    · rw [if_neg h]
      rw [show decide (Reg p) = false from decide_eq_false fun z => h z.1] at q
      exact q
theorem ok_is_length (T : Txt K mg t) : FnOk P w K mg base CX0 1 t.f_is_length t.d_is_length ["length"] sp_is_length := by
  refine T.F_is_length.ok sc_is_length (fun vs H Q E h => ?_) (fun cdv A outer s H vs Q E hr h => ?_)
  · obtain ⟨p, rfl, _⟩ := h
    rfl
  · obtain ⟨n, rfl, q⟩ := h
    refine ⟨_, (pss_one (ps_ret (pe_chain op_le op_le (pe_int) (pv 0) (pe_gint rfl T.k_MOST_WORDS)))), ?_⟩
    simp only [tSeq, tNext, tRet, tRetN, tDrop, tIfS, tAsg, gName, tVar, tC, tOp, tUn, rI, rI0, rU, rEq, rNe, tTest, tB, tNot, tAnd, tOr, tAndV, tOrV, tNotV, tChain, tIf, tFld, sFld, tCall, tMeth, tMake, tCons, tNil, tLst, tTup, tBM, tBM0, rIxL, gSub, rSetL, tSl, tPart, tNoPart, rSlL, L2.start, cxOf, Nat.reduceSub, Nat.reduceAdd, List.replicate_succ, List.replicate_zero, List.append_nil, List.cons.injEq, and_true, true_and, exists_eq, decide_eq_true_eq, if_true, if_false, reduceCtorEq, Bool.not_eq_true', decide_eq_false_iff_not, Bool.false_eq_true, List.map_cons, List.map_nil, List.length_cons, List.length_nil, List.cons_append, List.nil_append, List.getElem?_cons_zero, List.getElem?_cons_succ, List.set_cons_zero, List.set_cons_succ, Option.some.injEq, V.int.injEq, V.ref.injEq, V.bl.injEq, exists_eq_left', exists_eq_left, exists_and_left, and_assoc, Int.natCast_inj, HO.ins.injEq, HO.lst.injEq, tCB, Nat.reduceLT, upd_same, upd_upd, scal]
    by_cases h : 1 ≤ n
    · rw [if_pos h]
      rw [show decide (1 ≤ n ∧ n ≤ 64) = decide (n ≤ 64) from decide_eq_decide.mpr ⟨fun z => z.2, fun z => ⟨h, z⟩⟩] at q
      exact q
    · rw [if_neg h]
      rw [show decide (1 ≤ n ∧ n ≤ 64) = false from decide_eq_false fun z => h z.1] at q
      exact q
theorem ok_are_two_places (T : Txt K mg t) : FnOk P w K mg base CX0 2 t.f_are_two_places t.d_are_two_places ["first", "second"] sp_are_two_places := by
  refine T.F_are_two_places.ok sc_are_two_places (fun vs H Q E h => ?_) (fun cdv A outer s H vs Q E hr h => ?_)
  · obtain ⟨p, _, rfl, _⟩ := h
    rfl
  · obtain ⟨a, b, rfl, q⟩ := h
    refine ⟨_, (pss_one (ps_ret (pe_and (pe_call (ok_is_place T) (hr.mono (by decide)) rfl T.g_is_place T.F_is_place.kp T.B_is_place .nil pass0 (pa_cons (pv 0) pa_nil)) (pe_one (pe_call (ok_is_place T) (hr.mono (by decide)) rfl T.g_is_place T.F_is_place.kp T.B_is_place .nil pass0 (pa_cons (pv 1) pa_nil)))))), ?_⟩
    simp only [tSeq, tNext, tRet, tRetN, tDrop, tIfS, tAsg, gName, tVar, tC, tOp, tUn, rI, rI0, rU, rEq, rNe, tTest, tB, tNot, tAnd, tOr, tAndV, tOrV, tNotV, tChain, tIf, tFld, sFld, tCall, tMeth, tMake, tCons, tNil, tLst, tTup, tBM, tBM0, rIxL, gSub, rSetL, tSl, tPart, tNoPart, rSlL, L2.start, cxOf, Nat.reduceSub, Nat.reduceAdd, List.replicate_succ, List.replicate_zero, List.append_nil, List.cons.injEq, and_true, true_and, exists_eq, decide_eq_true_eq, if_true, if_false, reduceCtorEq, Bool.not_eq_true', decide_eq_false_iff_not, Bool.false_eq_true, List.map_cons, List.map_nil, List.length_cons, List.length_nil, List.cons_append, List.nil_append, List.getElem?_cons_zero, List.getElem?_cons_succ, List.set_cons_zero, List.set_cons_succ, Option.some.injEq, V.int.injEq, V.ref.injEq, V.bl.injEq, exists_eq_left', exists_eq_left, exists_and_left, and_assoc, Int.natCast_inj, HO.ins.injEq, HO.lst.injEq, tCB, Nat.reduceLT, upd_same, upd_upd, scal, sp_is_place]
    by_cases h1 : Reg a
    · rw [if_pos h1]
      rw [show decide (Reg a ∧ Reg b) = decide (Reg b) from decide_eq_decide.mpr ⟨fun z => z.2, fun z => ⟨h1, z⟩⟩] at q
      exact q
    · rw [if_neg h1]
      rw [show decide (Reg a ∧ Reg b) = false from decide_eq_false fun z => h1 z.1] at q
      exact q
theorem ok_are_places (T : Txt K mg t) : FnOk P w K mg base CX0 3 t.f_are_places t.d_are_places ["target", "left", "right"] sp_are_places := by
  refine T.F_are_places.ok sc_are_places (fun vs H Q E h => ?_) (fun cdv A outer s H vs Q E hr h => ?_)
  · obtain ⟨p, _, _, rfl, _⟩ := h
    rfl
  · obtain ⟨d, a, b, rfl, q⟩ := h
    refine ⟨_, (pss_one (ps_ret (pe_and (pe_call (ok_is_place T) (hr.mono (by decide)) rfl T.g_is_place T.F_is_place.kp T.B_is_place .nil pass0 (pa_cons (pv 0) pa_nil)) (pe_one (pe_call (ok_are_two_places T) (hr.mono (by decide)) rfl T.g_are_two_places T.F_are_two_places.kp T.B_are_two_places .nil pass0 (pa_cons (pv 1) (pa_cons (pv 2) pa_nil))))))), ?_⟩
    simp only [tSeq, tNext, tRet, tRetN, tDrop, tIfS, tAsg, gName, tVar, tC, tOp, tUn, rI, rI0, rU, rEq, rNe, tTest, tB, tNot, tAnd, tOr, tAndV, tOrV, tNotV, tChain, tIf, tFld, sFld, tCall, tMeth, tMake, tCons, tNil, tLst, tTup, tBM, tBM0, rIxL, gSub, rSetL, tSl, tPart, tNoPart, rSlL, L2.start, cxOf, Nat.reduceSub, Nat.reduceAdd, List.replicate_succ, List.replicate_zero, List.append_nil, List.cons.injEq, and_true, true_and, exists_eq, decide_eq_true_eq, if_true, if_false, reduceCtorEq, Bool.not_eq_true', decide_eq_false_iff_not, Bool.false_eq_true, List.map_cons, List.map_nil, List.length_cons, List.length_nil, List.cons_append, List.nil_append, List.getElem?_cons_zero, List.getElem?_cons_succ, List.set_cons_zero, List.set_cons_succ, Option.some.injEq, V.int.injEq, V.ref.injEq, V.bl.injEq, exists_eq_left', exists_eq_left, exists_and_left, and_assoc, Int.natCast_inj, HO.ins.injEq, HO.lst.injEq, tCB, Nat.reduceLT, upd_same, upd_upd, scal, sp_is_place, sp_are_two_places]
    by_cases h1 : Reg d
    · rw [if_pos h1]
      rw [show decide (Reg d ∧ Reg a ∧ Reg b) = decide (Reg a ∧ Reg b) from decide_eq_decide.mpr ⟨fun z => z.2, fun z => ⟨h1, z⟩⟩] at q
      exact q
    · rw [if_neg h1]
      rw [show decide (Reg d ∧ Reg a ∧ Reg b) = false from decide_eq_false fun z => h1 z.1] at q
      exact q
theorem ok_is_modulus (T : Txt K mg t) : FnOk P w K mg base CX0 1 t.f_is_modulus t.d_is_modulus ["number"] sp_is_modulus := by
  refine T.F_is_modulus.ok sc_is_modulus (fun vs H Q E h => ?_) (fun cdv A outer s H vs Q E hr h => ?_)
  · obtain ⟨m, rfl, _⟩ := h
    rfl
  · obtain ⟨m, rfl, q⟩ := h
    refine ⟨_, (pss_one (ps_ret (pe_and (pe_cmpR op_ge (pv 0) (pe_gint rfl T.k_LEAST_MODULUS) (nomark _)) (pe_one (pe_cmpR op_eq (pe_op op_mod (pv 0) (pe_int)) (pe_int) (nomark _)))))), ?_⟩
    simp only [tSeq, tNext, tRet, tRetN, tDrop, tIfS, tAsg, gName, tVar, tC, tOp, tUn, rI, rI0, rU, rEq, rNe, tTest, tB, tNot, tAnd, tOr, tAndV, tOrV, tNotV, tChain, tIf, tFld, sFld, tCall, tMeth, tMake, tCons, tNil, tLst, tTup, tBM, tBM0, rIxL, gSub, rSetL, tSl, tPart, tNoPart, rSlL, L2.start, cxOf, Nat.reduceSub, Nat.reduceAdd, List.replicate_succ, List.replicate_zero, List.append_nil, List.cons.injEq, and_true, true_and, exists_eq, decide_eq_true_eq, if_true, if_false, reduceCtorEq, Bool.not_eq_true', decide_eq_false_iff_not, Bool.false_eq_true, List.map_cons, List.map_nil, List.length_cons, List.length_nil, List.cons_append, List.nil_append, List.getElem?_cons_zero, List.getElem?_cons_succ, List.set_cons_zero, List.set_cons_succ, Option.some.injEq, V.int.injEq, V.ref.injEq, V.bl.injEq, exists_eq_left', exists_eq_left, exists_and_left, and_assoc, Int.natCast_inj, HO.ins.injEq, HO.lst.injEq, tCB, Nat.reduceLT, upd_same, upd_upd, scal]
    by_cases h1 : 3 ≤ m
    · rw [if_pos h1]
      rw [show decide (3 ≤ m ∧ m % 2 = 1) = decide (m % 2 = 1) by simp only [h1, true_and]] at q
      exact ⟨by decide, q⟩
    · rw [if_neg h1]
      rw [show decide (3 ≤ m ∧ m % 2 = 1) = false by simp only [h1, false_and, decide_false]] at q
      exact q
theorem ok_number_from_words (T : Txt K mg t) : FnOk P w K mg base CX0 1 t.f_number_from_words t.d_number_from_words ["words"] (sp_number_from_words K) := by
  refine T.F_number_from_words.ok sc_number_from_words (fun vs H Q E h => ?_) (fun cdv A outer s H vs Q E hr h => ?_)
  · obtain ⟨a, xs, rfl, _⟩ := h
    rfl
  · obtain ⟨a, xs, rfl, hs, hrow, q⟩ := h
    refine ⟨_, (pss_cons (ps_set (i := 1) sc_number_from_words.nd rfl (Or.inl rfl) (pe_int))
      (pss_cons (ps_for PassesOwn.never rfl (pi_reversed rfl T.b_reversed (pa_cons (pv 0) pa_nil)) (pg_name (i := 2) sc_number_from_words.nd rfl (Or.inl rfl)) (pss_one (ps_set (i := 1) sc_number_from_words.nd rfl (Or.inl rfl) (pe_op op_or (pe_op op_shlB (pv 1) (pe_gint rfl T.k_WORD_BITS)) (pv 2)))))
      (pss_one (ps_ret (pv 1))))), ?_⟩
    refine ⟨_, rfl, a, _, rfl, hs, for_rev (K := K) (a := a) (xs := xs.map V.int) (fun i σ H' => H' = H ∧ ∃ v, σ = [some (.ref a), some (.int (num (xs.drop (xs.length - i)) : Int)), v]) ?_ ?_ ?_ ?_⟩
    · refine ⟨rfl, none, ?_⟩
      rw [Nat.sub_zero, List.drop_length]
      rfl
    · rintro i σ H' _ ⟨rfl, _⟩
      exact hs
    · rintro i x σ H' hi hx ⟨rfl, v, rfl⟩
      rw [List.length_map] at hi hx
      obtain ⟨z, hz, rfl⟩ : ∃ z, xs[xs.length - 1 - i]? = some z ∧ x = V.int z := by
        rw [List.getElem?_map] at hx
        cases e : xs[xs.length - 1 - i]? with
        | none => rw [e] at hx; cases hx
        | some z => rw [e] at hx; exact ⟨z, rfl, (Option.some.inj hx).symm⟩
      have hw : Wd z := hrow.all z (List.mem_of_getElem? hz)
      obtain ⟨u, rfl⟩ : ∃ u : Nat, z = (u : Int) := ⟨z.toNat, by have := hw.1; omega⟩
      have hu : u < 2 ^ 64 := by have := hw.2; omega
      simp only [tSeq, tNext, tRet, tRetN, tDrop, tIfS, tAsg, gName, tVar, tC, tOp, tUn, rI, rI0, rU, rEq, rNe, tTest, tB, tNot, tAnd, tOr, tAndV, tOrV, tNotV, tChain, tIf, tFld, sFld, tCall, tMeth, tMake, tCons, tNil, tLst, tTup, tBM, tBM0, rIxL, gSub, rSetL, tSl, tPart, tNoPart, rSlL, L2.start, cxOf, Nat.reduceSub, Nat.reduceAdd, List.replicate_succ, List.replicate_zero, List.append_nil, List.cons.injEq, and_true, true_and, exists_eq, decide_eq_true_eq, if_true, if_false, reduceCtorEq, Bool.not_eq_true', decide_eq_false_iff_not, Bool.false_eq_true, List.map_cons, List.map_nil, List.length_cons, List.length_nil, List.cons_append, List.nil_append, List.getElem?_cons_zero, List.getElem?_cons_succ, List.set_cons_zero, List.set_cons_succ, Option.some.injEq, V.int.injEq, V.ref.injEq, V.bl.injEq, exists_eq_left', exists_eq_left, exists_and_left, and_assoc, Int.natCast_inj, HO.ins.injEq, HO.lst.injEq, tCB, Nat.reduceLT, upd_same, upd_upd, scal]
      refine ⟨.nat (Kgm.num_drop_lt hrow _) (by decide), by decide, by decide, ?_⟩
      have e := Kgm.num_snoc_rev xs i hi hrow.all
      rw [List.getD_eq_getElem?_getD, hz] at e
      have e3 : ((num (xs.drop (xs.length - i)) : Nat) : Int) * 2 ^ Int.toNat 64 = ((num (xs.drop (xs.length - i)) * 2 ^ 64 : Nat) : Int) := by
        rw [Int.natCast_mul]
        rfl
      rw [e3, bitOr_low hu, e]
      exact ⟨rfl, _, rfl⟩
    · rintro σ H' ⟨rfl, v, rfl⟩
      rw [List.length_map, Nat.sub_self, List.drop_zero]
      exact ⟨_, rfl, q⟩
theorem ok_words_from_number (T : Txt K mg t) : FnOk P w K mg base CX0 1 t.f_words_from_number t.d_words_from_number ["number", "length"] sp_words_from_number := by
  refine T.F_words_from_number.ok sc_words_from_number (fun vs H Q E h => ?_) (fun cdv A outer s H vs Q E hr h => ?_)
  · obtain ⟨x, n, rfl, _⟩ := h
    rfl
  · obtain ⟨x, n, rfl, hn, q⟩ := h
    refine ⟨_, (pss_one (ps_ret (pe_lc rfl sc_words_from_number.nd (pi_range1 rfl T.b_range (pa_cons (pv 1) pa_nil)) (own := [("place", 2)]) blk_words_from_number (fun _ _ _ _ _ => pg_name (i := 2) sc_words_from_number.nd rfl (Or.inl rfl)) (fun _ _ _ _ _ => pts_nil) (fun _ _ _ _ _ => pe_op op_and (pe_op op_shr (pv 0) (pe_op op_mulB (pe_gint rfl T.k_WORD_BITS) (pv 2))) (pe_gint rfl T.k_GREATEST_WORD))))), ?_⟩
    refine ⟨_, rfl, (n : Int), rfl, by omega, by omega, ?_⟩
    rw [Int.toNat_natCast]
    refine lc_pure (fun i => V.int ((x / 2 ^ (64 * i) % 2 ^ 64 : Nat) : Int)) (Nat.le_trans hn (by decide)) (fun i H' R hi hR => ?_) (fun p hp => ?_)
    · simp only [tSeq, tNext, tRet, tRetN, tDrop, tIfS, tAsg, gName, tVar, tC, tOp, tUn, rI, rI0, rU, rEq, rNe, tTest, tB, tNot, tAnd, tOr, tAndV, tOrV, tNotV, tChain, tIf, tFld, sFld, tCall, tMeth, tMake, tCons, tNil, tLst, tTup, tBM, tBM0, rIxL, gSub, rSetL, tSl, tPart, tNoPart, rSlL, L2.start, cxOf, Nat.reduceSub, Nat.reduceAdd, List.replicate_succ, List.replicate_zero, List.append_nil, List.cons.injEq, and_true, true_and, exists_eq, decide_eq_true_eq, if_true, if_false, reduceCtorEq, Bool.not_eq_true', decide_eq_false_iff_not, Bool.false_eq_true, List.map_cons, List.map_nil, List.length_cons, List.length_nil, List.cons_append, List.nil_append, List.getElem?_cons_zero, List.getElem?_cons_succ, List.set_cons_zero, List.set_cons_succ, Option.some.injEq, V.int.injEq, V.ref.injEq, V.bl.injEq, exists_eq_left', exists_eq_left, exists_and_left, and_assoc, Int.natCast_inj, HO.ins.injEq, HO.lst.injEq, tCB, Nat.reduceLT, upd_same, upd_upd, scal]
      have e1 : (64 * (0 + (i : Int))).toNat = 64 * i := by omega
      have e2 : (x : Int) / 2 ^ (64 * i) = ((x / 2 ^ (64 * i) : Nat) : Int) := by
        rw [Int.natCast_ediv, Int.natCast_pow]
        rfl
      refine ⟨.nat (x := 64) (k := 7) (by decide) (by decide), ?_, by omega, ?_⟩
      · rw [Int.zero_add]
        exact .nat (k := 10) (Nat.lt_of_lt_of_le hi (Nat.le_trans hn (by decide))) (by decide)
      · rw [e1, e2, bitAnd_mask]
        exact hR
    · have z := q p hp
      unfold words at z
      rw [List.map_map] at z
      exact z
end
end Odd

set_option Elab.async false
set_option linter.all false
set_option maxRecDepth 100000
set_option maxHeartbeats 2000000
namespace Odd
open PySem PySem.Spec PyProof.Rows L2
open Kgm (Reg Row Wd num words W32 Bt)

/-! ### the reader -/
def RdAt (C : Addr) (H : Hp) (r dx a : Addr) (p : Nat) : Prop := H r = some (.ins C dx (fs_Reader (.ref a) (.int (p : Int))))
def sp_Reader_init (C : Addr) : Sp := fun vs H Q _ => ∃ (r dx a : Addr), vs = [.ref r, .ref a] ∧ H r = some (.ins C dx []) ∧ Q .non (upd H r (.ins C dx (fs_Reader (.ref a) (.int ((0 : Nat) : Int)))))
def sp_Reader_is_done (K : PySem.W.Frag) (C : Addr) : Sp := fun vs H Q _ => ∃ (r dx a : Addr) (p : Nat) (ns : List Int), vs = [.ref r] ∧ RdAt C H r dx a p ∧ Req K H a ns ∧ Q (.bl (decide (ns.length ≤ p))) H
def sp_Reader_take (K : PySem.W.Frag) (C : Addr) : Sp := fun vs H Q _ => ∃ (r dx a : Addr) (p : Nat) (ns : List Int) (z : Int), vs = [.ref r] ∧ RdAt C H r dx a p ∧ Req K H a ns ∧ ns[p]? = some z ∧
  Q (.int z) (upd H r (.ins C dx (fs_Reader (.ref a) (.int ((p + 1 : Nat) : Int)))))
def sp_Reader_take_row (K : PySem.W.Frag) (C : Addr) : Sp := fun vs H Q _ => ∃ (r dx a : Addr) (p : Nat) (ns x rest : List Int), vs = [.ref r] ∧ RdAt C H r dx a p ∧ Req K H a ns ∧ ns.drop p = (x.length : Int) :: (x ++ rest) ∧
  ∀ q, H q = none → q ≠ r → Q (.ref q) (upd (upd H r (.ins C dx (fs_Reader (.ref a) (.int ((p + 1 + x.length : Nat) : Int))))) q (.lst (x.map V.int)))
section
variable {P : Program} {w : World} {K : PySem.W.Frag} {mg : Str → Option Value} {base : Heap} {t : Adr}
theorem ok_Reader_init (T : Txt K mg t) : FnOk P w K mg base CX0 1 t.f_Reader_init t.d_Reader_init ["self", "numbers"] (sp_Reader_init t.c_Reader) := by
  refine T.F_Reader_init.ok sc_Reader_init (fun vs H Q E h => ?_) (fun cdv A outer s H vs Q E hr h => ?_)
  · obtain ⟨_, _, _, rfl, _⟩ := h
    rfl
  · obtain ⟨r, dx, a, rfl, h1, q⟩ := h
    refine ⟨_, (pss_cons (ps_fld (pv 0) (pv 1) rfl)
      (pss_one (ps_fld (pv 0) (pe_int) rfl))), ?_⟩
    simp only [tSeq, tNext, tRet, tRetN, tDrop, tIfS, tAsg, gName, tVar, tC, tOp, tUn, rI, rI0, rU, rEq, rNe, tTest, tB, tNot, tAnd, tOr, tAndV, tOrV, tNotV, tChain, tIf, tFld, sFld, tCall, tMeth, tMake, tCons, tNil, tLst, tTup, tBM, tBM0, rIxL, gSub, rSetL, tSl, tPart, tNoPart, rSlL, L2.start, cxOf, Nat.reduceSub, Nat.reduceAdd, List.replicate_succ, List.replicate_zero, List.append_nil, List.cons.injEq, and_true, true_and, exists_eq, decide_eq_true_eq, if_true, if_false, reduceCtorEq, Bool.not_eq_true', decide_eq_false_iff_not, Bool.false_eq_true, List.map_cons, List.map_nil, List.length_cons, List.length_nil, List.cons_append, List.nil_append, List.getElem?_cons_zero, List.getElem?_cons_succ, List.set_cons_zero, List.set_cons_succ, Option.some.injEq, V.int.injEq, V.ref.injEq, V.bl.injEq, exists_eq_left', exists_eq_left, exists_and_left, and_assoc, Int.natCast_inj, HO.ins.injEq, HO.lst.injEq, tCB, Nat.reduceLT, upd_same, upd_upd, scal, h1, T.cl_Reader, T.n_Reader_numbers, T.n_Reader_place, fs_Reader_numbers, fs_Reader_place, fs_Reader_put_numbers, fs_Reader_put_place, fs_Reader_no_is_done, fs_Reader_no_take, fs_Reader_no_take_row, fs_Reader_len, fs_Reader_inj, fs_Reader_new0, fs_Reader_new1]
    exact q
theorem ok_Reader_is_done (T : Txt K mg t) : FnOk P w K mg base CX0 1 t.f_Reader_is_done t.d_Reader_is_done ["self"] (sp_Reader_is_done K t.c_Reader) := by
  refine T.F_Reader_is_done.ok sc_Reader_is_done (fun vs H Q E h => ?_) (fun cdv A outer s H vs Q E hr h => ?_)
  · obtain ⟨_, _, _, _, _, rfl, _⟩ := h
    rfl
  · obtain ⟨r, dx, a, p, ns, rfl, h1, hq, q⟩ := h
    unfold RdAt at h1
    refine ⟨_, (pss_one (ps_ret (pe_cmpR op_ge (pe_fld (pv 0) rfl) (pe_callB call_len_seq (by rfl) T.b_len PySem.boot_len (pa_cons (pe_fld (pv 0) rfl) pa_nil)) (nomark _)))), ?_⟩
    simp only [tSeq, tNext, tRet, tRetN, tDrop, tIfS, tAsg, gName, tVar, tC, tOp, tUn, rI, rI0, rU, rEq, rNe, tTest, tB, tNot, tAnd, tOr, tAndV, tOrV, tNotV, tChain, tIf, tFld, sFld, tCall, tMeth, tMake, tCons, tNil, tLst, tTup, tBM, tBM0, rIxL, gSub, rSetL, tSl, tPart, tNoPart, rSlL, L2.start, cxOf, Nat.reduceSub, Nat.reduceAdd, List.replicate_succ, List.replicate_zero, List.append_nil, List.cons.injEq, and_true, true_and, exists_eq, decide_eq_true_eq, if_true, if_false, reduceCtorEq, Bool.not_eq_true', decide_eq_false_iff_not, Bool.false_eq_true, List.map_cons, List.map_nil, List.length_cons, List.length_nil, List.cons_append, List.nil_append, List.getElem?_cons_zero, List.getElem?_cons_succ, List.set_cons_zero, List.set_cons_succ, Option.some.injEq, V.int.injEq, V.ref.injEq, V.bl.injEq, exists_eq_left', exists_eq_left, exists_and_left, and_assoc, Int.natCast_inj, HO.ins.injEq, HO.lst.injEq, tCB, Nat.reduceLT, upd_same, upd_upd, scal, h1, T.cl_Reader, T.n_Reader_numbers, T.n_Reader_place, fs_Reader_numbers, fs_Reader_place, fs_Reader_put_numbers, fs_Reader_put_place, fs_Reader_no_is_done, fs_Reader_no_take, fs_Reader_no_take_row, fs_Reader_len, fs_Reader_inj, fs_Reader_new0, fs_Reader_new1]
    refine ⟨_, .inl hq.seq, ?_⟩
    rw [List.length_map, show decide ((ns.length : Int) ≤ (p : Int)) = decide (ns.length ≤ p) from decide_eq_decide.mpr Int.ofNat_le]
    exact q
theorem ok_Reader_take (T : Txt K mg t) : FnOk P w K mg base CX0 1 t.f_Reader_take t.d_Reader_take ["self"] (sp_Reader_take K t.c_Reader) := by
  refine T.F_Reader_take.ok sc_Reader_take (fun vs H Q E h => ?_) (fun cdv A outer s H vs Q E hr h => ?_)
  · obtain ⟨_, _, _, _, _, _, rfl, _⟩ := h
    rfl
  · obtain ⟨r, dx, a, p, ns, z, rfl, h1, hq, hz, q⟩ := h
    unfold RdAt at h1
    refine ⟨_, (pss_cons (ps_set (i := 1) sc_Reader_take.nd rfl (Or.inl rfl) (pe_ix ix_list (pe_fld (pv 0) rfl) (pe_fld (pv 0) rfl) (fun _ _ => rfl)))
      (pss_cons (ps_fld (pv 0) (pe_op op_add (pe_fld (pv 0) rfl) (pe_int)) rfl)
      (pss_one (ps_ret (pv 1))))), ?_⟩
    simp only [tSeq, tNext, tRet, tRetN, tDrop, tIfS, tAsg, gName, tVar, tC, tOp, tUn, rI, rI0, rU, rEq, rNe, tTest, tB, tNot, tAnd, tOr, tAndV, tOrV, tNotV, tChain, tIf, tFld, sFld, tCall, tMeth, tMake, tCons, tNil, tLst, tTup, tBM, tBM0, rIxL, gSub, rSetL, tSl, tPart, tNoPart, rSlL, L2.start, cxOf, Nat.reduceSub, Nat.reduceAdd, List.replicate_succ, List.replicate_zero, List.append_nil, List.cons.injEq, and_true, true_and, exists_eq, decide_eq_true_eq, if_true, if_false, reduceCtorEq, Bool.not_eq_true', decide_eq_false_iff_not, Bool.false_eq_true, List.map_cons, List.map_nil, List.length_cons, List.length_nil, List.cons_append, List.nil_append, List.getElem?_cons_zero, List.getElem?_cons_succ, List.set_cons_zero, List.set_cons_succ, Option.some.injEq, V.int.injEq, V.ref.injEq, V.bl.injEq, exists_eq_left', exists_eq_left, exists_and_left, and_assoc, Int.natCast_inj, HO.ins.injEq, HO.lst.injEq, tCB, Nat.reduceLT, upd_same, upd_upd, scal, h1, T.cl_Reader, T.n_Reader_numbers, T.n_Reader_place, fs_Reader_numbers, fs_Reader_place, fs_Reader_put_numbers, fs_Reader_put_place, fs_Reader_no_is_done, fs_Reader_no_take, fs_Reader_no_take_row, fs_Reader_len, fs_Reader_inj, fs_Reader_new0, fs_Reader_new1]
    refine ⟨_, hq.seq, _, atI_pos (Int.natCast_nonneg _) (v := V.int z) ?_, q⟩
    rw [Int.toNat_natCast, List.getElem?_map, hz]
    rfl
theorem ok_Reader_take_row (T : Txt K mg t) : FnOk P w K mg base CX0 2 t.f_Reader_take_row t.d_Reader_take_row ["self"] (sp_Reader_take_row K t.c_Reader) := by
  refine T.F_Reader_take_row.ok sc_Reader_take_row (fun vs H Q E h => ?_) (fun cdv A outer s H vs Q E hr h => ?_)
  · obtain ⟨_, _, _, _, _, _, _, rfl, _⟩ := h
    rfl
  · obtain ⟨r, dx, a, p, ns, x, rest, rfl, h1, hq, hz, q⟩ := h
    refine ⟨_, (pss_cons (ps_set (i := 1) sc_Reader_take_row.nd rfl (Or.inl rfl) (pe_meth0 (pv 0) T.cl_Reader T.m_Reader_take (ok_Reader_take T) (hr.mono (by decide)) T.B_Reader_take .nil pass0))
      (pss_cons (ps_set (i := 2) sc_Reader_take_row.nd rfl (Or.inl rfl) (pe_fld (pv 0) rfl))
      (pss_cons (ps_fld (pv 0) (pe_op op_add (pv 2) (pv 1)) rfl)
      (pss_one (ps_ret (pe_slice sl_list (pe_fld (pv 0) rfl) (po_some (pv 2)) (po_some (pe_fld (pv 0) rfl)))))))), ?_⟩
    unfold RdAt at h1
    obtain ⟨hz1, hz2⟩ := drop_cons hz
    simp only [tSeq, tNext, tRet, tRetN, tDrop, tIfS, tAsg, gName, tVar, tC, tOp, tUn, rI, rI0, rU, rEq, rNe, tTest, tB, tNot, tAnd, tOr, tAndV, tOrV, tNotV, tChain, tIf, tFld, sFld, tCall, tMeth, tMake, tCons, tNil, tLst, tTup, tBM, tBM0, rIxL, gSub, rSetL, tSl, tPart, tNoPart, rSlL, L2.start, cxOf, Nat.reduceSub, Nat.reduceAdd, List.replicate_succ, List.replicate_zero, List.append_nil, List.cons.injEq, and_true, true_and, exists_eq, decide_eq_true_eq, if_true, if_false, reduceCtorEq, Bool.not_eq_true', decide_eq_false_iff_not, Bool.false_eq_true, List.map_cons, List.map_nil, List.length_cons, List.length_nil, List.cons_append, List.nil_append, List.getElem?_cons_zero, List.getElem?_cons_succ, List.set_cons_zero, List.set_cons_succ, Option.some.injEq, V.int.injEq, V.ref.injEq, V.bl.injEq, exists_eq_left', exists_eq_left, exists_and_left, and_assoc, Int.natCast_inj, HO.ins.injEq, HO.lst.injEq, tCB, Nat.reduceLT, upd_same, upd_upd, scal, h1, T.cl_Reader, T.n_Reader_numbers, T.n_Reader_place, fs_Reader_numbers, fs_Reader_place, fs_Reader_put_numbers, fs_Reader_put_place, fs_Reader_no_is_done, fs_Reader_no_take, fs_Reader_no_take_row, fs_Reader_len, fs_Reader_inj, fs_Reader_new0, fs_Reader_new1, sp_Reader_take, RdAt]
    have nf : ∀ ob u, H r ≠ some (.frz ob u) := fun ob u e => by rw [h1] at e; cases e
    refine ⟨ns, hq, _, hz1, _, (hq.upd nf).seq, fun y hy => ?_⟩
    obtain ⟨hy1, hy2⟩ := upd_none hy
    have e := q y hy1 hy2
    rw [cut_row hz2]
    exact e
end
end Odd

set_option Elab.async false
set_option linter.all false
set_option maxRecDepth 100000
set_option maxHeartbeats 2000000
namespace Odd
open PySem PySem.Spec PyProof.Rows L2
open Kgm (Reg Row Wd num words W32 Bt Good)
open Kg07 (Abs)
open Kg07Neutral (step)
open PyKg07 (whole)

/-! ### the bank -/
def rv (l : List Nat) : List V := l.map fun (x : Nat) => V.int (x : Int)
theorem rv_length (l : List Nat) : (rv l).length = l.length := List.length_map _
theorem rv_set (l : List Nat) (i x : Nat) : (rv l).set i (.int (x : Int)) = rv (l.set i x) := by
  unfold rv
  rw [List.map_set]
theorem rv_at {l : List Nat} {i x : Nat} (h : l[i]? = some x) : (rv l)[i]? = some (.int (x : Int)) := by
  unfold rv
  rw [List.getElem?_map, h]
  rfl
structure BkAt (C : Addr) (H : Hp) (b dx l : Addr) (s : Abs) : Prop where
  ins : H b = some (.ins C dx (fs_Bank (.int (s.m : Int)) (.int (s.n : Int)) (.ref l)))
  lst : H l = some (.lst (rv s.regs))
theorem BkAt.ne {C : Addr} {H : Hp} {b dx l : Addr} {s : Abs} (B : BkAt C H b dx l s) : b ≠ l := ne_of B.ins B.lst (by intro e; cases e)
theorem BkAt.ch {C : Addr} {H H' : Hp} {b dx l : Addr} {s : Abs} {M : List Addr} (B : BkAt C H b dx l s) (c : Ch M H H') (h1 : b ∉ M) (h2 : l ∉ M) : BkAt C H' b dx l s := ⟨c _ _ B.ins h1, c _ _ B.lst h2⟩
/-- a call on the bank at b is done: its object is s', what is answered stands in the new list at p -/
structure Did (C : Addr) (H H' : Hp) (b l : Addr) (s' : Abs) (p : Addr) (ans : List Int) : Prop where
  bank : ∃ dx l', BkAt C H' b dx l' s' ∧ (l' = l ∨ H l' = none)
  out : H' p = some (.lst (ans.map V.int))
  new : H p = none
  ch : Ch [b, l] H H'
theorem Did.plain {C : Addr} {H H' : Hp} {b dx l p : Addr} {s : Abs} {ans : List Int} (B : BkAt C H b dx l s) (c : Ch [] H H') (o : H' p = some (.lst (ans.map V.int))) (n : H p = none) : Did C H H' b l s p ans :=
  ⟨⟨dx, l, B.ch c (by simp) (by simp), .inl rfl⟩, o, n, c.mono (by simp)⟩
theorem Did.answer {C : Addr} {H : Hp} {b dx l p : Addr} {s : Abs} {ans : List Int} (B : BkAt C H b dx l s) (n : H p = none) : Did C H (upd H p (.lst (ans.map V.int))) b l s p ans :=
  .plain B ((Ch.refl [] H).new (.inl n)) upd_same n
theorem Did.stored {C : Addr} {H : Hp} {b dx l p : Addr} {s : Abs} {regs : List Nat} {ans : List Int} (B : BkAt C H b dx l s) (n : H p = none) : Did C H (upd (upd H l (.lst (rv regs))) p (.lst (ans.map V.int))) b l { s with regs := regs } p ans := by
  have e1 : b ≠ p := ne_of_none B.ins n
  have e2 : l ≠ p := ne_of_none B.lst n
  refine ⟨⟨dx, l, ⟨?_, ?_⟩, .inl rfl⟩, upd_same, n, ((Ch.refl _ H).at_ (by simp)).new (.inr n)⟩
  · rw [upd_ne e1, upd_ne B.ne]
    exact B.ins
  · rw [upd_ne e2, upd_same]
theorem cast_mod (x m : Nat) : ((x : Int) % (m : Int)).toNat = x % m := by
  rw [← Int.natCast_emod, Int.toNat_natCast]
theorem add_mod_nat (x y m : Nat) : (((x : Int) + (y : Int)) % (m : Int)).toNat = (x + y) % m := by
  rw [← Int.natCast_add, cast_mod]
theorem mul_mod_nat (x y m : Nat) : (((x : Int) * (y : Int)) % (m : Int)).toNat = (x * y) % m := by
  rw [← Int.natCast_mul, cast_mod]
theorem sub_mod_nat {x y m : Nat} (h : y < m) : (((x : Int) - (y : Int)) % (m : Int)).toNat = (x + m - y) % m := by
  rw [Kgm.sub_mod h, Int.toNat_natCast]
theorem line1 : (1 : Nat) ≤ sizeLine := by decide
theorem rep8 : (List.replicate (Int.toNat 8) [V.int 0]).flatten = rv (List.replicate 8 0) := rfl
theorem ne_new {H : Hp} {x p : Addr} {o : HO} (h : H x = some o) (n : H p = none) : x ≠ p := ne_of_none h n
def s0 : Abs := ⟨1, 0, List.replicate 8 0⟩
def sp_Bank_init (C : Addr) : Sp := fun vs H Q _ => ∃ (b dx : Addr), vs = [.ref b] ∧ H b = some (.ins C dx []) ∧ ∀ (H' : Hp) (l : Addr), BkAt C H' b dx l s0 → H l = none → Ch [b] H H' → Q .non H'
def sp_Bank_hold (C : Addr) : Sp := fun vs H Q _ => ∃ (b dx l : Addr) (s : Abs) (place x : Int), vs = [.ref b, .int place, .int x] ∧ BkAt C H b dx l s ∧ s.regs.length = 8 ∧ 0 < s.m ∧ Reg place ∧
  ∀ (H' : Hp) (p : Addr), Did C H H' b l (s.set place.toNat (x % (s.m : Int)).toNat) p [0] → Q (.ref p) H'
def sp_Bank_begin (K : PySem.W.Frag) (C : Addr) : Sp := fun vs H Q _ => ∃ (b dx l a : Addr) (s : Abs) (x : List Int), vs = [.ref b, .ref a] ∧ a ≠ b ∧ BkAt C H b dx l s ∧ SqL K H a (x.map V.int) ∧ Row x ∧
  ∀ (H' : Hp) (p : Addr), Did C H H' b l (step s (whole [[0], x])).1 p (step s (whole [[0], x])).2 → Q (.ref p) H'
def sp_Bank_put_words (K : PySem.W.Frag) (C : Addr) : Sp := fun vs H Q _ => ∃ (b dx l a : Addr) (s : Abs) (r : Int) (x : List Int), vs = [.ref b, .int r, .ref a] ∧ BkAt C H b dx l s ∧ SqL K H a (x.map V.int) ∧ Row x ∧ W32 r ∧ Good s ∧
  ∀ (H' : Hp) (p : Addr), Did C H H' b l (step s (whole [[1, r], x])).1 p (step s (whole [[1, r], x])).2 → Q (.ref p) H'
def sp_Bank_get_words (C : Addr) : Sp := fun vs H Q _ => ∃ (b dx l : Addr) (s : Abs) (r n : Int), vs = [.ref b, .int r, .int n] ∧ BkAt C H b dx l s ∧ W32 r ∧ 0 ≤ n ∧ Good s ∧
  ∀ (H' : Hp) (p : Addr), Did C H H' b l (step s (whole [[2, r, n]])).1 p (step s (whole [[2, r, n]])).2 → Q (.ref p) H'
/-- a call of three registers -/
def sp_three (C : Addr) (k : Int) : Sp := fun vs H Q _ => ∃ (b dx l : Addr) (s : Abs) (d x y : Int), vs = [.ref b, .int d, .int x, .int y] ∧ BkAt C H b dx l s ∧ W32 d ∧ W32 x ∧ W32 y ∧ Good s ∧
  ∀ (H' : Hp) (p : Addr), Did C H H' b l (step s (whole [[k, d, x, y]])).1 p (step s (whole [[k, d, x, y]])).2 → Q (.ref p) H'
section
variable {P : Program} {w : World} {K : PySem.W.Frag} {mg : Str → Option Value} {base : Heap} {t : Adr}
theorem ok_Bank_init (T : Txt K mg t) : FnOk P w K mg base CX0 1 t.f_Bank_init t.d_Bank_init ["self"] (sp_Bank_init t.c_Bank) := by
  refine T.F_Bank_init.ok sc_Bank_init (fun vs H Q E h => ?_) (fun cdv A outer s H vs Q E hr h => ?_)
  · obtain ⟨_, _, rfl, _⟩ := h
    rfl
  · obtain ⟨b, dx, rfl, h1, q⟩ := h
    refine ⟨_, (pss_cons (ps_fld (pv 0) (pe_int) rfl)
      (pss_cons (ps_fld (pv 0) (pe_int) rfl)
      (pss_one (ps_fld (pv 0) (pe_op op_rep (pe_lst (pa_cons (pe_int) pa_nil)) (pe_gint rfl T.k_PLACES)) rfl)))), ?_⟩
    simp only [tSeq, tNext, tRet, tRetN, tDrop, tIfS, tAsg, gName, tVar, tC, tOp, tUn, rI, rI0, rU, rEq, rNe, tTest, tB, tNot, tAnd, tOr, tAndV, tOrV, tNotV, tChain, tIf, tFld, sFld, tCall, tMeth, tMake, tCons, tNil, tLst, tTup, tBM, tBM0, rIxL, gSub, rSetL, tSl, tPart, tNoPart, rSlL, L2.start, cxOf, Nat.reduceSub, Nat.reduceAdd, List.replicate_succ, List.replicate_zero, List.append_nil, List.cons.injEq, and_true, true_and, exists_eq, decide_eq_true_eq, if_true, if_false, reduceCtorEq, Bool.not_eq_true', decide_eq_false_iff_not, Bool.false_eq_true, List.map_cons, List.map_nil, List.length_cons, List.length_nil, List.cons_append, List.nil_append, List.getElem?_cons_zero, List.getElem?_cons_succ, List.set_cons_zero, List.set_cons_succ, Option.some.injEq, V.int.injEq, V.ref.injEq, V.bl.injEq, exists_eq_left', exists_eq_left, exists_and_left, and_assoc, Int.natCast_inj, HO.ins.injEq, HO.lst.injEq, tCB, Nat.reduceLT, upd_same, upd_upd, scal, h1, T.cl_Bank, T.n_Bank_modulus, T.n_Bank_length, T.n_Bank_held, fs_Bank_modulus, fs_Bank_length, fs_Bank_held, fs_Bank_put_modulus, fs_Bank_put_length, fs_Bank_put_held, fs_Bank_no_begin, fs_Bank_no_put_words, fs_Bank_no_get_words, fs_Bank_no_hold_sum, fs_Bank_no_hold_difference, fs_Bank_no_hold_product, fs_Bank_no_hold_half, fs_Bank_no_hold_doubled, fs_Bank_no_hold_power, fs_Bank_no_order, fs_Bank_no_hold, fs_Bank_len, fs_Bank_inj, fs_Bank_new0, fs_Bank_new1, fs_Bank_new2, rRep]
    refine ⟨line1, fun p hp => ⟨by decide, by decide, by decide, fun p1 hp1 => ?_⟩⟩
    obtain ⟨hp0, hpb⟩ := upd_none hp
    obtain ⟨hp1', n1⟩ := upd_none hp1
    obtain ⟨hp10, n1b⟩ := upd_none hp1'
    rw [upd_ne (Ne.symm n1b), upd_ne (Ne.symm hpb), upd_same]
    simp only [tSeq, tNext, tRet, tRetN, tDrop, tIfS, tAsg, gName, tVar, tC, tOp, tUn, rI, rI0, rU, rEq, rNe, tTest, tB, tNot, tAnd, tOr, tAndV, tOrV, tNotV, tChain, tIf, tFld, sFld, tCall, tMeth, tMake, tCons, tNil, tLst, tTup, tBM, tBM0, rIxL, gSub, rSetL, tSl, tPart, tNoPart, rSlL, L2.start, cxOf, Nat.reduceSub, Nat.reduceAdd, List.replicate_succ, List.replicate_zero, List.append_nil, List.cons.injEq, and_true, true_and, exists_eq, decide_eq_true_eq, if_true, if_false, reduceCtorEq, Bool.not_eq_true', decide_eq_false_iff_not, Bool.false_eq_true, List.map_cons, List.map_nil, List.length_cons, List.length_nil, List.cons_append, List.nil_append, List.getElem?_cons_zero, List.getElem?_cons_succ, List.set_cons_zero, List.set_cons_succ, Option.some.injEq, V.int.injEq, V.ref.injEq, V.bl.injEq, exists_eq_left', exists_eq_left, exists_and_left, and_assoc, Int.natCast_inj, HO.ins.injEq, HO.lst.injEq, tCB, Nat.reduceLT, upd_same, upd_upd, scal, T.cl_Bank, T.n_Bank_modulus, T.n_Bank_length, T.n_Bank_held, fs_Bank_modulus, fs_Bank_length, fs_Bank_held, fs_Bank_put_modulus, fs_Bank_put_length, fs_Bank_put_held, fs_Bank_no_begin, fs_Bank_no_put_words, fs_Bank_no_get_words, fs_Bank_no_hold_sum, fs_Bank_no_hold_difference, fs_Bank_no_hold_product, fs_Bank_no_hold_half, fs_Bank_no_hold_doubled, fs_Bank_no_hold_power, fs_Bank_no_order, fs_Bank_no_hold, fs_Bank_len, fs_Bank_inj, fs_Bank_new0, fs_Bank_new1, fs_Bank_new2]
    refine q _ p1 ⟨upd_same, ?_⟩ hp10 ((((((Ch.refl _ H).at_ (by simp)).new (.inr hp0)).new (.inr hp10))).at_ (by simp))
    rw [upd_ne n1b, upd_same]
    rfl
theorem ok_Bank_hold (T : Txt K mg t) : FnOk P w K mg base CX0 1 t.f_Bank_hold t.d_Bank_hold ["self", "place", "number"] (sp_Bank_hold t.c_Bank) := by
  refine T.F_Bank_hold.ok sc_Bank_hold (fun vs H Q E h => ?_) (fun cdv A outer s H vs Q E hr h => ?_)
  · obtain ⟨_, _, _, _, _, _, rfl, _⟩ := h
    rfl
  · obtain ⟨b, dx, l, s, place, x, rfl, B, hl, hm, hp, q⟩ := h
    refine ⟨_, (pss_cons (ps_asg (pe_op op_mod (pv 2) (pe_fld (pv 0) rfl)) (pg_sub (pe_fld (pv 0) rfl) (pv 1) set_list))
      (pss_one (ps_ret (pe_lst (pa_cons (pe_gint rfl T.k_DONE) pa_nil))))), ?_⟩
    simp only [tSeq, tNext, tRet, tRetN, tDrop, tIfS, tAsg, gName, tVar, tC, tOp, tUn, rI, rI0, rU, rEq, rNe, tTest, tB, tNot, tAnd, tOr, tAndV, tOrV, tNotV, tChain, tIf, tFld, sFld, tCall, tMeth, tMake, tCons, tNil, tLst, tTup, tBM, tBM0, rIxL, gSub, rSetL, tSl, tPart, tNoPart, rSlL, L2.start, cxOf, Nat.reduceSub, Nat.reduceAdd, List.replicate_succ, List.replicate_zero, List.append_nil, List.cons.injEq, and_true, true_and, exists_eq, decide_eq_true_eq, if_true, if_false, reduceCtorEq, Bool.not_eq_true', decide_eq_false_iff_not, Bool.false_eq_true, List.map_cons, List.map_nil, List.length_cons, List.length_nil, List.cons_append, List.nil_append, List.getElem?_cons_zero, List.getElem?_cons_succ, List.set_cons_zero, List.set_cons_succ, Option.some.injEq, V.int.injEq, V.ref.injEq, V.bl.injEq, exists_eq_left', exists_eq_left, exists_and_left, and_assoc, Int.natCast_inj, HO.ins.injEq, HO.lst.injEq, tCB, Nat.reduceLT, upd_same, upd_upd, scal, B.ins, B.lst, T.cl_Bank, T.n_Bank_modulus, T.n_Bank_length, T.n_Bank_held, fs_Bank_modulus, fs_Bank_length, fs_Bank_held, fs_Bank_put_modulus, fs_Bank_put_length, fs_Bank_put_held, fs_Bank_no_begin, fs_Bank_no_put_words, fs_Bank_no_get_words, fs_Bank_no_hold_sum, fs_Bank_no_hold_difference, fs_Bank_no_hold_product, fs_Bank_no_hold_half, fs_Bank_no_hold_doubled, fs_Bank_no_hold_power, fs_Bank_no_order, fs_Bank_no_hold, fs_Bank_len, fs_Bank_inj, fs_Bank_new0, fs_Bank_new1, fs_Bank_new2]
    refine ⟨by omega, place.toNat, ixN_pos hp.1 (by rw [rv_length, hl]; exact hp.2), line1, fun p h => q _ p ?_⟩
    obtain ⟨hp1, hp2⟩ := upd_none h
    have hx : x % (s.m : Int) = (((x % (s.m : Int)).toNat : Nat) : Int) := by
      have := Int.emod_nonneg x (show (s.m : Int) ≠ 0 by omega)
      omega
    generalize (x % (s.m : Int)).toNat = y at hx ⊢
    rw [hx, rv_set]
    exact Did.stored (ans := [0]) B hp1
theorem ok_Bank_begin (T : Txt K mg t) : FnOk P w K mg base CX0 2 t.f_Bank_begin t.d_Bank_begin ["self", "words"] (sp_Bank_begin K t.c_Bank) := by
  refine T.F_Bank_begin.ok sc_Bank_begin (fun vs H Q E h => ?_) (fun cdv A outer s H vs Q E hr h => ?_)
  · obtain ⟨_, _, _, _, _, _, rfl, _⟩ := h
    rfl
  · obtain ⟨b, dx, l, a, s, x, rfl, nab, B, hs, hrow, q⟩ := h
    refine ⟨_, (pss_cons (ps_set (i := 2) sc_Bank_begin.nd rfl (Or.inl rfl) (pe_call (ok_number_from_words T) (hr.mono (by decide)) rfl T.g_number_from_words T.F_number_from_words.kp T.B_number_from_words .nil pass0 (pa_cons (pv 1) pa_nil)))
      (pss_cons (ps_if (PW.pt (pw_or (pt_not (pt_val (pe_call (ok_is_length T) (hr.mono (by decide)) rfl T.g_is_length T.F_is_length.kp T.B_is_length .nil pass0 (pa_cons (pe_callB call_len_seq (by rfl) T.b_len PySem.boot_len (pa_cons (pv 1) pa_nil)) pa_nil)))) (pw_or1 (pt_not (pt_val (pe_call (ok_is_modulus T) (hr.mono (by decide)) rfl T.g_is_modulus T.F_is_modulus.kp T.B_is_modulus .nil pass0 (pa_cons (pv 2) pa_nil))))))) (pss_one (ps_ret (pe_lst (pa_cons (pe_gint rfl T.k_REFUSED) pa_nil)))) (pss_nil))
      (pss_cons (ps_fld (pv 0) (pv 2) rfl)
      (pss_cons (ps_fld (pv 0) (pe_callB call_len_seq (by rfl) T.b_len PySem.boot_len (pa_cons (pv 1) pa_nil)) rfl)
      (pss_cons (ps_fld (pv 0) (pe_op op_rep (pe_lst (pa_cons (pe_int) pa_nil)) (pe_gint rfl T.k_PLACES)) rfl)
      (pss_one (ps_ret (pe_lst (pa_cons (pe_gint rfl T.k_DONE) pa_nil))))))))), ?_⟩
    simp only [tSeq, tNext, tRet, tRetN, tDrop, tIfS, tAsg, gName, tVar, tC, tOp, tUn, rI, rI0, rU, rEq, rNe, tTest, tB, tNot, tAnd, tOr, tAndV, tOrV, tNotV, tChain, tIf, tFld, sFld, tCall, tMeth, tMake, tCons, tNil, tLst, tTup, tBM, tBM0, rIxL, gSub, rSetL, tSl, tPart, tNoPart, rSlL, L2.start, cxOf, Nat.reduceSub, Nat.reduceAdd, List.replicate_succ, List.replicate_zero, List.append_nil, List.cons.injEq, and_true, true_and, exists_eq, decide_eq_true_eq, if_true, if_false, reduceCtorEq, Bool.not_eq_true', decide_eq_false_iff_not, Bool.false_eq_true, List.map_cons, List.map_nil, List.length_cons, List.length_nil, List.cons_append, List.nil_append, List.getElem?_cons_zero, List.getElem?_cons_succ, List.set_cons_zero, List.set_cons_succ, Option.some.injEq, V.int.injEq, V.ref.injEq, V.bl.injEq, exists_eq_left', exists_eq_left, exists_and_left, and_assoc, Int.natCast_inj, HO.ins.injEq, HO.lst.injEq, tCB, Nat.reduceLT, upd_same, upd_upd, scal, B.ins, B.lst, T.cl_Bank, T.n_Bank_modulus, T.n_Bank_length, T.n_Bank_held, fs_Bank_modulus, fs_Bank_length, fs_Bank_held, fs_Bank_put_modulus, fs_Bank_put_length, fs_Bank_put_held, fs_Bank_no_begin, fs_Bank_no_put_words, fs_Bank_no_get_words, fs_Bank_no_hold_sum, fs_Bank_no_hold_difference, fs_Bank_no_hold_product, fs_Bank_no_hold_half, fs_Bank_no_hold_doubled, fs_Bank_no_hold_power, fs_Bank_no_order, fs_Bank_no_hold, fs_Bank_len, fs_Bank_inj, fs_Bank_new0, fs_Bank_new1, fs_Bank_new2, sp_number_from_words, sp_is_length, sp_is_modulus, rRep]
    rw [Kgm.step_begin s hrow] at q
    refine ⟨x, hs, hrow, _, .inl hs, ?_⟩
    have hl := hrow.len
    rw [List.length_map]
    by_cases h1 : 1 ≤ x.length
    · rw [if_neg (fun z => z ⟨by omega, by omega⟩)]
      by_cases h2 : num x % 2 = 1 ∧ 3 ≤ num x
      · rw [if_neg (fun z => z ⟨by omega, by omega⟩)]
        rw [if_pos ⟨h1, h2⟩] at q
        refine ⟨x.map V.int, .inl (hs.keep fun o e => ?_), line1, fun p hp => ⟨by decide, by decide, by decide, fun p1 hp1 => ?_⟩⟩
        · by_cases e2 : a = b
          · subst e2
            exact absurd rfl nab
          · rw [upd_ne e2]
            exact e
        · obtain ⟨hp0, hpb⟩ := upd_none hp
          obtain ⟨hp1', n1⟩ := upd_none hp1
          obtain ⟨hp10, n1b⟩ := upd_none hp1'
          rw [upd_ne (Ne.symm n1b), upd_ne (Ne.symm hpb), upd_same]
          simp only [tSeq, tNext, tRet, tRetN, tDrop, tIfS, tAsg, gName, tVar, tC, tOp, tUn, rI, rI0, rU, rEq, rNe, tTest, tB, tNot, tAnd, tOr, tAndV, tOrV, tNotV, tChain, tIf, tFld, sFld, tCall, tMeth, tMake, tCons, tNil, tLst, tTup, tBM, tBM0, rIxL, gSub, rSetL, tSl, tPart, tNoPart, rSlL, L2.start, cxOf, Nat.reduceSub, Nat.reduceAdd, List.replicate_succ, List.replicate_zero, List.append_nil, List.cons.injEq, and_true, true_and, exists_eq, decide_eq_true_eq, if_true, if_false, reduceCtorEq, Bool.not_eq_true', decide_eq_false_iff_not, Bool.false_eq_true, List.map_cons, List.map_nil, List.length_cons, List.length_nil, List.cons_append, List.nil_append, List.getElem?_cons_zero, List.getElem?_cons_succ, List.set_cons_zero, List.set_cons_succ, Option.some.injEq, V.int.injEq, V.ref.injEq, V.bl.injEq, exists_eq_left', exists_eq_left, exists_and_left, and_assoc, Int.natCast_inj, HO.ins.injEq, HO.lst.injEq, tCB, Nat.reduceLT, upd_same, upd_upd, scal, T.cl_Bank, T.n_Bank_modulus, T.n_Bank_length, T.n_Bank_held, fs_Bank_modulus, fs_Bank_length, fs_Bank_held, fs_Bank_put_modulus, fs_Bank_put_length, fs_Bank_put_held, fs_Bank_no_begin, fs_Bank_no_put_words, fs_Bank_no_get_words, fs_Bank_no_hold_sum, fs_Bank_no_hold_difference, fs_Bank_no_hold_product, fs_Bank_no_hold_half, fs_Bank_no_hold_doubled, fs_Bank_no_hold_power, fs_Bank_no_order, fs_Bank_no_hold, fs_Bank_len, fs_Bank_inj, fs_Bank_new0, fs_Bank_new1, fs_Bank_new2]
          refine ⟨line1, fun p2 hp2 => q _ p2 ?_⟩
          obtain ⟨hp2', n2b⟩ := upd_none hp2
          obtain ⟨hp2'', n21⟩ := upd_none hp2'
          obtain ⟨hp23, n2p⟩ := upd_none hp2''
          obtain ⟨hp20, _⟩ := upd_none hp23
          refine ⟨⟨dx, p1, ⟨?_, ?_⟩, .inr hp10⟩, upd_same, hp20, ((((((Ch.refl _ H).at_ (by simp)).new (.inr hp0)).new (.inr hp10))).at_ (by simp)).new (.inr hp20)⟩
          · rw [upd_ne (Ne.symm n2b), upd_same, List.length_map]
          · rw [upd_ne (Ne.symm n21), upd_ne n1b, upd_same]
            rfl
      · rw [if_pos (fun z => h2 ⟨by omega, by omega⟩)]
        rw [if_neg (fun z => h2 z.2)] at q
        exact ⟨line1, fun p hp => q _ p (Did.answer (ans := [-1]) B hp)⟩
    · rw [if_pos (fun z => h1 (by omega))]
      rw [if_neg (fun z => h1 z.1)] at q
      exact ⟨line1, fun p hp => q _ p (Did.answer (ans := [-1]) B hp)⟩
theorem ok_Bank_put_words (T : Txt K mg t) : FnOk P w K mg base CX0 2 t.f_Bank_put_words t.d_Bank_put_words ["self", "place", "words"] (sp_Bank_put_words K t.c_Bank) := by
  refine T.F_Bank_put_words.ok sc_Bank_put_words (fun vs H Q E h => ?_) (fun cdv A outer s H vs Q E hr h => ?_)
  · obtain ⟨_, _, _, _, _, _, _, rfl, _⟩ := h
    rfl
  · obtain ⟨b, dx, l, a, s, r, x, rfl, B, hs, hrow, hr32, g, q⟩ := h
    refine ⟨_, (pss_cons (ps_if (PW.pt (pw_or (pt_not (pt_val (pe_call (ok_is_place T) (hr.mono (by decide)) rfl T.g_is_place T.F_is_place.kp T.B_is_place .nil pass0 (pa_cons (pv 1) pa_nil)))) (pw_or1 (pt_cmpR op_ne (pe_callB call_len_seq (by rfl) T.b_len PySem.boot_len (pa_cons (pv 2) pa_nil)) (pe_fld (pv 0) rfl) (nomark _))))) (pss_one (ps_ret (pe_lst (pa_cons (pe_gint rfl T.k_REFUSED) pa_nil)))) (pss_nil))
      (pss_one (ps_ret (pe_meth (pv 0) T.cl_Bank T.m_Bank_hold (ok_Bank_hold T) (hr.mono (by decide)) T.B_Bank_hold .nil pass0 (pa_cons (pv 1) (pa_cons (pe_call (ok_number_from_words T) (hr.mono (by decide)) rfl T.g_number_from_words T.F_number_from_words.kp T.B_number_from_words .nil pass0 (pa_cons (pv 2) pa_nil)) pa_nil)))))), ?_⟩
    simp only [tSeq, tNext, tRet, tRetN, tDrop, tIfS, tAsg, gName, tVar, tC, tOp, tUn, rI, rI0, rU, rEq, rNe, tTest, tB, tNot, tAnd, tOr, tAndV, tOrV, tNotV, tChain, tIf, tFld, sFld, tCall, tMeth, tMake, tCons, tNil, tLst, tTup, tBM, tBM0, rIxL, gSub, rSetL, tSl, tPart, tNoPart, rSlL, L2.start, cxOf, Nat.reduceSub, Nat.reduceAdd, List.replicate_succ, List.replicate_zero, List.append_nil, List.cons.injEq, and_true, true_and, exists_eq, decide_eq_true_eq, if_true, if_false, reduceCtorEq, Bool.not_eq_true', decide_eq_false_iff_not, Bool.false_eq_true, List.map_cons, List.map_nil, List.length_cons, List.length_nil, List.cons_append, List.nil_append, List.getElem?_cons_zero, List.getElem?_cons_succ, List.set_cons_zero, List.set_cons_succ, Option.some.injEq, V.int.injEq, V.ref.injEq, V.bl.injEq, exists_eq_left', exists_eq_left, exists_and_left, and_assoc, Int.natCast_inj, HO.ins.injEq, HO.lst.injEq, tCB, Nat.reduceLT, upd_same, upd_upd, scal, B.ins, B.lst, T.cl_Bank, T.n_Bank_modulus, T.n_Bank_length, T.n_Bank_held, fs_Bank_modulus, fs_Bank_length, fs_Bank_held, fs_Bank_put_modulus, fs_Bank_put_length, fs_Bank_put_held, fs_Bank_no_begin, fs_Bank_no_put_words, fs_Bank_no_get_words, fs_Bank_no_hold_sum, fs_Bank_no_hold_difference, fs_Bank_no_hold_product, fs_Bank_no_hold_half, fs_Bank_no_hold_doubled, fs_Bank_no_hold_power, fs_Bank_no_order, fs_Bank_no_hold, fs_Bank_len, fs_Bank_inj, fs_Bank_new0, fs_Bank_new1, fs_Bank_new2, sp_number_from_words, sp_is_place, sp_Bank_hold]
    rw [Kgm.step_put s hr32 hrow g.n1] at q
    by_cases h1 : Reg r
    · rw [if_neg (fun z => z h1)]
      refine ⟨_, .inl hs, ?_⟩
      rw [List.length_map]
      by_cases h2 : x.length = s.n
      · rw [if_neg (fun z => z h2)]
        rw [if_pos ⟨h1, h2⟩] at q
        have m3 := g.m3
        refine ⟨x, hs, hrow, dx, l, s, B, g.len, by omega, h1, fun H' p D => q H' p ?_⟩
        rw [cast_mod] at D
        exact D
      · rw [if_pos h2]
        rw [if_neg (fun z => h2 z.2)] at q
        exact ⟨line1, fun p hp => q _ p (Did.answer (ans := [-1]) B hp)⟩
    · rw [if_pos h1]
      rw [if_neg (fun z => h1 z.1)] at q
      exact ⟨line1, fun p hp => q _ p (Did.answer (ans := [-1]) B hp)⟩
theorem ok_Bank_get_words (T : Txt K mg t) : FnOk P w K mg base CX0 2 t.f_Bank_get_words t.d_Bank_get_words ["self", "place", "length"] (sp_Bank_get_words t.c_Bank) := by
  refine T.F_Bank_get_words.ok sc_Bank_get_words (fun vs H Q E h => ?_) (fun cdv A outer s H vs Q E hr h => ?_)
  · obtain ⟨_, _, _, _, _, _, rfl, _⟩ := h
    rfl
  · obtain ⟨b, dx, l, s, r, n, rfl, B, hr32, hn, g, q⟩ := h
    refine ⟨_, (pss_cons (ps_if (PW.pt (pw_or (pt_not (pt_val (pe_call (ok_is_place T) (hr.mono (by decide)) rfl T.g_is_place T.F_is_place.kp T.B_is_place .nil pass0 (pa_cons (pv 1) pa_nil)))) (pw_or1 (pt_cmpR op_ne (pv 2) (pe_fld (pv 0) rfl) (nomark _))))) (pss_one (ps_ret (pe_lst (pa_cons (pe_gint rfl T.k_REFUSED) pa_nil)))) (pss_nil))
      (pss_one (ps_ret (pe_op op_cat (pe_lst (pa_cons (pe_gint rfl T.k_DONE) pa_nil)) (pe_call (ok_words_from_number T) (hr.mono (by decide)) rfl T.g_words_from_number T.F_words_from_number.kp T.B_words_from_number .nil pass0 (pa_cons (pe_ix ix_list (pe_fld (pv 0) rfl) (pv 1) (fun _ _ => rfl)) (pa_cons (pv 2) pa_nil))))))), ?_⟩
    simp only [tSeq, tNext, tRet, tRetN, tDrop, tIfS, tAsg, gName, tVar, tC, tOp, tUn, rI, rI0, rU, rEq, rNe, tTest, tB, tNot, tAnd, tOr, tAndV, tOrV, tNotV, tChain, tIf, tFld, sFld, tCall, tMeth, tMake, tCons, tNil, tLst, tTup, tBM, tBM0, rIxL, gSub, rSetL, tSl, tPart, tNoPart, rSlL, L2.start, cxOf, Nat.reduceSub, Nat.reduceAdd, List.replicate_succ, List.replicate_zero, List.append_nil, List.cons.injEq, and_true, true_and, exists_eq, decide_eq_true_eq, if_true, if_false, reduceCtorEq, Bool.not_eq_true', decide_eq_false_iff_not, Bool.false_eq_true, List.map_cons, List.map_nil, List.length_cons, List.length_nil, List.cons_append, List.nil_append, List.getElem?_cons_zero, List.getElem?_cons_succ, List.set_cons_zero, List.set_cons_succ, Option.some.injEq, V.int.injEq, V.ref.injEq, V.bl.injEq, exists_eq_left', exists_eq_left, exists_and_left, and_assoc, Int.natCast_inj, HO.ins.injEq, HO.lst.injEq, tCB, Nat.reduceLT, upd_same, upd_upd, scal, B.ins, B.lst, T.cl_Bank, T.n_Bank_modulus, T.n_Bank_length, T.n_Bank_held, fs_Bank_modulus, fs_Bank_length, fs_Bank_held, fs_Bank_put_modulus, fs_Bank_put_length, fs_Bank_put_held, fs_Bank_no_begin, fs_Bank_no_put_words, fs_Bank_no_get_words, fs_Bank_no_hold_sum, fs_Bank_no_hold_difference, fs_Bank_no_hold_product, fs_Bank_no_hold_half, fs_Bank_no_hold_doubled, fs_Bank_no_hold_power, fs_Bank_no_order, fs_Bank_no_hold, fs_Bank_len, fs_Bank_inj, fs_Bank_new0, fs_Bank_new1, fs_Bank_new2, sp_words_from_number, sp_is_place, rCat]
    rw [Kgm.step_get s hr32 hn] at q
    by_cases h1 : Reg r
    · rw [if_neg (fun z => z h1)]
      by_cases h2 : n = (s.n : Int)
      · rw [if_neg (fun z => z h2)]
        rw [if_pos ⟨h1, h2⟩] at q
        refine ⟨line1, fun p hp => ?_⟩
        rw [upd_ne (ne_of_none B.ins hp), B.ins]
        simp only [tSeq, tNext, tRet, tRetN, tDrop, tIfS, tAsg, gName, tVar, tC, tOp, tUn, rI, rI0, rU, rEq, rNe, tTest, tB, tNot, tAnd, tOr, tAndV, tOrV, tNotV, tChain, tIf, tFld, sFld, tCall, tMeth, tMake, tCons, tNil, tLst, tTup, tBM, tBM0, rIxL, gSub, rSetL, tSl, tPart, tNoPart, rSlL, L2.start, cxOf, Nat.reduceSub, Nat.reduceAdd, List.replicate_succ, List.replicate_zero, List.append_nil, List.cons.injEq, and_true, true_and, exists_eq, decide_eq_true_eq, if_true, if_false, reduceCtorEq, Bool.not_eq_true', decide_eq_false_iff_not, Bool.false_eq_true, List.map_cons, List.map_nil, List.length_cons, List.length_nil, List.cons_append, List.nil_append, List.getElem?_cons_zero, List.getElem?_cons_succ, List.set_cons_zero, List.set_cons_succ, Option.some.injEq, V.int.injEq, V.ref.injEq, V.bl.injEq, exists_eq_left', exists_eq_left, exists_and_left, and_assoc, Int.natCast_inj, HO.ins.injEq, HO.lst.injEq, tCB, Nat.reduceLT, upd_same, upd_upd, scal, T.cl_Bank, T.n_Bank_modulus, T.n_Bank_length, T.n_Bank_held, fs_Bank_modulus, fs_Bank_length, fs_Bank_held, fs_Bank_put_modulus, fs_Bank_put_length, fs_Bank_put_held, fs_Bank_no_begin, fs_Bank_no_put_words, fs_Bank_no_get_words, fs_Bank_no_hold_sum, fs_Bank_no_hold_difference, fs_Bank_no_hold_product, fs_Bank_no_hold_half, fs_Bank_no_hold_doubled, fs_Bank_no_hold_power, fs_Bank_no_order, fs_Bank_no_hold, fs_Bank_len, fs_Bank_inj, fs_Bank_new0, fs_Bank_new1, fs_Bank_new2]
        have hlp : l ≠ p := ne_of_none B.lst hp
        have n64 := g.n64
        refine ⟨_, .of (xs := rv s.regs) (by rw [upd_ne hlp]; exact B.lst), _, atI_pos h1.1 (rv_at (g.get h1)), s.reg r.toNat, rfl, s.n, h2, by omega, fun p2 hp2 => ?_⟩
        obtain ⟨hp20, n2p⟩ := upd_none hp2
        refine ⟨[V.int 0], by rw [upd_ne (Ne.symm n2p), upd_same], ?_, fun p3 hp3 => q _ p3 ?_⟩
        · rw [List.length_map, Kgm.words_length]
          exact Nat.le_trans (show 1 + s.n ≤ 65 by omega) (by decide)
        · obtain ⟨hp3', n32⟩ := upd_none hp3
          obtain ⟨hp30, n3p⟩ := upd_none hp3'
          exact Did.plain B ((((Ch.refl [] H).new (.inr hp)).new (.inr hp20)).new (.inr hp30)) upd_same hp30
      · rw [if_pos h2]
        rw [if_neg (fun z => h2 z.2)] at q
        exact ⟨line1, fun p hp => q _ p (Did.answer (ans := [-1]) B hp)⟩
    · rw [if_pos h1]
      rw [if_neg (fun z => h1 z.1)] at q
      exact ⟨line1, fun p hp => q _ p (Did.answer (ans := [-1]) B hp)⟩
theorem ok_Bank_hold_sum (T : Txt K mg t) : FnOk P w K mg base CX0 4 t.f_Bank_hold_sum t.d_Bank_hold_sum ["self", "target", "left", "right"] (sp_three t.c_Bank 3) := by
  refine T.F_Bank_hold_sum.ok sc_Bank_hold_sum (fun vs H Q E h => ?_) (fun cdv A outer s H vs Q E hr h => ?_)
  · obtain ⟨_, _, _, _, _, _, _, rfl, _⟩ := h
    rfl
  · obtain ⟨b, dx, l, s, d, x, y, rfl, B, hd, hx, hy, g, q⟩ := h
    refine ⟨_, (pss_cons (ps_if (pt_not (pt_val (pe_call (ok_are_places T) (hr.mono (by decide)) rfl T.g_are_places T.F_are_places.kp T.B_are_places .nil pass0 (pa_cons (pv 1) (pa_cons (pv 2) (pa_cons (pv 3) pa_nil)))))) (pss_one (ps_ret (pe_lst (pa_cons (pe_gint rfl T.k_REFUSED) pa_nil)))) (pss_nil))
      (pss_one (ps_ret (pe_meth (pv 0) T.cl_Bank T.m_Bank_hold (ok_Bank_hold T) (hr.mono (by decide)) T.B_Bank_hold .nil pass0 (pa_cons (pv 1) (pa_cons (pe_op op_add (pe_ix ix_list (pe_fld (pv 0) rfl) (pv 2) (fun _ _ => rfl)) (pe_ix ix_list (pe_fld (pv 0) rfl) (pv 3) (fun _ _ => rfl))) pa_nil)))))), ?_⟩
    simp only [tSeq, tNext, tRet, tRetN, tDrop, tIfS, tAsg, gName, tVar, tC, tOp, tUn, rI, rI0, rU, rEq, rNe, tTest, tB, tNot, tAnd, tOr, tAndV, tOrV, tNotV, tChain, tIf, tFld, sFld, tCall, tMeth, tMake, tCons, tNil, tLst, tTup, tBM, tBM0, rIxL, gSub, rSetL, tSl, tPart, tNoPart, rSlL, L2.start, cxOf, Nat.reduceSub, Nat.reduceAdd, List.replicate_succ, List.replicate_zero, List.append_nil, List.cons.injEq, and_true, true_and, exists_eq, decide_eq_true_eq, if_true, if_false, reduceCtorEq, Bool.not_eq_true', decide_eq_false_iff_not, Bool.false_eq_true, List.map_cons, List.map_nil, List.length_cons, List.length_nil, List.cons_append, List.nil_append, List.getElem?_cons_zero, List.getElem?_cons_succ, List.set_cons_zero, List.set_cons_succ, Option.some.injEq, V.int.injEq, V.ref.injEq, V.bl.injEq, exists_eq_left', exists_eq_left, exists_and_left, and_assoc, Int.natCast_inj, HO.ins.injEq, HO.lst.injEq, tCB, Nat.reduceLT, upd_same, upd_upd, scal, B.ins, B.lst, T.cl_Bank, T.n_Bank_modulus, T.n_Bank_length, T.n_Bank_held, fs_Bank_modulus, fs_Bank_length, fs_Bank_held, fs_Bank_put_modulus, fs_Bank_put_length, fs_Bank_put_held, fs_Bank_no_begin, fs_Bank_no_put_words, fs_Bank_no_get_words, fs_Bank_no_hold_sum, fs_Bank_no_hold_difference, fs_Bank_no_hold_product, fs_Bank_no_hold_half, fs_Bank_no_hold_doubled, fs_Bank_no_hold_power, fs_Bank_no_order, fs_Bank_no_hold, fs_Bank_len, fs_Bank_inj, fs_Bank_new0, fs_Bank_new1, fs_Bank_new2, sp_are_places, sp_Bank_hold]
    rw [Kgm.step_sum s hd hx hy] at q
    by_cases h1 : Reg d ∧ Reg x ∧ Reg y
    · rw [if_neg (fun z => z h1)]
      rw [if_pos h1] at q
      have m3 := g.m3
      refine ⟨_, .of B.lst, _, atI_pos h1.2.1.1 (rv_at (g.get h1.2.1)), _, .of B.lst, _, atI_pos h1.2.2.1 (rv_at (g.get h1.2.2)), _, rfl, _, rfl, dx, l, s, B, g.len, by omega, h1.1, fun H' p D => q H' p ?_⟩
      rw [add_mod_nat] at D
      exact D
    · rw [if_pos h1]
      rw [if_neg h1] at q
      exact ⟨line1, fun p hp => q _ p (Did.answer (ans := [-1]) B hp)⟩
theorem ok_Bank_hold_difference (T : Txt K mg t) : FnOk P w K mg base CX0 4 t.f_Bank_hold_difference t.d_Bank_hold_difference ["self", "target", "left", "right"] (sp_three t.c_Bank 4) := by
  refine T.F_Bank_hold_difference.ok sc_Bank_hold_difference (fun vs H Q E h => ?_) (fun cdv A outer s H vs Q E hr h => ?_)
  · obtain ⟨_, _, _, _, _, _, _, rfl, _⟩ := h
    rfl
  · obtain ⟨b, dx, l, s, d, x, y, rfl, B, hd, hx, hy, g, q⟩ := h
    refine ⟨_, (pss_cons (ps_if (pt_not (pt_val (pe_call (ok_are_places T) (hr.mono (by decide)) rfl T.g_are_places T.F_are_places.kp T.B_are_places .nil pass0 (pa_cons (pv 1) (pa_cons (pv 2) (pa_cons (pv 3) pa_nil)))))) (pss_one (ps_ret (pe_lst (pa_cons (pe_gint rfl T.k_REFUSED) pa_nil)))) (pss_nil))
      (pss_one (ps_ret (pe_meth (pv 0) T.cl_Bank T.m_Bank_hold (ok_Bank_hold T) (hr.mono (by decide)) T.B_Bank_hold .nil pass0 (pa_cons (pv 1) (pa_cons (pe_op op_sub (pe_ix ix_list (pe_fld (pv 0) rfl) (pv 2) (fun _ _ => rfl)) (pe_ix ix_list (pe_fld (pv 0) rfl) (pv 3) (fun _ _ => rfl))) pa_nil)))))), ?_⟩
    simp only [tSeq, tNext, tRet, tRetN, tDrop, tIfS, tAsg, gName, tVar, tC, tOp, tUn, rI, rI0, rU, rEq, rNe, tTest, tB, tNot, tAnd, tOr, tAndV, tOrV, tNotV, tChain, tIf, tFld, sFld, tCall, tMeth, tMake, tCons, tNil, tLst, tTup, tBM, tBM0, rIxL, gSub, rSetL, tSl, tPart, tNoPart, rSlL, L2.start, cxOf, Nat.reduceSub, Nat.reduceAdd, List.replicate_succ, List.replicate_zero, List.append_nil, List.cons.injEq, and_true, true_and, exists_eq, decide_eq_true_eq, if_true, if_false, reduceCtorEq, Bool.not_eq_true', decide_eq_false_iff_not, Bool.false_eq_true, List.map_cons, List.map_nil, List.length_cons, List.length_nil, List.cons_append, List.nil_append, List.getElem?_cons_zero, List.getElem?_cons_succ, List.set_cons_zero, List.set_cons_succ, Option.some.injEq, V.int.injEq, V.ref.injEq, V.bl.injEq, exists_eq_left', exists_eq_left, exists_and_left, and_assoc, Int.natCast_inj, HO.ins.injEq, HO.lst.injEq, tCB, Nat.reduceLT, upd_same, upd_upd, scal, B.ins, B.lst, T.cl_Bank, T.n_Bank_modulus, T.n_Bank_length, T.n_Bank_held, fs_Bank_modulus, fs_Bank_length, fs_Bank_held, fs_Bank_put_modulus, fs_Bank_put_length, fs_Bank_put_held, fs_Bank_no_begin, fs_Bank_no_put_words, fs_Bank_no_get_words, fs_Bank_no_hold_sum, fs_Bank_no_hold_difference, fs_Bank_no_hold_product, fs_Bank_no_hold_half, fs_Bank_no_hold_doubled, fs_Bank_no_hold_power, fs_Bank_no_order, fs_Bank_no_hold, fs_Bank_len, fs_Bank_inj, fs_Bank_new0, fs_Bank_new1, fs_Bank_new2, sp_are_places, sp_Bank_hold]
    rw [Kgm.step_diff s hd hx hy] at q
    by_cases h1 : Reg d ∧ Reg x ∧ Reg y
    · rw [if_neg (fun z => z h1)]
      rw [if_pos h1] at q
      have m3 := g.m3
      refine ⟨_, .of B.lst, _, atI_pos h1.2.1.1 (rv_at (g.get h1.2.1)), _, .of B.lst, _, atI_pos h1.2.2.1 (rv_at (g.get h1.2.2)), _, rfl, _, rfl, dx, l, s, B, g.len, by omega, h1.1, fun H' p D => q H' p ?_⟩
      rw [sub_mod_nat (g.reg _)] at D
      exact D
    · rw [if_pos h1]
      rw [if_neg h1] at q
      exact ⟨line1, fun p hp => q _ p (Did.answer (ans := [-1]) B hp)⟩
theorem ok_Bank_hold_product (T : Txt K mg t) : FnOk P w K mg base CX0 4 t.f_Bank_hold_product t.d_Bank_hold_product ["self", "target", "left", "right"] (sp_three t.c_Bank 5) := by
  refine T.F_Bank_hold_product.ok sc_Bank_hold_product (fun vs H Q E h => ?_) (fun cdv A outer s H vs Q E hr h => ?_)
  · obtain ⟨_, _, _, _, _, _, _, rfl, _⟩ := h
    rfl
  · obtain ⟨b, dx, l, s, d, x, y, rfl, B, hd, hx, hy, g, q⟩ := h
    refine ⟨_, (pss_cons (ps_if (pt_not (pt_val (pe_call (ok_are_places T) (hr.mono (by decide)) rfl T.g_are_places T.F_are_places.kp T.B_are_places .nil pass0 (pa_cons (pv 1) (pa_cons (pv 2) (pa_cons (pv 3) pa_nil)))))) (pss_one (ps_ret (pe_lst (pa_cons (pe_gint rfl T.k_REFUSED) pa_nil)))) (pss_nil))
      (pss_one (ps_ret (pe_meth (pv 0) T.cl_Bank T.m_Bank_hold (ok_Bank_hold T) (hr.mono (by decide)) T.B_Bank_hold .nil pass0 (pa_cons (pv 1) (pa_cons (pe_op op_mulB (pe_ix ix_list (pe_fld (pv 0) rfl) (pv 2) (fun _ _ => rfl)) (pe_ix ix_list (pe_fld (pv 0) rfl) (pv 3) (fun _ _ => rfl))) pa_nil)))))), ?_⟩
    simp only [tSeq, tNext, tRet, tRetN, tDrop, tIfS, tAsg, gName, tVar, tC, tOp, tUn, rI, rI0, rU, rEq, rNe, tTest, tB, tNot, tAnd, tOr, tAndV, tOrV, tNotV, tChain, tIf, tFld, sFld, tCall, tMeth, tMake, tCons, tNil, tLst, tTup, tBM, tBM0, rIxL, gSub, rSetL, tSl, tPart, tNoPart, rSlL, L2.start, cxOf, Nat.reduceSub, Nat.reduceAdd, List.replicate_succ, List.replicate_zero, List.append_nil, List.cons.injEq, and_true, true_and, exists_eq, decide_eq_true_eq, if_true, if_false, reduceCtorEq, Bool.not_eq_true', decide_eq_false_iff_not, Bool.false_eq_true, List.map_cons, List.map_nil, List.length_cons, List.length_nil, List.cons_append, List.nil_append, List.getElem?_cons_zero, List.getElem?_cons_succ, List.set_cons_zero, List.set_cons_succ, Option.some.injEq, V.int.injEq, V.ref.injEq, V.bl.injEq, exists_eq_left', exists_eq_left, exists_and_left, and_assoc, Int.natCast_inj, HO.ins.injEq, HO.lst.injEq, tCB, Nat.reduceLT, upd_same, upd_upd, scal, B.ins, B.lst, T.cl_Bank, T.n_Bank_modulus, T.n_Bank_length, T.n_Bank_held, fs_Bank_modulus, fs_Bank_length, fs_Bank_held, fs_Bank_put_modulus, fs_Bank_put_length, fs_Bank_put_held, fs_Bank_no_begin, fs_Bank_no_put_words, fs_Bank_no_get_words, fs_Bank_no_hold_sum, fs_Bank_no_hold_difference, fs_Bank_no_hold_product, fs_Bank_no_hold_half, fs_Bank_no_hold_doubled, fs_Bank_no_hold_power, fs_Bank_no_order, fs_Bank_no_hold, fs_Bank_len, fs_Bank_inj, fs_Bank_new0, fs_Bank_new1, fs_Bank_new2, sp_are_places, sp_Bank_hold]
    rw [Kgm.step_prod s hd hx hy] at q
    by_cases h1 : Reg d ∧ Reg x ∧ Reg y
    · rw [if_neg (fun z => z h1)]
      rw [if_pos h1] at q
      have m3 := g.m3
      refine ⟨_, .of B.lst, _, atI_pos h1.2.1.1 (rv_at (g.get h1.2.1)), _, .of B.lst, _, atI_pos h1.2.2.1 (rv_at (g.get h1.2.2)), _, rfl, _, rfl, .nat (g.reg_lt _) (by decide), .nat (g.reg_lt _) (by decide), dx, l, s, B, g.len, by omega, h1.1, fun H' p D => q H' p ?_⟩
      rw [mul_mod_nat] at D
      exact D
    · rw [if_pos h1]
      rw [if_neg h1] at q
      exact ⟨line1, fun p hp => q _ p (Did.answer (ans := [-1]) B hp)⟩
end
end Odd

set_option Elab.async false
set_option linter.all false
set_option maxRecDepth 100000
set_option maxHeartbeats 2000000
namespace Odd
open PySem PySem.Spec PyProof.Rows L2
open Kgm (Reg Row Wd num words W32 Bt Byts Good bnum pows lt_of_mod)
open Kg07 (Abs)
open Kg07Neutral (step)
open PyKg07 (whole)

/-! ### powers -/
def sp_sixteenth_power : Sp := fun vs H Q _ => ∃ (x m : Nat), vs = [.int (x : Int), .int (m : Int)] ∧ 0 < m ∧ m < 2 ^ 4096 ∧ x < 2 ^ 4096 ∧ ∀ y : Nat, y < 2 ^ 4096 → y % m = x ^ 16 % m → Q (.int (y : Int)) H
def sp_first_powers : Sp := fun vs H Q _ => ∃ (b m : Nat), vs = [.int (b : Int), .int (m : Int)] ∧ 2 ≤ m ∧ m < 2 ^ 4096 ∧ b < 2 ^ 4096 ∧ ∀ p, H p = none → Q (.ref p) (upd H p (.lst (rv (pows b m 16))))
def sp_power_modulo (K : PySem.W.Frag) : Sp := fun vs H Q _ => ∃ (a : Addr) (b m : Nat) (e : List Int), vs = [.int (b : Int), .ref a, .int (m : Int)] ∧ SqL K H a (e.map V.int) ∧ Byts e ∧ 2 ≤ m ∧ m < 2 ^ 4096 ∧ b < 2 ^ 4096 ∧
  ∀ (H' : Hp) (y : Nat), Ch [] H H' → y % m = b ^ bnum e % m → Q (.int (y : Int)) H'
theorem rv_snoc (l : List Nat) (x : Nat) : rv (l ++ [x]) = rv l ++ [.int (x : Int)] := by
  unfold rv
  rw [List.map_append]
  rfl
theorem cast_mulmod (x y m : Nat) : (x : Int) * (y : Int) % (m : Int) = ((x * y % m : Nat) : Int) := by
  rw [← Int.natCast_mul, ← Int.natCast_emod]
structure SixInv (x m : Nat) (H : Hp) (i : Nat) (st : L2.St) (H' : Hp) : Prop where
  hp : H' = H
  is : ∃ (y : Nat) (v : Option V), st = [some (.int (x : Int)), some (.int (m : Int)), some (.int (y : Int)), v] ∧ y < 2 ^ 4096 ∧ y % m = x ^ 2 ^ i % m
structure FpInv (b m : Nat) (H : Hp) (p : Addr) (i : Nat) (st : L2.St) (H' : Hp) : Prop where
  is : ∃ v, st = [some (.int (b : Int)), some (.int (m : Int)), some (.ref p), v]
  hp : H' = upd H p (.lst (rv (pows b m (i + 1))))
structure PmInv (b m : Nat) (e : List Int) (a p : Addr) (H : Hp) (i : Nat) (st : L2.St) (H' : Hp) : Prop where
  is : ∃ (y : Nat) (v w : Option V), st = [some (.int (b : Int)), some (.ref a), some (.int (m : Int)), some (.ref p), some (.int (y : Int)), v, w] ∧ y < 2 ^ 4096 ∧ y % m = b ^ bnum (e.drop (e.length - i)) % m
  ch : Ch [] H H'
  pw : H' p = some (.lst (rv (pows b m 16)))
/-- the exponent so far, behind j of a byte's two digits -/
def exj (E z : Nat) : Nat → Nat
  | 0 => E
  | 1 => E * 16 + z / 16
  | _ => (E * 16 + z / 16) * 16 + z % 16
theorem digit_at {E u j : Nat} {x : V} (hu : u < 256) (h : ([.int ((u / 16 : Nat) : Int), .int ((u % 16 : Nat) : Int)] : List V)[j]? = some x) : ∃ d : Nat, d < 16 ∧ x = .int (d : Int) ∧ exj E u (j + 1) = exj E u j * 16 + d := by
  match j, h with
  | 0, h => exact ⟨u / 16, by omega, (Option.some.inj h).symm, rfl⟩
  | 1, h => exact ⟨u % 16, by omega, (Option.some.inj h).symm, rfl⟩
  | j + 2, h => simp at h
structure InInv (b m E z : Nat) (a p t : Addr) (H : Hp) (j : Nat) (st : L2.St) (H' : Hp) : Prop where
  is : ∃ (y : Nat) (w : Option V), st = [some (.int (b : Int)), some (.ref a), some (.int (m : Int)), some (.ref p), some (.int (y : Int)), some (.int (z : Int)), w] ∧ y < 2 ^ 4096 ∧ y % m = b ^ exj E z j % m
  ch : Ch [] H H'
  pw : H' p = some (.lst (rv (pows b m 16)))
  tu : H' t = some (.tup [.int ((z / 16 : Nat) : Int), .int ((z % 16 : Nat) : Int)])
section
variable {P : Program} {w : World} {K : PySem.W.Frag} {mg : Str → Option Value} {base : Heap} {t : Adr}
theorem ok_sixteenth_power (T : Txt K mg t) : FnOk P w K mg base CX0 1 t.f_sixteenth_power t.d_sixteenth_power ["number", "modulus"] sp_sixteenth_power := by
  refine T.F_sixteenth_power.ok sc_sixteenth_power (fun vs H Q E h => ?_) (fun cdv A outer s H vs Q E hr h => ?_)
  · obtain ⟨_, _, rfl, _⟩ := h
    rfl
  · obtain ⟨x, m, rfl, hm, hm2, hx, q⟩ := h
    refine ⟨_, (pss_cons (ps_set (i := 2) sc_sixteenth_power.nd rfl (Or.inl rfl) (pv 0))
      (pss_cons (ps_for PassesOwn.never rfl (pi_range1 rfl T.b_range (pa_cons (pe_gint rfl T.k_DIGIT_BITS) pa_nil)) (pg_name (i := 3) sc_sixteenth_power.nd rfl (Or.inl rfl)) (pss_one (ps_set (i := 2) sc_sixteenth_power.nd rfl (Or.inl rfl) (pe_op op_mod (pe_op op_mulB (pv 2) (pv 2)) (pv 1)))))
      (pss_one (ps_ret (pv 2))))), ?_⟩
    refine ⟨_, rfl, (4 : Int), rfl, by decide, by decide, for_range (lo := 0) (n := 4) (SixInv x m H) ?_ ?_ ?_⟩
    · exact ⟨rfl, x, none, rfl, hx, by rw [Nat.pow_zero, Nat.pow_one]⟩
    · rintro i σ H' hi ⟨rfl, y, v, rfl, hy, e⟩
      simp only [tSeq, tNext, tRet, tRetN, tDrop, tIfS, tAsg, gName, tVar, tC, tOp, tUn, rI, rI0, rU, rEq, rNe, tTest, tB, tNot, tAnd, tOr, tAndV, tOrV, tNotV, tChain, tIf, tFld, sFld, tCall, tMeth, tMake, tCons, tNil, tLst, tTup, tBM, tBM0, rIxL, gSub, rSetL, tSl, tPart, tNoPart, rSlL, L2.start, cxOf, Nat.reduceSub, Nat.reduceAdd, List.replicate_succ, List.replicate_zero, List.append_nil, List.cons.injEq, and_true, true_and, exists_eq, decide_eq_true_eq, if_true, if_false, reduceCtorEq, Bool.not_eq_true', decide_eq_false_iff_not, Bool.false_eq_true, List.map_cons, List.map_nil, List.length_cons, List.length_nil, List.cons_append, List.nil_append, List.getElem?_cons_zero, List.getElem?_cons_succ, List.set_cons_zero, List.set_cons_succ, Option.some.injEq, V.int.injEq, V.ref.injEq, V.bl.injEq, exists_eq_left', exists_eq_left, exists_and_left, and_assoc, Int.natCast_inj, HO.ins.injEq, HO.lst.injEq, tCB, Nat.reduceLT, upd_same, upd_upd, scal]
      refine ⟨.nat hy (by decide), .nat hy (by decide), by omega, rfl, y * y % m, some (V.int (0 + (i : Int))), ?_, lt_of_mod hm hm2, Kgm.pow_square e⟩
      rw [cast_mulmod]
    · rintro σ H' ⟨rfl, y, v, rfl, hy, e⟩
      exact ⟨_, rfl, q y hy e⟩
theorem ok_first_powers (T : Txt K mg t) : FnOk P w K mg base CX0 1 t.f_first_powers t.d_first_powers ["base", "modulus"] sp_first_powers := by
  refine T.F_first_powers.ok sc_first_powers (fun vs H Q E h => ?_) (fun cdv A outer s H vs Q E hr h => ?_)
  · obtain ⟨_, _, rfl, _⟩ := h
    rfl
  · obtain ⟨b, m, rfl, hm, hm2, hb, q⟩ := h
    refine ⟨_, (pss_cons (ps_set (i := 2) sc_first_powers.nd rfl (Or.inl rfl) (pe_lst (pa_cons (pe_int) pa_nil)))
      (pss_cons (ps_for PassesOwn.never rfl (pi_range2 rfl T.b_range (pa_cons (pe_int) (pa_cons (pe_gint rfl T.k_DIGITS) pa_nil))) (pg_name (i := 3) sc_first_powers.nd rfl (Or.inl rfl)) (pss_one (ps_expr (pe_bm PySem.F.plainAttrs_list PySem.F.slot_list_append PySem.F.type_list_append mt_append (pv 2) (pa_cons (pe_op op_mod (pe_op op_mulB (pe_ix ix_list (pv 2) (pe_op op_sub (pv 3) (pe_int)) (fun _ _ => rfl)) (pv 0)) (pv 1)) pa_nil)))))
      (pss_one (ps_ret (pv 2))))), ?_⟩
    refine ⟨line1, fun p hp => ⟨1, 16, rfl, ⟨by decide, by decide, by decide, by decide⟩, for_range (lo := 1) (n := 15) (FpInv b m H p) ?_ ?_ ?_⟩⟩
    · refine ⟨⟨none, rfl⟩, ?_⟩
      rw [Kgm.pows_one b hm]
      rfl
    · rintro i σ H' hi ⟨⟨v, rfl⟩, rfl⟩
      have e : ((1 : Int) + (i : Int) - 1).toNat = i := by omega
      refine ⟨_, rfl, .inl ⟨rfl, _, SqL.of upd_same⟩, _, rfl, _, rfl, _, _, rfl, rfl, p, _, _, _, rfl, rfl, SqL.of upd_same, atI_pos (by omega) (rv_at (Kgm.pows_at (show ((1 : Int) + (i : Int) - 1).toNat < i + 1 by omega))), _, rfl, _, _, rfl, rfl,
        ⟨.nat (lt_of_mod (by omega) hm2) (by decide), .nat hb (by decide)⟩, _, rfl, _, _, rfl, rfl, show (0 : Int) < (m : Int) by omega, p, _, _, rfl, rfl, upd_same, ?_, ⟨⟨_, rfl⟩, ?_⟩⟩
      · rw [rv_length, Kgm.pows_length]
        exact Nat.lt_of_lt_of_le (show i + 1 < 17 by omega) (by decide)
      · rw [upd_upd, e]
        show upd H p (HO.lst (rv (pows b m (i + 1)) ++ [V.int (((b ^ i % m : Nat) : Int) * (b : Int) % (m : Int))])) = _
        rw [cast_mulmod, Kgm.pow_more, Kgm.pows_snoc b m (i + 1), rv_snoc]
    · rintro σ H' ⟨⟨v, rfl⟩, rfl⟩
      exact ⟨_, rfl, q p hp⟩
theorem ok_power_modulo (T : Txt K mg t) : FnOk P w K mg base CX0 2 t.f_power_modulo t.d_power_modulo ["base", "exponent", "modulus"] (sp_power_modulo K) := by
  refine T.F_power_modulo.ok sc_power_modulo (fun vs H Q E h => ?_) (fun cdv A outer s H vs Q E hr h => ?_)
  · obtain ⟨_, _, _, _, rfl, _⟩ := h
    rfl
  · obtain ⟨a, b, m, e, rfl, hs, hby, hm, hm2, hb, q⟩ := h
    refine ⟨_, (pss_cons (ps_set (i := 3) sc_power_modulo.nd rfl (Or.inl rfl) (pe_call (ok_first_powers T) (hr.mono (by decide)) rfl T.g_first_powers T.F_first_powers.kp T.B_first_powers .nil pass0 (pa_cons (pv 0) (pa_cons (pv 2) pa_nil))))
      (pss_cons (ps_set (i := 4) sc_power_modulo.nd rfl (Or.inl rfl) (pe_int))
      (pss_cons (ps_for PassesOwn.never rfl (pi_reversed rfl T.b_reversed (pa_cons (pv 1) pa_nil)) (pg_name (i := 5) sc_power_modulo.nd rfl (Or.inl rfl)) (pss_one (ps_for PassesOwn.never rfl (pi_tup (pe_tup (pa_cons (pe_op op_fdiv (pv 5) (pe_gint rfl T.k_DIGITS)) (pa_cons (pe_op op_mod (pv 5) (pe_gint rfl T.k_DIGITS)) pa_nil)))) (pg_name (i := 6) sc_power_modulo.nd rfl (Or.inl rfl)) (pss_one (ps_set (i := 4) sc_power_modulo.nd rfl (Or.inl rfl) (pe_op op_mod (pe_op op_mulB (pe_call (ok_sixteenth_power T) (hr.mono (by decide)) rfl T.g_sixteenth_power T.F_sixteenth_power.kp T.B_sixteenth_power .nil pass0 (pa_cons (pv 4) (pa_cons (pv 2) pa_nil))) (pe_ix ix_list (pv 3) (pv 6) (fun _ _ => rfl))) (pv 2)))))))
      (pss_one (ps_ret (pv 4)))))), ?_⟩
    refine ⟨_, rfl, _, rfl, b, m, rfl, hm, hm2, hb, fun p hp => ?_⟩
    have c0 : Ch [] H (upd H p (.lst (rv (pows b m 16)))) := (Ch.refl [] H).new (.inl hp)
    have hk : ∀ H', Ch [] H H' → SqL K H' a (e.map V.int) := fun H' c => hs.keep fun o z => c a o z (by simp)
    refine ⟨_, rfl, a, _, rfl, hk _ c0, for_rev (K := K) (a := a) (xs := e.map V.int) (PmInv b m e a p H) ?_ ?_ ?_ ?_⟩
    · refine ⟨⟨1, none, none, rfl, by decide, ?_⟩, c0, upd_same⟩
      rw [Nat.sub_zero, List.drop_length]
      rfl
    · rintro i σ H' _ ⟨_, c, _⟩
      exact hk _ c
    · rintro i x σ H' hi hx ⟨⟨y, v, w, rfl, hy, he⟩, c, pw⟩
      rw [List.length_map] at hi hx
      obtain ⟨z, hz, rfl⟩ : ∃ z, e[e.length - 1 - i]? = some z ∧ x = V.int z := by
        rw [List.getElem?_map] at hx
        cases e3 : e[e.length - 1 - i]? with
        | none => rw [e3] at hx; cases hx
        | some z => rw [e3] at hx; exact ⟨z, rfl, (Option.some.inj hx).symm⟩
      have hw : Bt z := hby.all z (List.mem_of_getElem? hz)
      obtain ⟨u, rfl⟩ : ∃ u : Nat, z = (u : Int) := ⟨z.toNat, by have := hw.1; omega⟩
      have hu : u < 256 := by have := hw.2; omega
      have e4 := Kgm.bnum_snoc_rev e i hi
      rw [List.getD_eq_getElem?_getD, hz] at e4
      have e5 : bnum (e.drop (e.length - (i + 1))) = bnum (e.drop (e.length - i)) * 256 + u := e4
      refine ⟨_, rfl, _, _, rfl, rfl, ⟨by decide, by decide⟩, _, rfl, _, _, rfl, rfl, show (0 : Int) < 16 by decide, show 2 ≤ sizeLine by decide, fun t ht => ⟨t, rfl, ⟨_, .of upd_same⟩, for_tup (K := K) (a := t) (xs := [.int ((u / 16 : Nat) : Int), .int ((u % 16 : Nat) : Int)]) (InInv b m (bnum (e.drop (e.length - i))) u a p t H) ?_ ?_ ?_ ?_⟩⟩
      · refine ⟨⟨y, w, rfl, hy, he⟩, c.new (.inl ht), ?_, upd_same⟩
        rw [upd_ne (ne_of_none pw ht)]
        exact pw
      · rintro j σ H2 _ ⟨_, _, _, tu⟩
        exact .of tu
      · rintro j x2 σ H2 hx2 ⟨⟨y2, w2, rfl, hy2, he2⟩, c2, pw2, tu2⟩
        obtain ⟨d, hd, rfl, ed⟩ := digit_at (E := bnum (e.drop (e.length - i))) hu hx2
        refine ⟨_, rfl, _, rfl, y2, m, rfl, by omega, hm2, hy2, fun y3 hy3 e3 => ⟨_, rfl, _, rfl, p, _, _, _, rfl, rfl, SqL.of pw2, atI_pos (Int.natCast_nonneg _) (rv_at (Kgm.pows_at (i := (d : Int).toNat) hd)), _, _, rfl, rfl,
          ⟨.nat hy3 (by decide), .nat (lt_of_mod (by omega) hm2) (by decide)⟩, _, rfl, _, _, rfl, rfl, show (0 : Int) < (m : Int) by omega, ⟨⟨y3 * (b ^ d % m) % m, some (V.int (d : Int)), ?_, lt_of_mod (by omega) hm2, ?_⟩, c2, pw2, tu2⟩⟩⟩
        · rw [← cast_mulmod]
          rfl
        · rw [ed]
          exact Kgm.pow_digit he2 e3
      · rintro σ H2 ⟨⟨y2, w2, rfl, hy2, he2⟩, c2, pw2, tu2⟩
        refine ⟨⟨y2, _, w2, rfl, hy2, ?_⟩, c2, pw2⟩
        rw [he2, e5]
        show b ^ ((_ * 16 + u / 16) * 16 + u % 16) % m = _
        congr 2
        omega
    · rintro σ H' ⟨⟨y, v, w, rfl, hy, he⟩, c, pw⟩
      rw [List.length_map, Nat.sub_self, List.drop_zero] at he
      exact ⟨_, rfl, q _ y c he⟩
end

/-! ### products and shifts by themselves -/
theorem ifT {b : Bool} {A B : Prop} (e : b = true) (h : A) : if b = true then A else B := by
  rw [if_pos e]
  exact h
theorem ifF {b : Bool} {A B : Prop} (e : b = false) (h : B) : if b = true then A else B := by
  rw [e, if_neg Bool.false_ne_true]
  exact h
theorem notF {c A B : Prop} [Decidable c] (e : c) (h : B) : if (!decide c) = true then A else B := ifF (by rw [decide_eq_true e]; rfl) h
theorem notT {c A B : Prop} [Decidable c] (e : ¬ c) (h : A) : if (!decide c) = true then A else B := ifT (by rw [decide_eq_false e]; rfl) h
def wide_ans (x y : List Int) : List Int := if 1 ≤ x.length then 0 :: words (2 * x.length) (num x * num y) else [-1]
def shifted_ans (t : Int) (x : List Int) : List Int := if 1 ≤ x.length then 0 :: words x.length (if 0 ≤ t then num x * 2 ^ t.toNat % 2 ^ (64 * x.length) else num x / 2 ^ (-t).toNat) else [-1]
def sp_wide_product (K : PySem.W.Frag) : Sp := fun vs H Q _ => ∃ (a a2 : Addr) (x y : List Int), vs = [.ref a, .ref a2] ∧ SqL K H a (x.map V.int) ∧ SqL K H a2 (y.map V.int) ∧ Row x ∧ Row y ∧
  ∀ (H' : Hp) (p : Addr), Ch [] H H' → H p = none → H' p = some (.lst ((wide_ans x y).map V.int)) → Q (.ref p) H'
def shf (x B : Nat) (t : Int) : Nat := if t < 0 then x / 2 ^ (-t).toNat else x * 2 ^ (if B < t.toNat then B else t.toNat)
def sp_shifted_number : Sp := fun vs H Q _ => ∃ (x B : Nat) (t : Int), vs = [.int (x : Int), .int t, .int (B : Int)] ∧ x < 2 ^ 4096 ∧ B ≤ 4096 ∧ Q (.int ((shf x B t : Nat) : Int)) H
def sp_shifted_words (K : PySem.W.Frag) : Sp := fun vs H Q _ => ∃ (a : Addr) (x : List Int) (t : Int), vs = [.ref a, .int t] ∧ SqL K H a (x.map V.int) ∧ Row x ∧
  ∀ (H' : Hp) (p : Addr), Ch [] H H' → H p = none → H' p = some (.lst ((shifted_ans t x).map V.int)) → Q (.ref p) H'
section
variable {P : Program} {w : World} {K : PySem.W.Frag} {mg : Str → Option Value} {base : Heap} {t : Adr}
theorem ok_wide_product (T : Txt K mg t) : FnOk P w K mg base CX0 2 t.f_wide_product t.d_wide_product ["left", "right"] (sp_wide_product K) := by
  refine T.F_wide_product.ok sc_wide_product (fun vs H Q E h => ?_) (fun cdv A outer s H vs Q E hr h => ?_)
  · obtain ⟨_, _, _, _, rfl, _⟩ := h
    rfl
  · obtain ⟨a, a2, x, y, rfl, hs, hs2, hrow, hrow2, q⟩ := h
    refine ⟨_, (pss_cons (ps_set (i := 2) sc_wide_product.nd rfl (Or.inl rfl) (pe_callB call_len_seq (by rfl) T.b_len PySem.boot_len (pa_cons (pv 0) pa_nil)))
      (pss_cons (ps_if (pt_not (pt_val (pe_call (ok_is_length T) (hr.mono (by decide)) rfl T.g_is_length T.F_is_length.kp T.B_is_length .nil pass0 (pa_cons (pv 2) pa_nil)))) (pss_one (ps_ret (pe_lst (pa_cons (pe_gint rfl T.k_REFUSED) pa_nil)))) (pss_nil))
      (pss_cons (ps_set (i := 3) sc_wide_product.nd rfl (Or.inl rfl) (pe_op op_mulB (pe_call (ok_number_from_words T) (hr.mono (by decide)) rfl T.g_number_from_words T.F_number_from_words.kp T.B_number_from_words .nil pass0 (pa_cons (pv 0) pa_nil)) (pe_call (ok_number_from_words T) (hr.mono (by decide)) rfl T.g_number_from_words T.F_number_from_words.kp T.B_number_from_words .nil pass0 (pa_cons (pv 1) pa_nil))))
      (pss_one (ps_ret (pe_op op_cat (pe_lst (pa_cons (pe_gint rfl T.k_DONE) pa_nil)) (pe_call (ok_words_from_number T) (hr.mono (by decide)) rfl T.g_words_from_number T.F_words_from_number.kp T.B_words_from_number .nil pass0 (pa_cons (pv 3) (pa_cons (pe_op op_mulB (pe_int) (pv 2)) pa_nil))))))))), ?_⟩
    have hl := hrow.len
    refine ⟨_, rfl, a, _, rfl, .inl hs, _, rfl, ((x.map V.int).length : Int), rfl, _, rfl, ?_⟩
    unfold wide_ans at q
    rw [List.length_map]
    by_cases h : 1 ≤ x.length
    · rw [if_pos h] at q
      refine notF ⟨by omega, by omega⟩ ⟨_, rfl, a, x, rfl, hs, hrow, _, rfl, a2, y, rfl, hs2, hrow2, _, _, rfl, rfl, ⟨.nat (Kgm.num_row_lt hrow) (by decide), .nat (Kgm.num_row_lt hrow2) (by decide)⟩, line1, fun p hp => ⟨_, rfl, _, rfl, _, _, rfl, rfl, ⟨.nat (x := 2) (k := 2) (by decide) (by decide), .nat (x := x.length) (k := 7) (by omega) (by decide)⟩, num x * num y, 2 * x.length, ?_, by omega, fun p2 hp2 => ?_⟩⟩
      · rw [Int.natCast_mul, Int.natCast_mul]
        rfl
      · obtain ⟨hp20, n2p⟩ := upd_none hp2
        refine ⟨p, p2, _, _, rfl, rfl, by rw [upd_ne (Ne.symm n2p)]; exact upd_same, upd_same, ?_, fun p3 hp3 => ?_⟩
        · rw [List.length_map, Kgm.words_length]
          exact Nat.le_trans (show 1 + 2 * x.length ≤ 129 by omega) (by decide)
        · obtain ⟨hp3', n32⟩ := upd_none hp3
          obtain ⟨hp30, n3p⟩ := upd_none hp3'
          exact q _ p3 ((((Ch.refl [] H).new (.inr hp)).new (.inr hp20)).new (.inr hp30)) hp30 upd_same
    · rw [if_neg h] at q
      exact notT (fun z => h (by omega)) ⟨line1, fun p hp => q _ p ((Ch.refl [] H).new (.inl hp)) hp upd_same⟩
theorem ok_shifted_number (T : Txt K mg t) : FnOk P w K mg base CX0 1 t.f_shifted_number t.d_shifted_number ["number", "by", "bits"] sp_shifted_number := by
  refine T.F_shifted_number.ok sc_shifted_number (fun vs H Q E h => ?_) (fun cdv A outer s H vs Q E hr h => ?_)
  · obtain ⟨_, _, _, rfl, _⟩ := h
    rfl
  · obtain ⟨x, B, t, rfl, hx, hB, q⟩ := h
    refine ⟨_, (pss_cons (ps_if (pt_cmpR op_lt (pv 1) (pe_int) (nomark _)) (pss_one (ps_ret (pe_op op_shr (pv 0) (pe_un un_neg (pv 1))))) (pss_nil))
      (pss_one (ps_ret (pe_op op_shlB (pv 0) (pe_callB (call_min2 rfl) (by rfl) T.b_min boot_min (pa_cons (pv 1) (pa_cons (pv 2) pa_nil))))))), ?_⟩
    refine ⟨_, rfl, _, _, rfl, rfl, _, rfl, ?_⟩
    unfold shf at q
    by_cases h : t < 0
    · rw [if_pos h] at q
      refine ifT (decide_eq_true h) ⟨_, rfl, _, rfl, _, rfl, _, _, rfl, rfl, show 0 ≤ -t by omega, ?_⟩
      rw [Int.natCast_ediv, Int.natCast_pow] at q
      exact q
    · rw [if_neg h] at q
      have e : (if (B : Int) < t then (B : Int) else t).toNat = if B < t.toNat then B else t.toNat := by
        by_cases z : (B : Int) < t
        · rw [if_pos z, if_pos (by omega)]
          rfl
        · rw [if_neg z, if_neg (by omega)]
      have e1 : 0 ≤ (if (B : Int) < t then (B : Int) else t) := by
        by_cases z : (B : Int) < t
        · rw [if_pos z]; omega
        · rw [if_neg z]; omega
      have e2 : (if (B : Int) < t then (B : Int) else t) ≤ 100000 := by
        by_cases z : (B : Int) < t
        · rw [if_pos z]; omega
        · rw [if_neg z]; omega
      refine ifF (decide_eq_false h) ⟨_, rfl, _, rfl, _, rfl, t, B, rfl, _, _, rfl, rfl, ⟨.nat hx (by decide), e1, e2⟩, ?_⟩
      rw [Int.natCast_mul, Int.natCast_pow, ← e] at q
      exact q
theorem ok_shifted_words (T : Txt K mg t) : FnOk P w K mg base CX0 2 t.f_shifted_words t.d_shifted_words ["words", "by"] (sp_shifted_words K) := by
  refine T.F_shifted_words.ok sc_shifted_words (fun vs H Q E h => ?_) (fun cdv A outer s H vs Q E hr h => ?_)
  · obtain ⟨_, _, _, rfl, _⟩ := h
    rfl
  · obtain ⟨a, x, t, rfl, hs, hrow, q⟩ := h
    refine ⟨_, (pss_cons (ps_set (i := 2) sc_shifted_words.nd rfl (Or.inl rfl) (pe_callB call_len_seq (by rfl) T.b_len PySem.boot_len (pa_cons (pv 0) pa_nil)))
      (pss_cons (ps_if (pt_not (pt_val (pe_call (ok_is_length T) (hr.mono (by decide)) rfl T.g_is_length T.F_is_length.kp T.B_is_length .nil pass0 (pa_cons (pv 2) pa_nil)))) (pss_one (ps_ret (pe_lst (pa_cons (pe_gint rfl T.k_REFUSED) pa_nil)))) (pss_nil))
      (pss_cons (ps_set (i := 3) sc_shifted_words.nd rfl (Or.inl rfl) (pe_call (ok_shifted_number T) (hr.mono (by decide)) rfl T.g_shifted_number T.F_shifted_number.kp T.B_shifted_number .nil pass0 (pa_cons (pe_call (ok_number_from_words T) (hr.mono (by decide)) rfl T.g_number_from_words T.F_number_from_words.kp T.B_number_from_words .nil pass0 (pa_cons (pv 0) pa_nil)) (pa_cons (pv 1) (pa_cons (pe_op op_mulB (pe_gint rfl T.k_WORD_BITS) (pv 2)) pa_nil)))))
      (pss_one (ps_ret (pe_op op_cat (pe_lst (pa_cons (pe_gint rfl T.k_DONE) pa_nil)) (pe_call (ok_words_from_number T) (hr.mono (by decide)) rfl T.g_words_from_number T.F_words_from_number.kp T.B_words_from_number .nil pass0 (pa_cons (pv 3) (pa_cons (pv 2) pa_nil))))))))), ?_⟩
    have hl := hrow.len
    refine ⟨_, rfl, a, _, rfl, .inl hs, _, rfl, ((x.map V.int).length : Int), rfl, _, rfl, ?_⟩
    unfold shifted_ans at q
    rw [List.length_map]
    by_cases h : 1 ≤ x.length
    · rw [if_pos h] at q
      refine notF ⟨by omega, by omega⟩ ⟨_, rfl, a, x, rfl, hs, hrow, _, rfl, _, rfl, _, _, rfl, rfl, ⟨.nat (x := 64) (k := 7) (by decide) (by decide), .nat (x := x.length) (k := 7) (by omega) (by decide)⟩, num x, 64 * x.length, t, ?_, Kgm.num_row_lt hrow, by omega, line1, fun p hp => ⟨_, rfl, _, rfl, shf (num x) (64 * x.length) t, x.length, rfl, by omega, fun p2 hp2 => ?_⟩⟩
      · rw [Int.natCast_mul]
        rfl
      · obtain ⟨hp20, n2p⟩ := upd_none hp2
        refine ⟨p, p2, _, _, rfl, rfl, by rw [upd_ne (Ne.symm n2p)]; exact upd_same, upd_same, ?_, fun p3 hp3 => ?_⟩
        · rw [List.length_map, Kgm.words_length]
          exact Nat.le_trans (show 1 + x.length ≤ 129 by omega) (by decide)
        · obtain ⟨hp3', n32⟩ := upd_none hp3
          obtain ⟨hp30, n3p⟩ := upd_none hp3'
          have e : words x.length (shf (num x) (64 * x.length) t) = words x.length (if 0 ≤ t then num x * 2 ^ t.toNat % 2 ^ (64 * x.length) else num x / 2 ^ (-t).toNat) := by
            unfold shf
            by_cases z : t < 0
            · rw [if_pos z, if_neg (show ¬ 0 ≤ t by omega)]
            · rw [if_neg z, if_pos (show 0 ≤ t by omega), Kgm.words_shl]
          rw [← e] at q
          exact q _ p3 ((((Ch.refl [] H).new (.inr hp)).new (.inr hp20)).new (.inr hp30)) hp30 upd_same
    · rw [if_neg h] at q
      exact notT (fun z => h (by omega)) ⟨line1, fun p hp => q _ p ((Ch.refl [] H).new (.inl hp)) hp upd_same⟩
end

/-! ### the bank's other calls -/
/-- a call of two registers -/
def sp_two (C : Addr) (k : Int) : Sp := fun vs H Q _ => ∃ (b dx l : Addr) (s : Abs) (d x : Int), vs = [.ref b, .int d, .int x] ∧ BkAt C H b dx l s ∧ W32 d ∧ W32 x ∧ Good s ∧
  ∀ (H' : Hp) (p : Addr), Did C H H' b l (step s (whole [[k, d, x]])).1 p (step s (whole [[k, d, x]])).2 → Q (.ref p) H'
def sp_Bank_hold_power (K : PySem.W.Frag) (C : Addr) : Sp := fun vs H Q _ => ∃ (b dx l a : Addr) (s : Abs) (d x : Int) (e : List Int), vs = [.ref b, .int d, .int x, .ref a] ∧ BkAt C H b dx l s ∧ SqL K H a (e.map V.int) ∧ Byts e ∧ W32 d ∧ W32 x ∧ Good s ∧
  ∀ (H' : Hp) (p : Addr), Did C H H' b l (step s (whole [[8, d, x], e])).1 p (step s (whole [[8, d, x], e])).2 → Q (.ref p) H'
theorem shl_mod_nat (x k m : Nat) : ((x : Int) * 2 ^ k % (m : Int)).toNat = x * 2 ^ k % m := by
  rw [show (x : Int) * 2 ^ k = ((x * 2 ^ k : Nat) : Int) by rw [Int.natCast_mul, Int.natCast_pow]; rfl, cast_mod]
theorem half_odd {r m : Nat} (h : r % 2 = 1) : (((r : Int) + (m : Int)) / 2 % (m : Int)).toNat = Kg07.half m r % m := by
  unfold Kg07.half
  rw [if_neg (by omega), show ((r : Int) + (m : Int)) / 2 = (((r + m) / 2 : Nat) : Int) by omega, cast_mod]
theorem half_even {r m : Nat} (h : ¬ r % 2 = 1) : ((r : Int) / 2 % (m : Int)).toNat = Kg07.half m r % m := by
  unfold Kg07.half
  rw [if_pos (by omega), show (r : Int) / 2 = ((r / 2 : Nat) : Int) by omega, cast_mod]
theorem Did.pre {C : Addr} {H H1 H' : Hp} {b dx l p : Addr} {s s' : Abs} {ans : List Int} (B : BkAt C H b dx l s) (c : Ch [] H H1) (D : Did C H1 H' b l s' p ans) : Did C H H' b l s' p ans := by
  obtain ⟨⟨dx', l', B', hl'⟩, o, n, ch⟩ := D
  refine ⟨⟨dx', l', B', ?_⟩, o, c.free n (by simp), ?_⟩
  · rcases hl' with e | e
    · exact .inl e
    · exact .inr (c.free e (by simp))
  · exact (c.mono (by simp)).trans ch
section
variable {P : Program} {w : World} {K : PySem.W.Frag} {mg : Str → Option Value} {base : Heap} {t : Adr}
theorem ok_Bank_hold_half (T : Txt K mg t) : FnOk P w K mg base CX0 3 t.f_Bank_hold_half t.d_Bank_hold_half ["self", "target", "source"] (sp_two t.c_Bank 6) := by
  refine T.F_Bank_hold_half.ok sc_Bank_hold_half (fun vs H Q E h => ?_) (fun cdv A outer s H vs Q E hr h => ?_)
  · obtain ⟨_, _, _, _, _, _, rfl, _⟩ := h
    rfl
  · obtain ⟨b, dx, l, s, d, x, rfl, B, hd, hx, g, q⟩ := h
    refine ⟨_, (pss_cons (ps_if (pt_not (pt_val (pe_call (ok_are_two_places T) (hr.mono (by decide)) rfl T.g_are_two_places T.F_are_two_places.kp T.B_are_two_places .nil pass0 (pa_cons (pv 1) (pa_cons (pv 2) pa_nil))))) (pss_one (ps_ret (pe_lst (pa_cons (pe_gint rfl T.k_REFUSED) pa_nil)))) (pss_nil))
      (pss_cons (ps_set (i := 3) sc_Bank_hold_half.nd rfl (Or.inl rfl) (pe_ix ix_list (pe_fld (pv 0) rfl) (pv 2) (fun _ _ => rfl)))
      (pss_cons (ps_if (pt_cmpR op_eq (pe_op op_mod (pv 3) (pe_int)) (pe_int) (nomark _)) (pss_one (ps_set (i := 3) sc_Bank_hold_half.nd rfl (Or.inl rfl) (pe_op op_add (pv 3) (pe_fld (pv 0) rfl)))) (pss_nil))
      (pss_one (ps_ret (pe_meth (pv 0) T.cl_Bank T.m_Bank_hold (ok_Bank_hold T) (hr.mono (by decide)) T.B_Bank_hold .nil pass0 (pa_cons (pv 1) (pa_cons (pe_op op_fdiv (pv 3) (pe_int)) pa_nil)))))))), ?_⟩
    rw [Kgm.step_half s hd hx] at q
    refine ⟨_, rfl, _, rfl, d, x, rfl, _, rfl, ?_⟩
    by_cases h1 : Reg d ∧ Reg x
    · rw [if_pos h1] at q
      have m3 := g.m3
      refine notF h1 ⟨_, rfl, b, _, dx, _, _, rfl, B.ins, T.cl_Bank, T.n_Bank_held, fs_Bank_held _ _ _, _, rfl, l, _, _, _, rfl, rfl, .of B.lst, atI_pos h1.2.1 (rv_at (g.get h1.2)), ?_⟩
      refine ⟨_, rfl, _, _, rfl, rfl, show (0 : Int) < 2 by decide, rfl, _, rfl, ?_⟩
      by_cases h2 : s.reg x.toNat % 2 = 1
      · refine ifT (decide_eq_true (show V.int ((s.reg x.toNat : Int) % 2) = V.int 1 by rw [show (s.reg x.toNat : Int) % 2 = 1 by omega])) ?_
        refine ⟨_, rfl, _, rfl, b, _, dx, _, _, rfl, B.ins, T.cl_Bank, T.n_Bank_modulus, fs_Bank_modulus _ _ _, _, _, rfl, rfl, ?_⟩
        refine ⟨_, rfl, b, dx, _, rfl, B.ins, fs_Bank_no_hold _ _ _, _, rfl, _, rfl, _, _, rfl, rfl, show CDiv _ 2 from ⟨by decide, by decide⟩, b, dx, l, s, d, _, rfl, B, g.len, by omega, h1.1, fun H' p D => q H' p ?_⟩
        rw [half_odd h2] at D
        exact D
      · refine ifF (decide_eq_false (show ¬ V.int ((s.reg x.toNat : Int) % 2) = V.int 1 from fun z => h2 (by have := V.int.inj z; omega))) ?_
        refine ⟨_, rfl, b, dx, _, rfl, B.ins, fs_Bank_no_hold _ _ _, _, rfl, _, rfl, _, _, rfl, rfl, show CDiv _ 2 from ⟨by decide, by decide⟩, b, dx, l, s, d, _, rfl, B, g.len, by omega, h1.1, fun H' p D => q H' p ?_⟩
        rw [half_even h2] at D
        exact D
    · rw [if_neg h1] at q
      exact notT h1 ⟨line1, fun p hp => q _ p (Did.answer (ans := [-1]) B hp)⟩
theorem ok_Bank_hold_doubled (T : Txt K mg t) : FnOk P w K mg base CX0 3 t.f_Bank_hold_doubled t.d_Bank_hold_doubled ["self", "target", "source", "times"] (sp_three t.c_Bank 7) := by
  refine T.F_Bank_hold_doubled.ok sc_Bank_hold_doubled (fun vs H Q E h => ?_) (fun cdv A outer s H vs Q E hr h => ?_)
  · obtain ⟨_, _, _, _, _, _, _, rfl, _⟩ := h
    rfl
  · obtain ⟨b, dx, l, s, d, x, y, rfl, B, hd, hx, hy, g, q⟩ := h
    refine ⟨_, (pss_cons (ps_if (PW.pt (pw_or (pt_not (pt_val (pe_call (ok_are_two_places T) (hr.mono (by decide)) rfl T.g_are_two_places T.F_are_two_places.kp T.B_are_two_places .nil pass0 (pa_cons (pv 1) (pa_cons (pv 2) pa_nil))))) (pw_or1 (pt_not (pt_chain op_le op_le (pe_int) (pv 3) (pe_gint rfl T.k_MOST_TIMES)))))) (pss_one (ps_ret (pe_lst (pa_cons (pe_gint rfl T.k_REFUSED) pa_nil)))) (pss_nil))
      (pss_one (ps_ret (pe_meth (pv 0) T.cl_Bank T.m_Bank_hold (ok_Bank_hold T) (hr.mono (by decide)) T.B_Bank_hold .nil pass0 (pa_cons (pv 1) (pa_cons (pe_op op_shlB (pe_ix ix_list (pe_fld (pv 0) rfl) (pv 2) (fun _ _ => rfl)) (pv 3)) pa_nil)))))), ?_⟩
    simp only [tSeq, tNext, tRet, tRetN, tDrop, tIfS, tAsg, gName, tVar, tC, tOp, tUn, rI, rI0, rU, rEq, rNe, tTest, tB, tNot, tAnd, tOr, tAndV, tOrV, tNotV, tChain, tIf, tFld, sFld, tCall, tMeth, tMake, tCons, tNil, tLst, tTup, tBM, tBM0, rIxL, gSub, rSetL, tSl, tPart, tNoPart, rSlL, L2.start, cxOf, Nat.reduceSub, Nat.reduceAdd, List.replicate_succ, List.replicate_zero, List.append_nil, List.cons.injEq, and_true, true_and, exists_eq, decide_eq_true_eq, if_true, if_false, reduceCtorEq, Bool.not_eq_true', decide_eq_false_iff_not, Bool.false_eq_true, List.map_cons, List.map_nil, List.length_cons, List.length_nil, List.cons_append, List.nil_append, List.getElem?_cons_zero, List.getElem?_cons_succ, List.set_cons_zero, List.set_cons_succ, Option.some.injEq, V.int.injEq, V.ref.injEq, V.bl.injEq, exists_eq_left', exists_eq_left, exists_and_left, and_assoc, Int.natCast_inj, HO.ins.injEq, HO.lst.injEq, tCB, Nat.reduceLT, upd_same, upd_upd, scal, B.ins, B.lst, T.cl_Bank, T.n_Bank_modulus, T.n_Bank_length, T.n_Bank_held, fs_Bank_modulus, fs_Bank_length, fs_Bank_held, fs_Bank_put_modulus, fs_Bank_put_length, fs_Bank_put_held, fs_Bank_no_begin, fs_Bank_no_put_words, fs_Bank_no_get_words, fs_Bank_no_hold_sum, fs_Bank_no_hold_difference, fs_Bank_no_hold_product, fs_Bank_no_hold_half, fs_Bank_no_hold_doubled, fs_Bank_no_hold_power, fs_Bank_no_order, fs_Bank_no_hold, fs_Bank_len, fs_Bank_inj, fs_Bank_new0, fs_Bank_new1, fs_Bank_new2, sp_are_two_places, sp_Bank_hold]
    rw [Kgm.step_doubled s hd hx hy] at q
    by_cases h1 : Reg d ∧ Reg x
    · rw [if_neg (fun z => z h1)]
      by_cases h2 : 0 ≤ y ∧ y ≤ 4096
      · rw [if_pos h2.1, if_neg (fun z => z h2.2)]
        rw [if_pos ⟨h2, h1⟩] at q
        have m3 := g.m3
        refine ⟨_, .of B.lst, _, atI_pos h1.2.1 (rv_at (g.get h1.2)), _, rfl, .nat (g.reg_lt _) (by decide), h2.1, by omega, dx, l, s, B, g.len, by omega, h1.1, fun H' p D => q H' p ?_⟩
        rw [shl_mod_nat] at D
        exact D
      · rw [if_neg (fun z => h2 z.1)] at q
        by_cases h3 : 0 ≤ y
        · rw [if_pos h3, if_pos (fun z => h2 ⟨h3, z⟩)]
          exact ⟨line1, fun p hp => q _ p (Did.answer (ans := [-1]) B hp)⟩
        · rw [if_neg h3]
          exact ⟨line1, fun p hp => q _ p (Did.answer (ans := [-1]) B hp)⟩
    · rw [if_pos h1]
      rw [if_neg (fun z => h1 z.2)] at q
      exact ⟨line1, fun p hp => q _ p (Did.answer (ans := [-1]) B hp)⟩
theorem ok_Bank_hold_power (T : Txt K mg t) : FnOk P w K mg base CX0 3 t.f_Bank_hold_power t.d_Bank_hold_power ["self", "target", "source", "exponent"] (sp_Bank_hold_power K t.c_Bank) := by
  refine T.F_Bank_hold_power.ok sc_Bank_hold_power (fun vs H Q E h => ?_) (fun cdv A outer s H vs Q E hr h => ?_)
  · obtain ⟨_, _, _, _, _, _, _, _, rfl, _⟩ := h
    rfl
  · obtain ⟨b, dx, l, a, s, d, x, e, rfl, B, hs, hby, hd, hx, g, q⟩ := h
    refine ⟨_, (pss_cons (ps_if (PW.pt (pw_or (pt_not (pt_val (pe_call (ok_are_two_places T) (hr.mono (by decide)) rfl T.g_are_two_places T.F_are_two_places.kp T.B_are_two_places .nil pass0 (pa_cons (pv 1) (pa_cons (pv 2) pa_nil))))) (pw_or1 (pt_cmpR op_gt (pe_callB call_len_seq (by rfl) T.b_len PySem.boot_len (pa_cons (pv 3) pa_nil)) (pe_gint rfl T.k_MOST_BYTES) (nomark _))))) (pss_one (ps_ret (pe_lst (pa_cons (pe_gint rfl T.k_REFUSED) pa_nil)))) (pss_nil))
      (pss_one (ps_ret (pe_meth (pv 0) T.cl_Bank T.m_Bank_hold (ok_Bank_hold T) (hr.mono (by decide)) T.B_Bank_hold .nil pass0 (pa_cons (pv 1) (pa_cons (pe_call (ok_power_modulo T) (hr.mono (by decide)) rfl T.g_power_modulo T.F_power_modulo.kp T.B_power_modulo .nil pass0 (pa_cons (pe_ix ix_list (pe_fld (pv 0) rfl) (pv 2) (fun _ _ => rfl)) (pa_cons (pv 3) (pa_cons (pe_fld (pv 0) rfl) pa_nil)))) pa_nil)))))), ?_⟩
    simp only [tSeq, tNext, tRet, tRetN, tDrop, tIfS, tAsg, gName, tVar, tC, tOp, tUn, rI, rI0, rU, rEq, rNe, tTest, tB, tNot, tAnd, tOr, tAndV, tOrV, tNotV, tChain, tIf, tFld, sFld, tCall, tMeth, tMake, tCons, tNil, tLst, tTup, tBM, tBM0, rIxL, gSub, rSetL, tSl, tPart, tNoPart, rSlL, L2.start, cxOf, Nat.reduceSub, Nat.reduceAdd, List.replicate_succ, List.replicate_zero, List.append_nil, List.cons.injEq, and_true, true_and, exists_eq, decide_eq_true_eq, if_true, if_false, reduceCtorEq, Bool.not_eq_true', decide_eq_false_iff_not, Bool.false_eq_true, List.map_cons, List.map_nil, List.length_cons, List.length_nil, List.cons_append, List.nil_append, List.getElem?_cons_zero, List.getElem?_cons_succ, List.set_cons_zero, List.set_cons_succ, Option.some.injEq, V.int.injEq, V.ref.injEq, V.bl.injEq, exists_eq_left', exists_eq_left, exists_and_left, and_assoc, Int.natCast_inj, HO.ins.injEq, HO.lst.injEq, tCB, Nat.reduceLT, upd_same, upd_upd, scal, B.ins, B.lst, T.cl_Bank, T.n_Bank_modulus, T.n_Bank_length, T.n_Bank_held, fs_Bank_modulus, fs_Bank_length, fs_Bank_held, fs_Bank_put_modulus, fs_Bank_put_length, fs_Bank_put_held, fs_Bank_no_begin, fs_Bank_no_put_words, fs_Bank_no_get_words, fs_Bank_no_hold_sum, fs_Bank_no_hold_difference, fs_Bank_no_hold_product, fs_Bank_no_hold_half, fs_Bank_no_hold_doubled, fs_Bank_no_hold_power, fs_Bank_no_order, fs_Bank_no_hold, fs_Bank_len, fs_Bank_inj, fs_Bank_new0, fs_Bank_new1, fs_Bank_new2, sp_are_two_places, sp_Bank_hold, sp_power_modulo]
    rw [Kgm.step_power s hd hx hby] at q
    have hl := hby.len
    by_cases h1 : Reg d ∧ Reg x
    · rw [if_neg (fun z => z h1)]
      rw [if_pos h1] at q
      have m3 := g.m3
      refine ⟨_, .inl hs, ?_⟩
      rw [List.length_map, if_neg (by omega)]
      refine ⟨_, .of B.lst, _, atI_pos h1.2.1 (rv_at (g.get h1.2)), a, s.reg x.toNat, rfl, rfl, e, hs, hby, by omega, g.mlt2, g.reg_lt _, fun H1 y c ey => ⟨dx, l, s, B.ch c (by simp) (by simp), g.len, by omega, h1.1, fun H' p D => q H' p (Did.pre B c ?_)⟩⟩
      rw [cast_mod, ey] at D
      exact D
    · rw [if_pos h1]
      rw [if_neg h1] at q
      exact ⟨line1, fun p hp => q _ p (Did.answer (ans := [-1]) B hp)⟩
theorem ok_Bank_order (T : Txt K mg t) : FnOk P w K mg base CX0 3 t.f_Bank_order t.d_Bank_order ["self", "left", "right"] (sp_two t.c_Bank 10) := by
  refine T.F_Bank_order.ok sc_Bank_order (fun vs H Q E h => ?_) (fun cdv A outer s H vs Q E hr h => ?_)
  · obtain ⟨_, _, _, _, _, _, rfl, _⟩ := h
    rfl
  · obtain ⟨b, dx, l, s, d, x, rfl, B, hd, hx, g, q⟩ := h
    refine ⟨_, (pss_cons (ps_if (pt_not (pt_val (pe_call (ok_are_two_places T) (hr.mono (by decide)) rfl T.g_are_two_places T.F_are_two_places.kp T.B_are_two_places .nil pass0 (pa_cons (pv 1) (pa_cons (pv 2) pa_nil))))) (pss_one (ps_ret (pe_lst (pa_cons (pe_gint rfl T.k_NO_ORDER) pa_nil)))) (pss_nil))
      (pss_cons (ps_if (pt_cmpR op_lt (pe_ix ix_list (pe_fld (pv 0) rfl) (pv 1) (fun _ _ => rfl)) (pe_ix ix_list (pe_fld (pv 0) rfl) (pv 2) (fun _ _ => rfl)) (nomark _)) (pss_one (ps_ret (pe_lst (pa_cons (pe_gint rfl T.k_BELOW) pa_nil)))) (pss_nil))
      (pss_cons (ps_if (pt_cmpR op_gt (pe_ix ix_list (pe_fld (pv 0) rfl) (pv 1) (fun _ _ => rfl)) (pe_ix ix_list (pe_fld (pv 0) rfl) (pv 2) (fun _ _ => rfl)) (nomark _)) (pss_one (ps_ret (pe_lst (pa_cons (pe_gint rfl T.k_ABOVE) pa_nil)))) (pss_nil))
      (pss_one (ps_ret (pe_lst (pa_cons (pe_gint rfl T.k_LEVEL) pa_nil))))))), ?_⟩
    rw [Kgm.step_order s hd hx] at q
    refine ⟨_, rfl, _, rfl, d, x, rfl, _, rfl, ?_⟩
    by_cases h1 : Reg d ∧ Reg x
    · rw [if_pos h1] at q
      have a1 := atI_pos h1.1.1 (rv_at (g.get h1.1))
      have a2 := atI_pos h1.2.1 (rv_at (g.get h1.2))
      refine notF h1 ⟨_, rfl, b, _, dx, _, _, rfl, B.ins, T.cl_Bank, T.n_Bank_held, fs_Bank_held _ _ _, _, rfl, l, _, _, _, rfl, rfl, .of B.lst, a1, _, rfl, b, _, dx, _, _, rfl, B.ins, T.cl_Bank, T.n_Bank_held, fs_Bank_held _ _ _, _, rfl, l, _, _, _, rfl, rfl, .of B.lst, a2, _, _, rfl, rfl, _, rfl, ?_⟩
      by_cases h2 : s.reg d.toNat < s.reg x.toNat
      · rw [if_pos h2] at q
        exact ifT (decide_eq_true (Int.ofNat_lt.mpr h2)) ⟨line1, fun p hp => q _ p (Did.answer (ans := [-1]) B hp)⟩
      · rw [if_neg h2] at q
        refine ifF (decide_eq_false (fun z => h2 (Int.ofNat_lt.mp z))) ⟨_, rfl, b, _, dx, _, _, rfl, B.ins, T.cl_Bank, T.n_Bank_held, fs_Bank_held _ _ _, _, rfl, l, _, _, _, rfl, rfl, .of B.lst, a1, _, rfl, b, _, dx, _, _, rfl, B.ins, T.cl_Bank, T.n_Bank_held, fs_Bank_held _ _ _, _, rfl, l, _, _, _, rfl, rfl, .of B.lst, a2, _, _, rfl, rfl, _, rfl, ?_⟩
        by_cases h3 : s.reg d.toNat = s.reg x.toNat
        · rw [if_pos h3] at q
          exact ifF (decide_eq_false (show ¬ (s.reg d.toNat : Int) > (s.reg x.toNat : Int) by omega)) ⟨line1, fun p hp => q _ p (Did.answer (ans := [0]) B hp)⟩
        · rw [if_neg h3] at q
          exact ifT (decide_eq_true (show (s.reg d.toNat : Int) > (s.reg x.toNat : Int) by omega)) ⟨line1, fun p hp => q _ p (Did.answer (ans := [1]) B hp)⟩
    · rw [if_neg h1] at q
      exact notT h1 ⟨line1, fun p hp => q _ p (Did.answer (ans := [-2]) B hp)⟩
end
end Odd

set_option Elab.async false
set_option linter.all false
set_option maxRecDepth 100000
set_option maxHeartbeats 2000000
namespace Odd
open PySem PySem.Spec PyProof.Rows L2
open Kgm (Reg Row Wd num words W32 Bt Byts Good bnum Form)
open Kg07 (Abs)
open Kg07Neutral (step)
open PyKg07 (whole)

/-! ### bank and reader side by side -/
theorem bank_ne_reader {CB CR : Addr} {H : Hp} {b dx l r dr a : Addr} {s : Abs} {p : Nat} (B : BkAt CB H b dx l s) (R : RdAt CR H r dr a p) : b ≠ r := by
  unfold RdAt at R
  refine ne_of B.ins R ?_
  intro e
  injection e with e1 e2 e3
  have e4 := congrArg List.length e3
  rw [fs_Bank_len, fs_Reader_len] at e4
  exact absurd e4 (by decide)
theorem held_ne_reader {CB CR : Addr} {H : Hp} {b dx l r dr a : Addr} {s : Abs} {p : Nat} (B : BkAt CB H b dx l s) (R : RdAt CR H r dr a p) : l ≠ r := by
  unfold RdAt at R
  exact ne_of B.lst R (by intro e; cases e)
theorem RdAt.free {CR : Addr} {H : Hp} {r dr a q : Addr} {p : Nat} (R : RdAt CR H r dr a p) (n : H q = none) : q ≠ r := fun e => by
  unfold RdAt at R
  rw [e, R] at n
  cases n
theorem RdAt.nofrz {CR : Addr} {H : Hp} {r dr a : Addr} {p : Nat} (R : RdAt CR H r dr a p) : ∀ x ∈ [r], ∀ ob u, H x ≠ some (.frz ob u) := fun x hx ob u e => by
  unfold RdAt at R
  rw [List.mem_singleton] at hx
  subst hx
  rw [R] at e
  cases e
theorem RdAt.up {CR : Addr} {H : Hp} {r dr a q : Addr} {p : Nat} {o : HO} (R : RdAt CR H r dr a p) (n : H q = none) : RdAt CR (upd H q o) r dr a p := by
  unfold RdAt at R ⊢
  rw [upd_ne (ne_of_none R n)]
  exact R
def After (CB CR : Addr) (K : PySem.W.Frag) (H : Hp) (b r a l : Addr) (ns : List Int) (s' : Abs) (p' : Nat) (ans : List Int) (Q : VK) : Prop :=
  ∀ (H' : Hp) (q l' dx dr : Addr), BkAt CB H' b dx l' s' → (l' = l ∨ H l' = none) → RdAt CR H' r dr a p' → Req K H' a ns → H' q = some (.lst (ans.map V.int)) → H q = none → Ch [b, l, r] H H' → Q (.ref q) H'
theorem After.pre {CB CR : Addr} {K : PySem.W.Frag} {H H1 : Hp} {b r a l : Addr} {ns : List Int} {s' : Abs} {p' : Nat} {ans : List Int} {Q : VK} {o : HO} (A : After CB CR K H b r a l ns s' p' ans Q) (c : Ch [r] H H1) (hr : H1 r = some o) :
    After CB CR K H1 b r a l ns s' p' ans Q := by
  intro H' q l' dx dr B hl R rq hq hn ch
  have fr : ∀ x, H1 x = none → H x = none := fun x hx => c.free hx (by
    intro m
    rw [List.mem_singleton] at m
    subst m
    rw [hr] at hx
    cases hx)
  exact A H' q l' dx dr B (hl.imp id (fr _)) R rq hq (fr _ hn) ((c.mono (by simp)).trans ch)
theorem After.did {CB CR : Addr} {K : PySem.W.Frag} {H H' : Hp} {b r a l dx dr q : Addr} {ns : List Int} {s s' : Abs} {p' : Nat} {ans : List Int} {Q : VK} (A : After CB CR K H b r a l ns s' p' ans Q) (B : BkAt CB H b dx l s) (R : RdAt CR H r dr a p')
    (rq : Req K H a ns) (D : Did CB H H' b l s' q ans) : Q (.ref q) H' := by
  obtain ⟨⟨dx', l', B', hl'⟩, o, n, ch⟩ := D
  have n1 := bank_ne_reader B R
  have n2 := held_ne_reader B R
  refine A H' q l' dx' dr B' hl' ?_ ?_ o n (ch.mono (by simp))
  · unfold RdAt at R ⊢
    exact ch r _ R (by simp [Ne.symm n1, Ne.symm n2])
  · refine rq.ch ch ?_
    intro x hx ob u e
    simp only [List.mem_cons, List.not_mem_nil, or_false] at hx
    rcases hx with rfl | rfl
    · rw [B.ins] at e; cases e
    · rw [B.lst] at e; cases e
/-- the state behind a read: the reader at p', new objects beside it -/
structure Mid (CR : Addr) (K : PySem.W.Frag) (H H1 : Hp) (r dr a : Addr) (ns : List Int) (p : Nat) : Prop where
  rd : RdAt CR H1 r dr a p
  rq : Req K H1 a ns
  ch : Ch [r] H H1
section
variable {CB CR : Addr} {K : PySem.W.Frag} {H H1 H' : Hp} {b r a l dx dr q y : Addr} {ns : List Int} {s s' : Abs} {p0 p p' : Nat} {ans : List Int} {Q : VK} {o : HO}
theorem Mid.refl (R : RdAt CR H r dr a p) (rq : Req K H a ns) : Mid CR K H H r dr a ns p := ⟨R, rq, Ch.refl _ _⟩
theorem Mid.step (M : Mid CR K H H1 r dr a ns p) : Mid CR K H (upd H1 r (.ins CR dr (fs_Reader (.ref a) (.int ((p' : Nat) : Int))))) r dr a ns p' :=
  ⟨upd_same, M.rq.upd (M.rd.nofrz r (by simp)), M.ch.at_ (by simp)⟩
theorem Mid.new (M : Mid CR K H H1 r dr a ns p) (hy : H1 y = none) : Mid CR K H (upd H1 y o) r dr a ns p :=
  ⟨M.rd.up hy, M.rq.ch ((Ch.refl [] H1).new (.inl hy)) (by simp), M.ch.new (.inl hy)⟩
theorem Mid.row (M : Mid CR K H H1 r dr a ns p) (hy : H1 y = none) (ny : y ≠ r) : Mid CR K H (upd (upd H1 r (.ins CR dr (fs_Reader (.ref a) (.int ((p' : Nat) : Int))))) y o) r dr a ns p' :=
  M.step.new (by rw [upd_ne ny]; exact hy)
theorem Mid.bank (M : Mid CR K H H1 r dr a ns p) (B : BkAt CB H b dx l s) (R : RdAt CR H r dr a p0) : BkAt CB H1 b dx l s :=
  B.ch M.ch (by simp [bank_ne_reader B R]) (by simp [held_ne_reader B R])
theorem After.mid (A : After CB CR K H b r a l ns s' p' ans Q) (M : Mid CR K H H1 r dr a ns p') (B : BkAt CB H b dx l s) (R : RdAt CR H r dr a p0) (D : Did CB H1 H' b l s' q ans) : Q (.ref q) H' :=
  (A.pre M.ch M.rd).did (M.bank B R) M.rd M.rq D
end
theorem eqT {i : Int} : decide (V.int i = V.int i) = true := decide_eq_true rfl
theorem eqF {i j : Int} (h : ¬ i = j) : decide (V.int i = V.int j) = false := decide_eq_false fun e => h (V.int.inj e)
def sp_disp (K : PySem.W.Frag) (CB CR : Addr) (ks : List Int) : Sp := fun vs H Q _ => ∃ (b dx l r dr a : Addr) (s : Abs) (p : Nat) (ns : List Int) (k : Int) (c : List (List Int)) (rest : List Int), vs = [.ref b, .int k, .ref r] ∧ BkAt CB H b dx l s ∧ RdAt CR H r dr a p ∧ Req K H a ns ∧ Form c ∧ (Good s ∨ k = 0) ∧ k ∈ ks ∧
  k :: ns.drop p = PyFlat.put1 c ++ rest ∧ After CB CR K H b r a l ns (step s (whole c)).1 (p + (PyFlat.put1 c).length - 1) (step s (whole c)).2 Q
def sp_answer_of_whole (K : PySem.W.Frag) (CR : Addr) : Sp := fun vs H Q _ => ∃ (r dr a : Addr) (s : Abs) (p : Nat) (ns : List Int) (k : Int) (c : List (List Int)) (rest : List Int), vs = [.int k, .ref r] ∧ RdAt CR H r dr a p ∧ Req K H a ns ∧ Form c ∧ k ∈ ([11, 12] : List Int) ∧
  k :: ns.drop p = PyFlat.put1 c ++ rest ∧ ∀ (H' : Hp) (q : Addr), RdAt CR H' r dr a (p + (PyFlat.put1 c).length - 1) → Ch [r] H H' → H' q = some (.lst ((step s (whole c)).2.map V.int)) → H q = none → Q (.ref q) H'
def sp_answer_next (K : PySem.W.Frag) (CB CR : Addr) : Sp := fun vs H Q _ => ∃ (b dx l r dr a : Addr) (s : Abs) (p : Nat) (ns : List Int) (c : List (List Int)) (rest : List Int), vs = [.ref b, .ref r] ∧ BkAt CB H b dx l s ∧ RdAt CR H r dr a p ∧ Req K H a ns ∧ Form c ∧ (Good s ∨ ∃ m, c = [[0], m]) ∧
  ns.drop p = PyFlat.put1 c ++ rest ∧ After CB CR K H b r a l ns (step s (whole c)).1 (p + (PyFlat.put1 c).length) (step s (whole c)).2 Q
theorem in_yes {k : Int} {l : List Int} (h : k ∈ l) : inV (.int k) (l.map V.int) = true := by
  unfold inV
  rw [List.any_eq_true]
  exact ⟨.int k, List.mem_map_of_mem h, by unfold eqV; exact beq_self_eq_true k⟩
theorem in_no {k : Int} {l : List Int} (h : k ∉ l) : inV (.int k) (l.map V.int) = false := by
  unfold inV
  rw [List.any_eq_false]
  intro y hy e
  obtain ⟨z, hz, rfl⟩ := List.mem_map.mp hy
  unfold eqV at e
  have e2 : z = k := by simpa using e
  subst e2
  exact h hz
section
variable {P : Program} {w : World} {K : PySem.W.Frag} {mg : Str → Option Value} {base : Heap} {t : Adr}
theorem ok_answer_of_words (T : Txt K mg t) : FnOk P w K mg base CX0 3 t.f_answer_of_words t.d_answer_of_words ["bank", "call", "reader"] (sp_disp K t.c_Bank t.c_Reader [0, 1, 2]) := by
  refine T.F_answer_of_words.ok sc_answer_of_words (fun vs H Q E h => ?_) (fun cdv A outer s H vs Q E hr h => ?_)
  · obtain ⟨_, _, _, _, _, _, _, _, _, _, _, _, rfl, _⟩ := h
    rfl
  · obtain ⟨b, dx, l, r, dr, a, s, p, ns, k, c, rest, rfl, B, R, rq, hf, g, hk, hns, q⟩ := h
    refine ⟨_, (pss_cons (ps_if (pt_cmpR op_eq (pv 1) (pe_gint rfl T.k_BEGIN) (nomark _)) (pss_one (ps_ret (pe_meth (pv 0) T.cl_Bank T.m_Bank_begin (ok_Bank_begin T) (hr.mono (by decide)) T.B_Bank_begin .nil pass0 (pa_cons (pe_meth0 (pv 2) T.cl_Reader T.m_Reader_take_row (ok_Reader_take_row T) (hr.mono (by decide)) T.B_Reader_take_row .nil pass0) pa_nil)))) (pss_nil))
      (pss_cons (ps_set (i := 3) sc_answer_of_words.nd rfl (Or.inl rfl) (pe_meth0 (pv 2) T.cl_Reader T.m_Reader_take (ok_Reader_take T) (hr.mono (by decide)) T.B_Reader_take .nil pass0))
      (pss_cons (ps_if (pt_cmpR op_eq (pv 1) (pe_gint rfl T.k_PUT) (nomark _)) (pss_one (ps_ret (pe_meth (pv 0) T.cl_Bank T.m_Bank_put_words (ok_Bank_put_words T) (hr.mono (by decide)) T.B_Bank_put_words .nil pass0 (pa_cons (pv 3) (pa_cons (pe_meth0 (pv 2) T.cl_Reader T.m_Reader_take_row (ok_Reader_take_row T) (hr.mono (by decide)) T.B_Reader_take_row .nil pass0) pa_nil))))) (pss_nil))
      (pss_one (ps_ret (pe_meth (pv 0) T.cl_Bank T.m_Bank_get_words (ok_Bank_get_words T) (hr.mono (by decide)) T.B_Bank_get_words .nil pass0 (pa_cons (pv 3) (pa_cons (pe_meth0 (pv 2) T.cl_Reader T.m_Reader_take (ok_Reader_take T) (hr.mono (by decide)) T.B_Reader_take .nil pass0) pa_nil)))))))), ?_⟩
    have M0 := Mid.refl R rq
    rcases Kgm.form_words hf hk hns with ⟨m, hrow, rfl, rfl, hd⟩ | ⟨rr, x, h1, hrow, rfl, rfl, hd⟩ | ⟨rr, n, h1, h2, rfl, rfl, hd⟩
    · rw [Kgm.len_row, show p + (([0] : List Int).length + m.length + 1) - 1 = p + 1 + m.length by simp; omega] at q
      refine ⟨_, rfl, rfl, _, rfl, ifT eqT ⟨_, rfl, b, dx, _, rfl, B.ins, fs_Bank_no_begin _ _ _, _, rfl, r, dr, _, rfl, R, fs_Reader_no_take_row _ _, r, dr, a, p, ns, m, rest, rfl, R, rq, hd, fun y hy ny => ?_⟩⟩
      have M1 := M0.row (p' := p + 1 + m.length) (o := .lst (m.map V.int)) hy ny
      have nb : y ≠ b := fun e => by
        rw [e, B.ins] at hy
        cases hy
      exact ⟨b, dx, l, y, s, m, rfl, nb, M1.bank B R, .of upd_same, hrow, fun H' p D => q.mid M1 B R D⟩
    · have g : Good s := g.resolve_right (by decide)
      rw [Kgm.len_row, show p + (([1, rr] : List Int).length + x.length + 1) - 1 = p + 1 + 1 + x.length by simp; omega] at q
      obtain ⟨hd1, hd2⟩ := drop_cons hd
      refine ⟨_, rfl, rfl, _, rfl, ifF (eqF (by decide)) ⟨_, rfl, r, dr, _, rfl, R, fs_Reader_no_take _ _, r, dr, a, p, ns, rr, rfl, R, rq, hd1, ?_⟩⟩
      have M1 := M0.step (p' := p + 1)
      refine ⟨_, rfl, rfl, _, rfl, ifT eqT ⟨_, rfl, b, dx, _, rfl, (M1.bank B R).ins, fs_Bank_no_put_words _ _ _, _, rfl, _, rfl, r, dr, _, rfl, M1.rd, fs_Reader_no_take_row _ _, r, dr, a, p + 1, ns, x, rest, rfl, M1.rd, M1.rq, hd2, fun y hy ny => ?_⟩⟩
      have M2 := M1.row (p' := p + 1 + 1 + x.length) (o := .lst (x.map V.int)) hy ny
      exact ⟨b, dx, l, y, s, rr, x, rfl, M2.bank B R, .of upd_same, hrow, h1, g, fun H' p D => q.mid M2 B R D⟩
    · have g : Good s := g.resolve_right (by decide)
      rw [Kgm.len_none, show p + ([2, rr, n] : List Int).length - 1 = p + 1 + 1 by simp] at q
      obtain ⟨hd1, hd2⟩ := drop_cons hd
      obtain ⟨hd3, hd4⟩ := drop_cons hd2
      refine ⟨_, rfl, rfl, _, rfl, ifF (eqF (by decide)) ⟨_, rfl, r, dr, _, rfl, R, fs_Reader_no_take _ _, r, dr, a, p, ns, rr, rfl, R, rq, hd1, ?_⟩⟩
      have M1 := M0.step (p' := p + 1)
      refine ⟨_, rfl, rfl, _, rfl, ifF (eqF (by decide)) ⟨_, rfl, b, dx, _, rfl, (M1.bank B R).ins, fs_Bank_no_get_words _ _ _, _, rfl, _, rfl, r, dr, _, rfl, M1.rd, fs_Reader_no_take _ _, r, dr, a, p + 1, ns, n, rfl, M1.rd, M1.rq, hd3, ?_⟩⟩
      have M2 := M1.step (p' := p + 1 + 1)
      exact ⟨b, dx, l, s, rr, n, rfl, M2.bank B R, h1, h2, g, fun H' p D => q.mid M2 B R D⟩
theorem ok_answer_of_three (T : Txt K mg t) : FnOk P w K mg base CX0 5 t.f_answer_of_three t.d_answer_of_three ["bank", "call", "reader"] (sp_disp K t.c_Bank t.c_Reader [3, 4, 5]) := by
  refine T.F_answer_of_three.ok sc_answer_of_three (fun vs H Q E h => ?_) (fun cdv A outer s H vs Q E hr h => ?_)
  · obtain ⟨_, _, _, _, _, _, _, _, _, _, _, _, rfl, _⟩ := h
    rfl
  · obtain ⟨b, dx, l, r, dr, a, s, p, ns, k, c, rest, rfl, B, R, rq, hf, g, hk, hns, q⟩ := h
    refine ⟨_, (pss_cons (ps_set (i := 3) sc_answer_of_three.nd rfl (Or.inl rfl) (pe_meth0 (pv 2) T.cl_Reader T.m_Reader_take (ok_Reader_take T) (hr.mono (by decide)) T.B_Reader_take .nil pass0))
      (pss_cons (ps_set (i := 4) sc_answer_of_three.nd rfl (Or.inl rfl) (pe_meth0 (pv 2) T.cl_Reader T.m_Reader_take (ok_Reader_take T) (hr.mono (by decide)) T.B_Reader_take .nil pass0))
      (pss_cons (ps_set (i := 5) sc_answer_of_three.nd rfl (Or.inl rfl) (pe_meth0 (pv 2) T.cl_Reader T.m_Reader_take (ok_Reader_take T) (hr.mono (by decide)) T.B_Reader_take .nil pass0))
      (pss_cons (ps_if (pt_cmpR op_eq (pv 1) (pe_gint rfl T.k_SUM_OF) (nomark _)) (pss_one (ps_ret (pe_meth (pv 0) T.cl_Bank T.m_Bank_hold_sum (ok_Bank_hold_sum T) (hr.mono (by decide)) T.B_Bank_hold_sum .nil pass0 (pa_cons (pv 3) (pa_cons (pv 4) (pa_cons (pv 5) pa_nil)))))) (pss_nil))
      (pss_cons (ps_if (pt_cmpR op_eq (pv 1) (pe_gint rfl T.k_DIFFERENCE) (nomark _)) (pss_one (ps_ret (pe_meth (pv 0) T.cl_Bank T.m_Bank_hold_difference (ok_Bank_hold_difference T) (hr.mono (by decide)) T.B_Bank_hold_difference .nil pass0 (pa_cons (pv 3) (pa_cons (pv 4) (pa_cons (pv 5) pa_nil)))))) (pss_nil))
      (pss_one (ps_ret (pe_meth (pv 0) T.cl_Bank T.m_Bank_hold_product (ok_Bank_hold_product T) (hr.mono (by decide)) T.B_Bank_hold_product .nil pass0 (pa_cons (pv 3) (pa_cons (pv 4) (pa_cons (pv 5) pa_nil))))))))))), ?_⟩
    have M0 := Mid.refl R rq
    obtain ⟨d, x, y, h1, h2, h3, rfl, hd⟩ := Kgm.form_three hf hk hns
    have g3 : Good s := g.resolve_right fun z => by rw [z] at hk; exact absurd hk (by decide)
    rw [Kgm.len_none, show p + ([k, d, x, y] : List Int).length - 1 = p + 1 + 1 + 1 by simp] at q
    obtain ⟨hd1, hd2⟩ := drop_cons hd
    obtain ⟨hd3, hd4⟩ := drop_cons hd2
    obtain ⟨hd5, hd6⟩ := drop_cons hd4
    refine ⟨_, rfl, r, dr, _, rfl, R, fs_Reader_no_take _ _, r, dr, a, p, ns, d, rfl, R, rq, hd1, ?_⟩
    have M1 := M0.step (p' := p + 1)
    refine ⟨_, rfl, r, dr, _, rfl, M1.rd, fs_Reader_no_take _ _, r, dr, a, p + 1, ns, x, rfl, M1.rd, M1.rq, hd3, ?_⟩
    have M2 := M1.step (p' := p + 1 + 1)
    refine ⟨_, rfl, r, dr, _, rfl, M2.rd, fs_Reader_no_take _ _, r, dr, a, p + 1 + 1, ns, y, rfl, M2.rd, M2.rq, hd5, ?_⟩
    have M3 := M2.step (p' := p + 1 + 1 + 1)
    have B3 := M3.bank B R
    simp only [List.mem_cons, List.not_mem_nil, or_false] at hk
    rcases hk with rfl | rfl | rfl
    · exact ⟨_, rfl, rfl, _, rfl, ifT eqT ⟨_, rfl, b, dx, _, rfl, B3.ins, fs_Bank_no_hold_sum _ _ _, _, rfl, _, rfl, _, rfl, b, dx, l, s, d, x, y, rfl, B3, h1, h2, h3, g3, fun H' p D => q.mid M3 B R D⟩⟩
    · exact ⟨_, rfl, rfl, _, rfl, ifF (eqF (by decide)) ⟨_, rfl, rfl, _, rfl, ifT eqT ⟨_, rfl, b, dx, _, rfl, B3.ins, fs_Bank_no_hold_difference _ _ _, _, rfl, _, rfl, _, rfl, b, dx, l, s, d, x, y, rfl, B3, h1, h2, h3, g3, fun H' p D => q.mid M3 B R D⟩⟩⟩
    · exact ⟨_, rfl, rfl, _, rfl, ifF (eqF (by decide)) ⟨_, rfl, rfl, _, rfl, ifF (eqF (by decide)) ⟨_, rfl, b, dx, _, rfl, B3.ins, fs_Bank_no_hold_product _ _ _, _, rfl, _, rfl, _, rfl, b, dx, l, s, d, x, y, rfl, B3, h1, h2, h3, g3, fun H' p D => q.mid M3 B R D⟩⟩⟩
theorem ok_answer_of_two (T : Txt K mg t) : FnOk P w K mg base CX0 4 t.f_answer_of_two t.d_answer_of_two ["bank", "call", "reader"] (sp_disp K t.c_Bank t.c_Reader [6, 7, 8, 10]) := by
  refine T.F_answer_of_two.ok sc_answer_of_two (fun vs H Q E h => ?_) (fun cdv A outer s H vs Q E hr h => ?_)
  · obtain ⟨_, _, _, _, _, _, _, _, _, _, _, _, rfl, _⟩ := h
    rfl
  · obtain ⟨b, dx, l, r, dr, a, s, p, ns, k, c, rest, rfl, B, R, rq, hf, g, hk, hns, q⟩ := h
    refine ⟨_, (pss_cons (ps_set (i := 3) sc_answer_of_two.nd rfl (Or.inl rfl) (pe_meth0 (pv 2) T.cl_Reader T.m_Reader_take (ok_Reader_take T) (hr.mono (by decide)) T.B_Reader_take .nil pass0))
      (pss_cons (ps_set (i := 4) sc_answer_of_two.nd rfl (Or.inl rfl) (pe_meth0 (pv 2) T.cl_Reader T.m_Reader_take (ok_Reader_take T) (hr.mono (by decide)) T.B_Reader_take .nil pass0))
      (pss_cons (ps_if (pt_cmpR op_eq (pv 1) (pe_gint rfl T.k_HALF) (nomark _)) (pss_one (ps_ret (pe_meth (pv 0) T.cl_Bank T.m_Bank_hold_half (ok_Bank_hold_half T) (hr.mono (by decide)) T.B_Bank_hold_half .nil pass0 (pa_cons (pv 3) (pa_cons (pv 4) pa_nil))))) (pss_nil))
      (pss_cons (ps_if (pt_cmpR op_eq (pv 1) (pe_gint rfl T.k_DOUBLED) (nomark _)) (pss_one (ps_ret (pe_meth (pv 0) T.cl_Bank T.m_Bank_hold_doubled (ok_Bank_hold_doubled T) (hr.mono (by decide)) T.B_Bank_hold_doubled .nil pass0 (pa_cons (pv 3) (pa_cons (pv 4) (pa_cons (pe_meth0 (pv 2) T.cl_Reader T.m_Reader_take (ok_Reader_take T) (hr.mono (by decide)) T.B_Reader_take .nil pass0) pa_nil)))))) (pss_nil))
      (pss_cons (ps_if (pt_cmpR op_eq (pv 1) (pe_gint rfl T.k_POWER) (nomark _)) (pss_one (ps_ret (pe_meth (pv 0) T.cl_Bank T.m_Bank_hold_power (ok_Bank_hold_power T) (hr.mono (by decide)) T.B_Bank_hold_power .nil pass0 (pa_cons (pv 3) (pa_cons (pv 4) (pa_cons (pe_meth0 (pv 2) T.cl_Reader T.m_Reader_take_row (ok_Reader_take_row T) (hr.mono (by decide)) T.B_Reader_take_row .nil pass0) pa_nil)))))) (pss_nil))
      (pss_one (ps_ret (pe_meth (pv 0) T.cl_Bank T.m_Bank_order (ok_Bank_order T) (hr.mono (by decide)) T.B_Bank_order .nil pass0 (pa_cons (pv 3) (pa_cons (pv 4) pa_nil)))))))))), ?_⟩
    have M0 := Mid.refl R rq
    obtain ⟨d, x, h1, h2, hc⟩ := Kgm.form_two hf hk hns
    have g3 : Good s := g.resolve_right fun z => by rw [z] at hk; exact absurd hk (by decide)
    obtain ⟨tl, hd⟩ : ∃ tl, ns.drop p = d :: x :: tl := by
      rcases hc with ⟨_, _, e⟩ | ⟨_, _, _, _, e⟩ | ⟨_, _, _, _, e⟩ | ⟨_, _, e⟩ <;> exact ⟨_, e⟩
    obtain ⟨hd1, hd2⟩ := drop_cons hd
    obtain ⟨hd3, hd4⟩ := drop_cons hd2
    refine ⟨_, rfl, r, dr, _, rfl, R, fs_Reader_no_take _ _, r, dr, a, p, ns, d, rfl, R, rq, hd1, ?_⟩
    have M1 := M0.step (p' := p + 1)
    refine ⟨_, rfl, r, dr, _, rfl, M1.rd, fs_Reader_no_take _ _, r, dr, a, p + 1, ns, x, rfl, M1.rd, M1.rq, hd3, ?_⟩
    have M2 := M1.step (p' := p + 1 + 1)
    have B2 := M2.bank B R
    rcases hc with ⟨rfl, rfl, e⟩ | ⟨tm, h3, rfl, rfl, e⟩ | ⟨ex, h3, rfl, rfl, e⟩ | ⟨rfl, rfl, e⟩
    · rw [Kgm.len_none, show p + ([6, d, x] : List Int).length - 1 = p + 1 + 1 by simp] at q
      exact ⟨_, rfl, rfl, _, rfl, ifT eqT ⟨_, rfl, b, dx, _, rfl, B2.ins, fs_Bank_no_hold_half _ _ _, _, rfl, _, rfl, b, dx, l, s, d, x, rfl, B2, h1, h2, g3, fun H' p D => q.mid M2 B R D⟩⟩
    · rw [Kgm.len_none, show p + ([7, d, x, tm] : List Int).length - 1 = p + 1 + 1 + 1 by simp] at q
      obtain ⟨_, e2⟩ := drop_cons e
      obtain ⟨_, e4⟩ := drop_cons e2
      obtain ⟨e5, _⟩ := drop_cons e4
      have M3 := M2.step (p' := p + 1 + 1 + 1)
      exact ⟨_, rfl, rfl, _, rfl, ifF (eqF (by decide)) ⟨_, rfl, rfl, _, rfl, ifT eqT ⟨_, rfl, b, dx, _, rfl, B2.ins, fs_Bank_no_hold_doubled _ _ _, _, rfl, _, rfl, _, rfl, r, dr, _, rfl, M2.rd, fs_Reader_no_take _ _, r, dr, a, p + 1 + 1, ns, tm, rfl, M2.rd, M2.rq, e5,
        b, dx, l, s, d, x, tm, rfl, M3.bank B R, h1, h2, h3, g3, fun H' p D => q.mid M3 B R D⟩⟩⟩
    · rw [Kgm.len_row, show p + (([8, d, x] : List Int).length + ex.length + 1) - 1 = p + 1 + 1 + 1 + ex.length by simp; omega] at q
      obtain ⟨_, e2⟩ := drop_cons e
      obtain ⟨_, e4⟩ := drop_cons e2
      refine ⟨_, rfl, rfl, _, rfl, ifF (eqF (by decide)) ⟨_, rfl, rfl, _, rfl, ifF (eqF (by decide)) ⟨_, rfl, rfl, _, rfl, ifT eqT ⟨_, rfl, b, dx, _, rfl, B2.ins, fs_Bank_no_hold_power _ _ _, _, rfl, _, rfl, _, rfl, r, dr, _, rfl, M2.rd, fs_Reader_no_take_row _ _, r, dr, a, p + 1 + 1, ns, ex, rest, rfl, M2.rd, M2.rq, e4, fun y hy ny => ?_⟩⟩⟩⟩
      have M3 := M2.row (p' := p + 1 + 1 + 1 + ex.length) (o := .lst (ex.map V.int)) hy ny
      exact ⟨b, dx, l, y, s, d, x, ex, rfl, M3.bank B R, .of upd_same, h3, h1, h2, g3, fun H' p D => q.mid M3 B R D⟩
    · rw [Kgm.len_none, show p + ([10, d, x] : List Int).length - 1 = p + 1 + 1 by simp] at q
      exact ⟨_, rfl, rfl, _, rfl, ifF (eqF (by decide)) ⟨_, rfl, rfl, _, rfl, ifF (eqF (by decide)) ⟨_, rfl, rfl, _, rfl, ifF (eqF (by decide)) ⟨_, rfl, b, dx, _, rfl, B2.ins, fs_Bank_no_order _ _ _, _, rfl, _, rfl, b, dx, l, s, d, x, rfl, B2, h1, h2, g3, fun H' p D => q.mid M2 B R D⟩⟩⟩⟩
theorem ok_answer_of_whole (T : Txt K mg t) : FnOk P w K mg base CX0 3 t.f_answer_of_whole t.d_answer_of_whole ["call", "reader"] (sp_answer_of_whole K t.c_Reader) := by
  refine T.F_answer_of_whole.ok sc_answer_of_whole (fun vs H Q E h => ?_) (fun cdv A outer s H vs Q E hr h => ?_)
  · obtain ⟨_, _, _, _, _, _, _, _, _, rfl, _⟩ := h
    rfl
  · obtain ⟨r, dr, a, s, p, ns, k, c, rest, rfl, R, rq, hf, hk, hns, q⟩ := h
    refine ⟨_, (pss_cons (ps_if (pt_cmpR op_eq (pv 0) (pe_gint rfl T.k_WIDE) (nomark _)) (pss_cons (ps_set (i := 2) sc_answer_of_whole.nd rfl (Or.inl rfl) (pe_meth0 (pv 1) T.cl_Reader T.m_Reader_take_row (ok_Reader_take_row T) (hr.mono (by decide)) T.B_Reader_take_row .nil pass0))
      (pss_one (ps_ret (pe_call (ok_wide_product T) (hr.mono (by decide)) rfl T.g_wide_product T.F_wide_product.kp T.B_wide_product .nil pass0 (pa_cons (pv 2) (pa_cons (pe_meth0 (pv 1) T.cl_Reader T.m_Reader_take_row (ok_Reader_take_row T) (hr.mono (by decide)) T.B_Reader_take_row .nil pass0) pa_nil)))))) (pss_nil))
      (pss_cons (ps_set (i := 3) sc_answer_of_whole.nd rfl (Or.inl rfl) (pe_meth0 (pv 1) T.cl_Reader T.m_Reader_take (ok_Reader_take T) (hr.mono (by decide)) T.B_Reader_take .nil pass0))
      (pss_one (ps_ret (pe_call (ok_shifted_words T) (hr.mono (by decide)) rfl T.g_shifted_words T.F_shifted_words.kp T.B_shifted_words .nil pass0 (pa_cons (pe_meth0 (pv 1) T.cl_Reader T.m_Reader_take_row (ok_Reader_take_row T) (hr.mono (by decide)) T.B_Reader_take_row .nil pass0) (pa_cons (pv 3) pa_nil))))))), ?_⟩
    have M0 := Mid.refl R rq
    rcases Kgm.form_whole hf hk hns with ⟨x, y, h1, h2, h3, rfl, rfl, hd⟩ | ⟨by_, x, h1, h2, rfl, rfl, hd⟩
    · rw [Kgm.len_rows, show p + (([11] : List Int).length + x.length + y.length + 2) - 1 = p + 1 + x.length + 1 + y.length by simp; omega] at q
      rw [Kgm.step_wide s h1 h2 h3] at q
      refine ⟨_, rfl, rfl, _, rfl, ifT eqT ⟨_, rfl, r, dr, _, rfl, R, fs_Reader_no_take_row _ _, r, dr, a, p, ns, x, _, rfl, R, rq, hd, fun y1 hy1 ny1 => ?_⟩⟩
      have M1 := M0.row (p' := p + 1 + x.length) (o := .lst (x.map V.int)) hy1 ny1
      have hd2 := drop_app (drop_cons hd).2
      refine ⟨_, rfl, _, rfl, r, dr, _, rfl, M1.rd, fs_Reader_no_take_row _ _, r, dr, a, p + 1 + x.length, ns, y, rest, rfl, M1.rd, M1.rq, hd2, fun y2 hy2 ny2 => ?_⟩
      have M2 := M1.row (p' := p + 1 + x.length + 1 + y.length) (o := .lst (y.map V.int)) hy2 ny2
      have n21 : y1 ≠ y2 := ne_of_none (o := .lst (x.map V.int)) upd_same hy2
      refine ⟨y1, y2, x, y, rfl, .of (by rw [upd_ne n21, upd_ne ny1]; exact upd_same), .of upd_same, h1, h2, fun H' z ch hn ho => q H' z ?_ ?_ ?_ ?_⟩
      · exact ch r _ M2.rd (by simp)
      · exact M2.ch.trans (ch.mono (by simp))
      · rw [ho]
        unfold wide_ans
        by_cases e : 1 ≤ x.length
        · rw [if_pos e, if_pos e]
        · rw [if_neg e, if_neg e]
      · exact M2.ch.free hn (by rw [List.mem_singleton]; exact M2.rd.free hn)
    · rw [Kgm.len_row, show p + (([12, by_] : List Int).length + x.length + 1) - 1 = p + 1 + 1 + x.length by simp; omega] at q
      rw [Kgm.step_shifted s h1 h2] at q
      obtain ⟨hd1, hd2⟩ := drop_cons hd
      refine ⟨_, rfl, rfl, _, rfl, ifF (eqF (by decide)) ⟨_, rfl, r, dr, _, rfl, R, fs_Reader_no_take _ _, r, dr, a, p, ns, by_, rfl, R, rq, hd1, ?_⟩⟩
      have M1 := M0.step (p' := p + 1)
      refine ⟨_, rfl, r, dr, _, rfl, M1.rd, fs_Reader_no_take_row _ _, r, dr, a, p + 1, ns, x, rest, rfl, M1.rd, M1.rq, hd2, fun y2 hy2 ny2 => ?_⟩
      have M2 := M1.row (p' := p + 1 + 1 + x.length) (o := .lst (x.map V.int)) hy2 ny2
      refine ⟨_, rfl, y2, x, by_, rfl, .of upd_same, h2, fun H' z ch hn ho => q H' z ?_ ?_ ?_ ?_⟩
      · exact ch r _ M2.rd (by simp)
      · exact M2.ch.trans (ch.mono (by simp))
      · rw [ho]
        unfold shifted_ans
        by_cases e : 1 ≤ x.length
        · rw [if_pos e, if_pos e]
        · rw [if_neg e, if_neg e]
      · exact M2.ch.free hn (by rw [List.mem_singleton]; exact M2.rd.free hn)
theorem ok_answer_next (T : Txt K mg t) : FnOk P w K mg base CX0 6 t.f_answer_next t.d_answer_next ["bank", "reader"] (sp_answer_next K t.c_Bank t.c_Reader) := by
  refine T.F_answer_next.ok sc_answer_next (fun vs H Q E h => ?_) (fun cdv A outer s H vs Q E hr h => ?_)
  · obtain ⟨_, _, _, _, _, _, _, _, _, _, _, rfl, _⟩ := h
    rfl
  · obtain ⟨b, dx, l, r, dr, a, s, p, ns, c, rest, rfl, B, R, rq, hf, g, hns, q⟩ := h
    refine ⟨_, (pss_cons (ps_set (i := 2) sc_answer_next.nd rfl (Or.inl rfl) (pe_meth0 (pv 1) T.cl_Reader T.m_Reader_take (ok_Reader_take T) (hr.mono (by decide)) T.B_Reader_take .nil pass0))
      (pss_cons (ps_if (pt_cmpR op_in_seq (pv 2) (pe_tup (pa_cons (pe_gint rfl T.k_BEGIN) (pa_cons (pe_gint rfl T.k_PUT) (pa_cons (pe_gint rfl T.k_GET) pa_nil)))) (by with_unfolding_all rfl)) (pss_one (ps_ret (pe_call (ok_answer_of_words T) (hr.mono (by decide)) rfl T.g_answer_of_words T.F_answer_of_words.kp T.B_answer_of_words .nil pass0 (pa_cons (pv 0) (pa_cons (pv 2) (pa_cons (pv 1) pa_nil)))))) (pss_nil))
      (pss_cons (ps_if (pt_cmpR op_in_seq (pv 2) (pe_tup (pa_cons (pe_gint rfl T.k_SUM_OF) (pa_cons (pe_gint rfl T.k_DIFFERENCE) (pa_cons (pe_gint rfl T.k_PRODUCT) pa_nil)))) (by with_unfolding_all rfl)) (pss_one (ps_ret (pe_call (ok_answer_of_three T) (hr.mono (by decide)) rfl T.g_answer_of_three T.F_answer_of_three.kp T.B_answer_of_three .nil pass0 (pa_cons (pv 0) (pa_cons (pv 2) (pa_cons (pv 1) pa_nil)))))) (pss_nil))
      (pss_cons (ps_if (pt_cmpR op_in_seq (pv 2) (pe_tup (pa_cons (pe_gint rfl T.k_HALF) (pa_cons (pe_gint rfl T.k_DOUBLED) (pa_cons (pe_gint rfl T.k_POWER) (pa_cons (pe_gint rfl T.k_ORDER) pa_nil))))) (by with_unfolding_all rfl)) (pss_one (ps_ret (pe_call (ok_answer_of_two T) (hr.mono (by decide)) rfl T.g_answer_of_two T.F_answer_of_two.kp T.B_answer_of_two .nil pass0 (pa_cons (pv 0) (pa_cons (pv 2) (pa_cons (pv 1) pa_nil)))))) (pss_nil))
      (pss_cons (ps_if (pt_cmpR op_in_seq (pv 2) (pe_tup (pa_cons (pe_gint rfl T.k_WIDE) (pa_cons (pe_gint rfl T.k_SHIFTED) pa_nil))) (by with_unfolding_all rfl)) (pss_one (ps_ret (pe_call (ok_answer_of_whole T) (hr.mono (by decide)) rfl T.g_answer_of_whole T.F_answer_of_whole.kp T.B_answer_of_whole .nil pass0 (pa_cons (pv 2) (pa_cons (pv 1) pa_nil))))) (pss_nil))
      (pss_one (ps_never))))))), ?_⟩
    have R' := R
    unfold RdAt at R'
    have n1 := bank_ne_reader B R
    have n2 := held_ne_reader B R
    obtain ⟨k, tl, e, hk, hk0⟩ := Kgm.form_head hf
    have hd := hns
    rw [e, List.cons_append] at hd
    obtain ⟨hd1, hd2⟩ := drop_cons hd
    have hd3 : k :: ns.drop (p + 1) = PyFlat.put1 c ++ rest := by rw [hd2, e, List.cons_append]
    have g2 : Good s ∨ k = 0 := g.imp id hk0
    rw [show p + (PyFlat.put1 c).length = p + 1 + (PyFlat.put1 c).length - 1 by omega] at q
    refine ⟨_, rfl, r, dr, _, rfl, R', fs_Reader_no_take _ _, r, dr, a, p, ns, k, rfl, R, rq, hd1, ?_⟩
    have M1 := (Mid.refl R rq).step (p' := p + 1)
    generalize upd H r (.ins t.c_Reader dr (fs_Reader (.ref a) (.int ((p + 1 : Nat) : Int)))) = H1 at M1 ⊢
    refine ⟨_, rfl, show 3 ≤ sizeLine by decide, fun t1 ht1 => ⟨t1, _, rfl, .inr (.of upd_same), rfl, rfl, _, rfl, ?_⟩⟩
    have M := M1.new (o := .tup [.int 0, .int 1, .int 2]) ht1
    by_cases k1 : k ∈ ([0, 1, 2] : List Int)
    · exact ifT (in_yes (l := [0, 1, 2]) k1) ⟨_, rfl, _, rfl, _, rfl, b, dx, l, r, dr, a, s, p + 1, ns, k, c, rest, rfl, M.bank B R, M.rd, M.rq, hf, g2, k1, hd3, q.pre M.ch M.rd⟩
    refine ifF (in_no (l := [0, 1, 2]) k1) ?_
    have hk := hk.resolve_left k1
    generalize upd H1 t1 (.tup [.int 0, .int 1, .int 2]) = H2 at M ⊢
    refine ⟨_, rfl, show 3 ≤ sizeLine by decide, fun t2 ht2 => ⟨t2, _, rfl, .inr (.of upd_same), rfl, rfl, _, rfl, ?_⟩⟩
    have M := M.new (o := .tup [.int 3, .int 4, .int 5]) ht2
    by_cases k2 : k ∈ ([3, 4, 5] : List Int)
    · exact ifT (in_yes (l := [3, 4, 5]) k2) ⟨_, rfl, _, rfl, _, rfl, b, dx, l, r, dr, a, s, p + 1, ns, k, c, rest, rfl, M.bank B R, M.rd, M.rq, hf, g2, k2, hd3, q.pre M.ch M.rd⟩
    refine ifF (in_no (l := [3, 4, 5]) k2) ?_
    have hk := hk.resolve_left k2
    generalize upd H2 t2 (.tup [.int 3, .int 4, .int 5]) = H3 at M ⊢
    refine ⟨_, rfl, show 4 ≤ sizeLine by decide, fun t3 ht3 => ⟨t3, _, rfl, .inr (.of upd_same), rfl, rfl, _, rfl, ?_⟩⟩
    have M := M.new (o := .tup [.int 6, .int 7, .int 8, .int 10]) ht3
    by_cases k3 : k ∈ ([6, 7, 8, 10] : List Int)
    · exact ifT (in_yes (l := [6, 7, 8, 10]) k3) ⟨_, rfl, _, rfl, _, rfl, b, dx, l, r, dr, a, s, p + 1, ns, k, c, rest, rfl, M.bank B R, M.rd, M.rq, hf, g2, k3, hd3, q.pre M.ch M.rd⟩
    refine ifF (in_no (l := [6, 7, 8, 10]) k3) ?_
    have k4 := hk.resolve_left k3
    generalize upd H3 t3 (.tup [.int 6, .int 7, .int 8, .int 10]) = H4 at M ⊢
    refine ⟨_, rfl, show 2 ≤ sizeLine by decide, fun t4 ht4 => ⟨t4, _, rfl, .inr (.of upd_same), rfl, rfl, _, rfl, ?_⟩⟩
    have M := M.new (o := .tup [.int 11, .int 12]) ht4
    refine ifT (in_yes (l := [11, 12]) k4) ⟨_, rfl, _, rfl, r, dr, a, s, p + 1, ns, k, c, rest, rfl, M.rd, M.rq, hf, k4, hd3, fun H' y RR ch hy hn => ?_⟩
    have q2 := q.pre M.ch M.rd
    rw [Kgm.whole_state s hf k4 hd3] at q2
    exact q2 H' y l dx dr ((M.bank B R).ch ch (by simp [n1]) (by simp [n2])) (.inl rfl) RR (M.rq.ch ch M.rd.nofrz) hy hn (ch.mono (by simp))
end
end Odd

set_option Elab.async false
set_option linter.all false
set_option maxRecDepth 100000
set_option maxHeartbeats 2000000
namespace Odd
open PySem PySem.Spec PyProof.Rows L2
open Kgm (Reg Row Wd num words W32 Bt Byts Good bnum Form Asked told Now)
open Kg07 (Abs)
open Kg07Neutral (step)
open PyKg07 (whole)

/-! ### the way in -/
structure LInv (K : PySem.W.Frag) (CB CR a : Addr) (ns m : List Int) (rest : List (List (List Int))) (n : Nat) (st : L2.St) (H : Hp) : Prop where
  is : ∃ (b dx l r dr z : Addr) (v : Option V) (s : Abs) (p : Nat) (done todo : List (List (List Int))),
    st = [some (.ref a), some (.ref b), some (.ref r), some (.ref z), v] ∧ BkAt CB H b dx l s ∧ RdAt CR H r dr a p ∧ Req K H a ns ∧ H z = some (.lst ((told done).map V.int)) ∧ z ≠ l ∧ Now m rest done todo s ∧ ns.drop p = PyFlat.put todo ∧ todo.length = n
def sp_answers (K : PySem.W.Frag) : Sp := fun vs H Q _ => ∃ (a : Addr) (ns m : List Int) (rest : List (List (List Int))), vs = [.ref a] ∧ Req K H a ns ∧ Asked ns m rest ∧
  ∀ (H' : Hp) (p : Addr), H' p = some (.lst ((PyKg07.answers ns).map V.int)) → Q (.ref p) H'
section
variable {P : Program} {w : World} {K : PySem.W.Frag} {mg : Str → Option Value} {base : Heap} {t : Adr}
theorem ok_answers (T : Txt K mg t) : FnOk P w K mg base CX0 7 t.f_answers t.d_answers ["calls"] (sp_answers K) := by
  refine T.F_answers.ok sc_answers (fun vs H Q E h => ?_) (fun cdv A outer s H vs Q E hr h => ?_)
  · obtain ⟨_, _, _, _, rfl, _⟩ := h
    rfl
  · obtain ⟨a, ns, m, rest, rfl, rq, ask, q⟩ := h
    refine ⟨_, (pss_cons (ps_set (i := 1) sc_answers.nd rfl (Or.inl rfl) (pe_make0 T.mk_Bank (ok_Bank_init T) (hr.mono (by decide)) rfl T.g_Bank T.B_Bank_init .nil pass0))
      (pss_cons (ps_set (i := 2) sc_answers.nd rfl (Or.inl rfl) (pe_make T.mk_Reader (ok_Reader_init T) (hr.mono (by decide)) rfl T.g_Reader T.B_Reader_init .nil pass0 (pa_cons (pv 0) pa_nil)))
      (pss_cons (ps_set (i := 3) sc_answers.nd rfl (Or.inl rfl) (pe_lst (pa_nil)))
      (pss_cons (ps_while PassesOwn.never (pt_not (pt_val (pe_meth0 (pv 2) T.cl_Reader T.m_Reader_is_done (ok_Reader_is_done T) (hr.mono (by decide)) T.B_Reader_is_done .nil pass0))) (pss_cons (ps_set (i := 4) sc_answers.nd rfl (Or.inl rfl) (pe_call (ok_answer_next T) (hr.mono (by decide)) rfl T.g_answer_next T.F_answer_next.kp T.B_answer_next .nil pass0 (pa_cons (pv 1) (pa_cons (pv 2) pa_nil))))
      (pss_cons (ps_expr (pe_bm PySem.F.plainAttrs_list PySem.F.slot_list_append PySem.F.type_list_append mt_append (pv 3) (pa_cons (pe_callB call_len_seq (by rfl) T.b_len PySem.boot_len (pa_cons (pv 4) pa_nil)) pa_nil)))
      (pss_one (ps_expr (pe_bm PySem.F.plainAttrs_list PySem.F.slot_list_extend PySem.F.type_list_extend mt_extend (pv 3) (pa_cons (pv 4) pa_nil)))))))
      (pss_one (ps_ret (pv 3))))))), ?_⟩
    -- bank = Bank()
    refine fun b dx nb ndx ne => ⟨b, dx, rfl, upd_same, fun H1 l B1 hl c1 => ⟨rfl, ?_⟩⟩
    have rq1 : Req K H1 a ns := rq.keep fun ob u e => c1 a _ (by rw [upd_ne (ne_of_none e nb), upd_ne (ne_of_none e ndx)]; exact e) (by
      rw [List.mem_singleton]
      exact ne_of_none e nb)
    -- reader = Reader(calls)
    refine ⟨_, rfl, fun r dr nr ndr ne2 => ⟨r, dr, a, rfl, upd_same, rfl, ?_⟩⟩
    -- answered = []
    refine ⟨Nat.zero_le _, fun z hz => ?_⟩
    obtain ⟨hz1, nzr⟩ := upd_none hz
    obtain ⟨hz2, _⟩ := upd_none hz1
    obtain ⟨hz3, _⟩ := upd_none hz2
    have c2 : Ch [] H1 (upd (upd (upd (upd H1 dr (.own r)) r (.ins t.c_Reader dr [])) r (.ins t.c_Reader dr (fs_Reader (.ref a) (.int ((0 : Nat) : Int))))) z (.lst [])) := ((((Ch.refl [] H1).new (.inr ndr)).new (.inr nr)).new (.inr nr)).new (.inr hz3)
    refine ⟨LInv K t.c_Bank t.c_Reader a ns m rest, ⟨(([[0], m] :: rest : List (List (List Int))).length), ⟨b, dx, l, r, dr, z, none, s0, 0, [], [[0], m] :: rest, rfl, B1.ch c2 (by simp) (by simp), ?_, rq1.ch c2 (by simp), upd_same, ?_, ⟨rfl, .inl ⟨rfl, trivial⟩, Nat.zero_le _⟩, ?_, rfl⟩⟩, ?_⟩
    · unfold RdAt
      rw [upd_ne (Ne.symm nzr), upd_same]
    · exact (ne_of_none B1.lst hz3).symm
    · rw [List.drop_zero]
      exact ask.list
    · rintro n σ H2 ⟨b, dx, l, r, dr, z, v, s, p, done, todo, rfl, B, R, rq, hz, nzl, N, hd, hn⟩
      have R' := R
      unfold RdAt at R'
      refine ⟨_, rfl, r, dr, _, rfl, R', fs_Reader_no_is_done _ _, r, dr, a, p, ns, rfl, R, rq, _, rfl, ?_⟩
      cases todo with
      | nil =>
        have h := Kgm.put_nil hd
        refine ifF (by rw [decide_eq_true h]; rfl) ⟨_, rfl, q H2 z ?_⟩
        have e := N.all
        rw [List.append_nil] at e
        rw [hz, e, ask.due]
        rfl
      | cons c cs =>
        have hf := N.form ask
        obtain ⟨h, hd2⟩ := Kgm.put_cons hf hd
        refine ifT (by rw [decide_eq_false h]; rfl) ⟨fun σ' H' => ∃ m', m' < n ∧ LInv K t.c_Bank t.c_Reader a ns m rest m' σ' H', fun σ' H' h => h, ?_⟩
        obtain ⟨N2, e, hl2⟩ := N.more ask
        have hs := N.short ask
        have nzb : z ≠ b := ne_of hz B.ins (by intro x; cases x)
        have nzr : z ≠ r := ne_of hz R' (by intro x; cases x)
        refine ⟨_, rfl, _, rfl, b, dx, l, r, dr, a, s, p, ns, c, PyFlat.put cs, rfl, B, R, rq, hf, N.first, hd2, fun H3 y l' dx' dr' B3 hl' R3 rq3 hy hyn ch => ?_⟩
        have hz3 := ch z _ hz (by simp [nzb, nzl, nzr])
        have nyz : z ≠ y := ne_of_none hz hyn
        have nzl' : z ≠ l' := by
          rcases hl' with x | x
          · rw [x]; exact nzl
          · exact ne_of_none hz x
        generalize hans : (step s (whole c)).2 = ans at hy hl2
        have big : (13131 : Nat) ≤ sizeLine := by decide
        refine ⟨_, rfl, .inl ⟨rfl, _, SqL.of hz3⟩, _, rfl, y, _, rfl, .inl (.of hy), z, _, _, rfl, rfl, hz3, by rw [List.length_map]; omega, ?_⟩
        refine ⟨_, rfl, .inl ⟨rfl, _, SqL.of upd_same⟩, _, rfl, z, y, _, _, rfl, rfl, upd_same, by rw [upd_ne (Ne.symm nyz)]; exact hy, by rw [List.length_append, List.length_map, List.length_map, List.length_singleton]; omega, ?_⟩
        rw [upd_upd]
        have c5 : ∀ o, Ch [z] H3 (upd H3 z o) := fun o => (Ch.refl _ H3).at_ (by simp)
        refine ⟨cs.length, by rw [← hn, List.length_cons]; omega, b, dx', l', r, dr', z, _, (step s (whole c)).1, p + (PyFlat.put1 c).length, done ++ [c], cs, rfl, B3.ch (c5 _) (by simp [Ne.symm nzb]) (by simp [Ne.symm nzl']), ?_, rq3.ch (c5 _) ?_, ?_, nzl', N2, Kgm.put_next hd2, rfl⟩
        · unfold RdAt at R3 ⊢
          rw [upd_ne (Ne.symm nzr)]
          exact R3
        · intro x hx ob u ex
          rw [List.mem_singleton] at hx
          subst hx
          rw [hz3] at ex
          cases ex
        · rw [upd_same, Kgm.told_more, ← e, hans, List.map_append, List.map_cons, List.length_map, List.append_assoc]
          rfl
end
end Odd

set_option Elab.async false
set_option linter.all false
set_option maxRecDepth 100000
set_option maxHeartbeats 2000000
namespace Odd
open PySem PySem.Spec PyProof.Rows L2
theorem binds_answers {K : PySem.W.Frag} {mg : Str → Option Value} {t : Adr} (T : Txt K mg t) : ∀ (s : Shared) (us : List Value), us.length = (["calls"] : List Str).length → BindsTo s t.d_answers ⟨us, []⟩ ((["calls"] : List Str).zip us) := by
  intro s us hu
  obtain ⟨oc, od, kV, doc, pm, an, cdv, ct, osl, e, lk, hcd⟩ := T.F_answers.ex
  rw [e]
  exact match us, hu with | [_], _ => .of_eq rfl
theorem from_txt {P : Program} {w : World} {K : PySem.W.Frag} {mg : Str → Option Value} {fa : Addr} (hmg : mg "answers" = some (.ref fa)) (T : ∃ t, Txt K mg t) :
    ∃ fd : FuncData, (∀ (s : Shared) (us : List Value), us.length = (["calls"] : List Str).length → BindsTo s fd ⟨us, []⟩ ((["calls"] : List Str).zip us)) ∧
      ∀ base : Heap, K.In base → base.Ns mainGlobals mg → FnOk P w K mg base CX0 7 fa fd ["calls"] (sp_answers K) := by
  obtain ⟨t, T⟩ := T
  have e0 := hmg.symm.trans T.g_answers
  cases e0
  exact ⟨_, binds_answers T, fun base _ _ => ok_answers T⟩
theorem no_lst {H : Hp} {a : Addr} (h : OnlyF H) : ∀ xs, H a ≠ some (.lst xs) := fun xs e => by
  rcases h a with z | ⟨ob, u, z⟩
  · rw [z] at e
    cases e
  · rw [z] at e
    cases e
end Odd
open PySem PySem.W PyProof.Rows
set_option maxRecDepth 100000 in
set_option maxHeartbeats 0 in
theorem PySem.Challenge.cw_oddmodulus_s01_answers_holds : PySem.Challenge.rw_oddmodulus_s01_answers.Holds := by
  w_on; k_headS; (case hw => exact ⟨[.list [.int 0, .int 1, .int 3]], by decide +kernel, by decide +kernel⟩)
  k_fillS
  refine L2.walk_specK (r := PySem.Challenge.rw_oddmodulus_s01_answers) (k := 7) (CX := L2.CX0) (ps := ["calls"]) (sp := Odd.sp_answers) (by decide +kernel) rfl rfl ⟨rfl, by decide, by decide⟩ (fun w h Y => PySem.W.kIn_of Y) ?F ?S (fun _ _ _ _ z => z)
  case F =>
    intro w mg fa h Y KX G hmg
    refine Odd.from_txt hmg ?_
    refine' Odd.txt_mk KX G ?k_DIGIT_BITS ?k_DIGITS ?k_DONE ?k_REFUSED ?k_BELOW ?k_LEVEL ?k_ABOVE ?k_NO_ORDER ?k_WORD_BITS ?k_GREATEST_WORD ?k_MOST_WORDS ?k_PLACES ?k_LEAST_MODULUS ?k_MOST_TIMES ?k_MOST_BYTES ?k_BEGIN ?k_PUT ?k_GET ?k_SUM_OF ?k_DIFFERENCE ?k_PRODUCT ?k_HALF ?k_DOUBLED ?k_POWER ?k_ORDER ?k_WIDE ?k_SHIFTED ?b_len ?b_min ?b_range ?b_reversed ?g_Bank ?pg_Bank ?hd_Bank ?po_Bank ?sa_Bank ?mk_Bank ?kc_Bank ?n_Bank_modulus ?n_Bank_length ?n_Bank_held ?g_Reader ?pg_Reader ?hd_Reader ?po_Reader ?sa_Reader ?mk_Reader ?kc_Reader ?n_Reader_numbers ?n_Reader_place ?a_power_modulo ?l_power_modulo ?c_power_modulo ?p_power_modulo ?a_first_powers ?l_first_powers ?c_first_powers ?p_first_powers ?a_sixteenth_power ?l_sixteenth_power ?c_sixteenth_power ?p_sixteenth_power ?a_is_length ?l_is_length ?c_is_length ?p_is_length ?a_number_from_words ?l_number_from_words ?c_number_from_words ?p_number_from_words ?a_words_from_number ?l_words_from_number ?c_words_from_number ?p_words_from_number ?a_is_place ?l_is_place ?c_is_place ?p_is_place ?a_are_two_places ?l_are_two_places ?c_are_two_places ?p_are_two_places ?a_are_places ?l_are_places ?c_are_places ?p_are_places ?a_is_modulus ?l_is_modulus ?c_is_modulus ?p_is_modulus ?a_Bank_init ?i_Bank_init ?l_Bank_init ?c_Bank_init ?p_Bank_init ?a_Bank_begin ?i_Bank_begin ?l_Bank_begin ?c_Bank_begin ?p_Bank_begin ?a_Bank_put_words ?i_Bank_put_words ?l_Bank_put_words ?c_Bank_put_words ?p_Bank_put_words ?a_Bank_get_words ?i_Bank_get_words ?l_Bank_get_words ?c_Bank_get_words ?p_Bank_get_words ?a_Bank_hold_sum ?i_Bank_hold_sum ?l_Bank_hold_sum ?c_Bank_hold_sum ?p_Bank_hold_sum ?a_Bank_hold_difference ?i_Bank_hold_difference ?l_Bank_hold_difference ?c_Bank_hold_difference ?p_Bank_hold_difference ?a_Bank_hold_product ?i_Bank_hold_product ?l_Bank_hold_product ?c_Bank_hold_product ?p_Bank_hold_product ?a_Bank_hold_half ?i_Bank_hold_half ?l_Bank_hold_half ?c_Bank_hold_half ?p_Bank_hold_half ?a_Bank_hold_doubled ?i_Bank_hold_doubled ?l_Bank_hold_doubled ?c_Bank_hold_doubled ?p_Bank_hold_doubled ?a_Bank_hold_power ?i_Bank_hold_power ?l_Bank_hold_power ?c_Bank_hold_power ?p_Bank_hold_power ?a_Bank_order ?i_Bank_order ?l_Bank_order ?c_Bank_order ?p_Bank_order ?a_Bank_hold ?i_Bank_hold ?l_Bank_hold ?c_Bank_hold ?p_Bank_hold ?a_Reader_init ?i_Reader_init ?l_Reader_init ?c_Reader_init ?p_Reader_init ?a_Reader_is_done ?i_Reader_is_done ?l_Reader_is_done ?c_Reader_is_done ?p_Reader_is_done ?a_Reader_take ?i_Reader_take ?l_Reader_take ?c_Reader_take ?p_Reader_take ?a_Reader_take_row ?i_Reader_take_row ?l_Reader_take_row ?c_Reader_take_row ?p_Reader_take_row ?a_wide_product ?l_wide_product ?c_wide_product ?p_wide_product ?a_shifted_words ?l_shifted_words ?c_shifted_words ?p_shifted_words ?a_shifted_number ?l_shifted_number ?c_shifted_number ?p_shifted_number ?a_answers ?l_answers ?c_answers ?p_answers ?a_answer_next ?l_answer_next ?c_answer_next ?p_answer_next ?a_answer_of_words ?l_answer_of_words ?c_answer_of_words ?p_answer_of_words ?a_answer_of_three ?l_answer_of_three ?c_answer_of_three ?p_answer_of_three ?a_answer_of_two ?l_answer_of_two ?c_answer_of_two ?p_answer_of_two ?a_answer_of_whole ?l_answer_of_whole ?c_answer_of_whole ?p_answer_of_whole
    (case k_DIGIT_BITS => k_is)
    (case k_DIGITS => k_is)
    (case k_DONE => k_is)
    (case k_REFUSED => k_is)
    (case k_BELOW => k_is)
    (case k_LEVEL => k_is)
    (case k_ABOVE => k_is)
    (case k_NO_ORDER => k_is)
    (case k_WORD_BITS => k_is)
    (case k_GREATEST_WORD => k_is)
    (case k_MOST_WORDS => k_is)
    (case k_PLACES => k_is)
    (case k_LEAST_MODULUS => k_is)
    (case k_MOST_TIMES => k_is)
    (case k_MOST_BYTES => k_is)
    (case k_BEGIN => k_is)
    (case k_PUT => k_is)
    (case k_GET => k_is)
    (case k_SUM_OF => k_is)
    (case k_DIFFERENCE => k_is)
    (case k_PRODUCT => k_is)
    (case k_HALF => k_is)
    (case k_DOUBLED => k_is)
    (case k_POWER => k_is)
    (case k_ORDER => k_is)
    (case k_WIDE => k_is)
    (case k_SHIFTED => k_is)
    (case b_len => k_is)
    (case b_min => k_is)
    (case b_range => k_is)
    (case b_reversed => k_is)
    (case g_Bank => k_is)
    (case pg_Bank => k_is)
    (case hd_Bank => k_is)
    (case po_Bank => k_is)
    (case sa_Bank => k_is)
    (case mk_Bank => k_is)
    (case kc_Bank => k_is)
    (case n_Bank_modulus => k_is)
    (case n_Bank_length => k_is)
    (case n_Bank_held => k_is)
    (case g_Reader => k_is)
    (case pg_Reader => k_is)
    (case hd_Reader => k_is)
    (case po_Reader => k_is)
    (case sa_Reader => k_is)
    (case mk_Reader => k_is)
    (case kc_Reader => k_is)
    (case n_Reader_numbers => k_is)
    (case n_Reader_place => k_is)
    (case a_power_modulo => k_is)
    (case l_power_modulo => k_is)
    (case c_power_modulo => k_is)
    (case p_power_modulo => k_is)
    (case a_first_powers => k_is)
    (case l_first_powers => k_is)
    (case c_first_powers => k_is)
    (case p_first_powers => k_is)
    (case a_sixteenth_power => k_is)
    (case l_sixteenth_power => k_is)
    (case c_sixteenth_power => k_is)
    (case p_sixteenth_power => k_is)
    (case a_is_length => k_is)
    (case l_is_length => k_is)
    (case c_is_length => k_is)
    (case p_is_length => k_is)
    (case a_number_from_words => k_is)
    (case l_number_from_words => k_is)
    (case c_number_from_words => k_is)
    (case p_number_from_words => k_is)
    (case a_words_from_number => k_is)
    (case l_words_from_number => k_is)
    (case c_words_from_number => k_is)
    (case p_words_from_number => k_is)
    (case a_is_place => k_is)
    (case l_is_place => k_is)
    (case c_is_place => k_is)
    (case p_is_place => k_is)
    (case a_are_two_places => k_is)
    (case l_are_two_places => k_is)
    (case c_are_two_places => k_is)
    (case p_are_two_places => k_is)
    (case a_are_places => k_is)
    (case l_are_places => k_is)
    (case c_are_places => k_is)
    (case p_are_places => k_is)
    (case a_is_modulus => k_is)
    (case l_is_modulus => k_is)
    (case c_is_modulus => k_is)
    (case p_is_modulus => k_is)
    (case a_Bank_init => k_is)
    (case i_Bank_init => k_is)
    (case l_Bank_init => k_is)
    (case c_Bank_init => k_is)
    (case p_Bank_init => k_is)
    (case a_Bank_begin => k_is)
    (case i_Bank_begin => k_is)
    (case l_Bank_begin => k_is)
    (case c_Bank_begin => k_is)
    (case p_Bank_begin => k_is)
    (case a_Bank_put_words => k_is)
    (case i_Bank_put_words => k_is)
    (case l_Bank_put_words => k_is)
    (case c_Bank_put_words => k_is)
    (case p_Bank_put_words => k_is)
    (case a_Bank_get_words => k_is)
    (case i_Bank_get_words => k_is)
    (case l_Bank_get_words => k_is)
    (case c_Bank_get_words => k_is)
    (case p_Bank_get_words => k_is)
    (case a_Bank_hold_sum => k_is)
    (case i_Bank_hold_sum => k_is)
    (case l_Bank_hold_sum => k_is)
    (case c_Bank_hold_sum => k_is)
    (case p_Bank_hold_sum => k_is)
    (case a_Bank_hold_difference => k_is)
    (case i_Bank_hold_difference => k_is)
    (case l_Bank_hold_difference => k_is)
    (case c_Bank_hold_difference => k_is)
    (case p_Bank_hold_difference => k_is)
    (case a_Bank_hold_product => k_is)
    (case i_Bank_hold_product => k_is)
    (case l_Bank_hold_product => k_is)
    (case c_Bank_hold_product => k_is)
    (case p_Bank_hold_product => k_is)
    (case a_Bank_hold_half => k_is)
    (case i_Bank_hold_half => k_is)
    (case l_Bank_hold_half => k_is)
    (case c_Bank_hold_half => k_is)
    (case p_Bank_hold_half => k_is)
    (case a_Bank_hold_doubled => k_is)
    (case i_Bank_hold_doubled => k_is)
    (case l_Bank_hold_doubled => k_is)
    (case c_Bank_hold_doubled => k_is)
    (case p_Bank_hold_doubled => k_is)
    (case a_Bank_hold_power => k_is)
    (case i_Bank_hold_power => k_is)
    (case l_Bank_hold_power => k_is)
    (case c_Bank_hold_power => k_is)
    (case p_Bank_hold_power => k_is)
    (case a_Bank_order => k_is)
    (case i_Bank_order => k_is)
    (case l_Bank_order => k_is)
    (case c_Bank_order => k_is)
    (case p_Bank_order => k_is)
    (case a_Bank_hold => k_is)
    (case i_Bank_hold => k_is)
    (case l_Bank_hold => k_is)
    (case c_Bank_hold => k_is)
    (case p_Bank_hold => k_is)
    (case a_Reader_init => k_is)
    (case i_Reader_init => k_is)
    (case l_Reader_init => k_is)
    (case c_Reader_init => k_is)
    (case p_Reader_init => k_is)
    (case a_Reader_is_done => k_is)
    (case i_Reader_is_done => k_is)
    (case l_Reader_is_done => k_is)
    (case c_Reader_is_done => k_is)
    (case p_Reader_is_done => k_is)
    (case a_Reader_take => k_is)
    (case i_Reader_take => k_is)
    (case l_Reader_take => k_is)
    (case c_Reader_take => k_is)
    (case p_Reader_take => k_is)
    (case a_Reader_take_row => k_is)
    (case i_Reader_take_row => k_is)
    (case l_Reader_take_row => k_is)
    (case c_Reader_take_row => k_is)
    (case p_Reader_take_row => k_is)
    (case a_wide_product => k_is)
    (case l_wide_product => k_is)
    (case c_wide_product => k_is)
    (case p_wide_product => k_is)
    (case a_shifted_words => k_is)
    (case l_shifted_words => k_is)
    (case c_shifted_words => k_is)
    (case p_shifted_words => k_is)
    (case a_shifted_number => k_is)
    (case l_shifted_number => k_is)
    (case c_shifted_number => k_is)
    (case p_shifted_number => k_is)
    (case a_answers => k_is)
    (case l_answers => k_is)
    (case c_answers => k_is)
    (case p_answers => k_is)
    (case a_answer_next => k_is)
    (case l_answer_next => k_is)
    (case c_answer_next => k_is)
    (case p_answer_next => k_is)
    (case a_answer_of_words => k_is)
    (case l_answer_of_words => k_is)
    (case c_answer_of_words => k_is)
    (case p_answer_of_words => k_is)
    (case a_answer_of_three => k_is)
    (case l_answer_of_three => k_is)
    (case c_answer_of_three => k_is)
    (case p_answer_of_three => k_is)
    (case a_answer_of_two => k_is)
    (case l_answer_of_two => k_is)
    (case c_answer_of_two => k_is)
    (case p_answer_of_two => k_is)
    (case a_answer_of_whole => k_is)
    (case l_answer_of_whole => k_is)
    (case c_answer_of_whole => k_is)
    (case p_answer_of_whole => k_is)
  case S =>
    intro K H xs a hO hwi hask hx
    cases hx with
    | cons h1 h2 =>
      cases h2
      cases h1 with
      | lst hs ha =>
        have e := L2.ints_dw a.1 _ ha
        subst e
        have q : PyKg07.answers_asked a.1 = true := hask
        obtain ⟨m, rest, A⟩ := Kgm.asked_of q
        exact ⟨_, a.1, m, rest, rfl, L2.Req.of hs (Odd.no_lst hO), A, fun H' p hp => .lst (L2.SqL.of hp) (L2.dw_ints _)⟩
#print axioms PySem.Challenge.cw_oddmodulus_s01_answers_holds

