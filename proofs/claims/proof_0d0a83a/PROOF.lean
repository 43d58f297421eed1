import PyProof.Rows.All
import Wide.All
import OpenK.AllK
import Wide.FinOn
import PyProof.EqAt
import PyProof.EqKinds
import PyProof.TupleCall
import KE.BitLaws
import Open.SpecLaws
import KE.OsHead
import KE.OsGo
import PyProof.P3In
import PySem.Challenge.RW_laiddown_s01_answers
section
set_option Elab.async false
set_option linter.all false
set_option maxRecDepth 100000
namespace L2
open PySem PySem.Spec PyProof.Rows
/-- a key: an int or a str -/
abbrev Key := Sum Int Str
def keyIs : Key → Value → Bool
  | .inl k, v => Value.isInt k v
  | .inr x, v => Value.isStrOf x v
def keyH (w : World) : Key → Int
  | .inl k => hashInt k
  | .inr x => hashStr w x
theorem keyIs_shape : ∀ {k : Key} {v : Value}, keyIs k v = true → (∃ i t, k = Sum.inl i ∧ v = Value.int i t) ∨ (∃ x t, k = Sum.inr x ∧ v = Value.str x t)
  | .inl i, v, h => by
    obtain ⟨t, e⟩ := Value.isInt_shape (k := i) (v := v) h
    exact .inl ⟨i, t, rfl, e⟩
  | .inr x, v, h => by
    obtain ⟨t, e⟩ := Value.isStrOf_shape (x := x) (v := v) h
    exact .inr ⟨x, t, rfl, e⟩
theorem keyIs_int (i : Int) (t : Tok) : keyIs (.inl i) (.int i t) = true := by simp [keyIs, Value.isInt]
theorem keyIs_str (x : Str) (t : Tok) : keyIs (.inr x) (.str x t) = true := by simp [keyIs, Value.isStrOf]
theorem key_ll (a b : Int) : decide ((Sum.inl a : Key) = Sum.inl b) = (a == b) := by
  by_cases e : a = b
  · subst e; simp
  · have h : ¬ (Sum.inl a : Key) = Sum.inl b := fun q => e (Sum.inl.inj q)
    rw [decide_eq_false h]
    exact (beq_eq_false_iff_ne.mpr e).symm
theorem key_rr (a b : Str) : decide ((Sum.inr a : Key) = Sum.inr b) = decide (a = b) := by
  by_cases e : a = b
  · subst e; simp
  · have h : ¬ (Sum.inr a : Key) = Sum.inr b := fun q => e (Sum.inr.inj q)
    rw [decide_eq_false h, decide_eq_false e]
theorem key_lr (a : Int) (b : Str) : decide ((Sum.inl a : Key) = Sum.inr b) = false := decide_eq_false (fun q => nomatch q)
theorem key_rl (a : Str) (b : Int) : decide ((Sum.inr a : Key) = Sum.inl b) = false := decide_eq_false (fun q => nomatch q)
def mixKind (prog : Program) (w : World) : PySem.KeyKind prog w Key where
  is := keyIs
  hash := keyH w
  inj := fun v a b ha hb => by
    rcases keyIs_shape ha with ⟨i, t, rfl, rfl⟩ | ⟨x, t, rfl, rfl⟩
    · rcases keyIs_shape hb with ⟨j, u, rfl, e⟩ | ⟨y, u, rfl, e⟩
      · injection e with e1 _; rw [e1]
      · exact nomatch e
    · rcases keyIs_shape hb with ⟨j, u, rfl, e⟩ | ⟨y, u, rfl, e⟩
      · exact nomatch e
      · injection e with e1 _; rw [e1]
  byValue := fun k v h => by
    rcases keyIs_shape h with ⟨i, t, rfl, rfl⟩ | ⟨x, t, rfl, rfl⟩ <;> rfl
  pyHash := fun hv h => by
    rcases keyIs_shape hv with ⟨i, t, rfl, rfl⟩ | ⟨x, t, rfl, rfl⟩
    · exact wpAny_pyHash_int h
    · exact wpAny_pyHash_str h
  eqBool := fun hu hv h => by
    rcases keyIs_shape hu with ⟨i, t, rfl, rfl⟩ | ⟨x, t, rfl, rfl⟩
    · rcases keyIs_shape hv with ⟨j, u, rfl, rfl⟩ | ⟨y, u, rfl, rfl⟩
      · rw [key_ll] at h; exact wpAny_eqBool_int h
      · rw [key_lr] at h; exact SeqAt.EqAt.int_str i t y u _ _ _ _ h
    · rcases keyIs_shape hv with ⟨j, u, rfl, rfl⟩ | ⟨y, u, rfl, rfl⟩
      · rw [key_rl] at h; exact SeqAt.EqAt.str_int x t j u _ _ _ _ h
      · rw [key_rr] at h; exact wpAny_eqBool_str h
  «strs» := fun k x t v h => by
    rcases keyIs_shape h with ⟨i, u, rfl, e⟩ | ⟨y, u, rfl, e⟩
    · exact nomatch e
    · injection e with e1 _
      subst e1
      cases v <;> rfl
theorem mixKind_int (prog : Program) (w : World) (i : Int) (t : Tok) : (mixKind prog w).is (.inl i) (.int i t) = true := keyIs_int i t
theorem mixKind_str (prog : Program) (w : World) (x : Str) (t : Tok) : (mixKind prog w).is (.inr x) (.str x t) = true := keyIs_str x t
end L2
namespace L2
open PySem PySem.Spec PyProof.Rows
/-- a value, without the heap -/
inductive V where
  | non | bl (b : Bool) | int (i : Int) | str (x : Str) | byt (b : Array UInt8) | flt (b : UInt64) | ref (a : Addr) | ty (n : String)
  deriving DecidableEq
def RelV : V → Value → Prop
  | .non, u => u = Value.none
  | .bl b, u => u = Value.bool b
  | .int i, u => ∃ t, u = Value.int i t
  | .str x, u => ∃ t, u = Value.str x t
  | .byt b, u => ∃ t, u = Value.bytes b t
  | .flt b, u => ∃ t, u = Value.float b t
  | .ref a, u => u = Value.ref a
  | .ty n, u => u = Value.type n
abbrev Vals : List V → List Value → Prop := Paired RelV
theorem Vals.length {xs : List V} {us : List Value} (r : Vals xs us) : xs.length = us.length := Paired.length r
theorem Vals.get : ∀ {xs : List V} {us : List Value} {i : Nat} {x : V}, Vals xs us → xs[i]? = some x → ∃ u, us[i]? = some u ∧ RelV x u
  | _, _, _, _, .nil, e => by simp at e
  | _, _, 0, _, .cons r _, e => by simp at e; subst e; exact ⟨_, rfl, r⟩
  | _, _, i + 1, x, .cons _ t, e => by
    obtain ⟨u, h1, h2⟩ := Vals.get (i := i) (x := x) t (by simpa using e)
    exact ⟨u, by simpa using h1, h2⟩
theorem Vals.append : ∀ {xs ys : List V} {us ws : List Value}, Vals xs us → Vals ys ws → Vals (xs ++ ys) (us ++ ws)
  | _, _, _, _, .nil, s => s
  | _, _, _, _, .cons r t, s => .cons r (Vals.append t s)
theorem Vals.take : ∀ {xs : List V} {us : List Value} (n : Nat), Vals xs us → Vals (xs.take n) (us.take n)
  | _, _, 0, _ => .nil
  | _, _, _ + 1, .nil => .nil
  | _, _, n + 1, .cons r t => .cons r (Vals.take n t)
theorem Vals.drop : ∀ {xs : List V} {us : List Value} (n : Nat), Vals xs us → Vals (xs.drop n) (us.drop n)
  | _, _, 0, r => r
  | _, _, _ + 1, .nil => .nil
  | _, _, n + 1, .cons _ t => Vals.drop n t
def RelO : Option V → Option Value → Prop
  | some v, some u => RelV v u
  | none, none => True
  | _, _ => False
def KV {κ : Type} : List (κ × V) → List (κ × Value) → Prop := Paired fun (p : κ × V) (q : κ × Value) => p.1 = q.1 ∧ RelV p.2 q.2
/-- a key of a dict (00_mix): an int or a text -/
def kV : Key → V
  | .inl i => .int i
  | .inr x => .str x
/-- what stands at a tracked address -/
inductive HO where
  /-- a list -/
  | lst (xs : List V)
  /-- a tuple (never changes) -/
  | tup (xs : List V)
  /-- a dict whose keys are ints and texts; one whose keys are tuples of ints and texts (the empty one is both) -/
  | dK (kvs : List (Key × V)) | dT (kvs : List (List Key × V))
  /-- a set of ints: its members, its size -/
  | set (S : Int → Bool) (n : Nat)
  /-- an instance of the class at C, its dict at dx, its attributes -/
  | ins (C dx : Addr) (fs : List (Str × V))
  /-- the dict of the instance at x -/
  | own (x : Addr)
  /-- the dict of an exception -/
  | xd (fs : List (Str × V))
  /-- a bound method, f of x -/
  | met (f x : Addr)
  /-- a range object lo, lo + 1, .. below hi -/
  | rng (lo hi : Int)
  /-- a thing that is known to the object (the script; a dict while a loop walks it): read, never written while it is so -/
  | frz (o : Obj) (u : HO)
  /-- a code object's table -/
  | tbl (ps : Array Value)
  /-- any other thing, by what is true of its one object (a def of one's own: SetO a S n := HO.ext fun h => ..) -/
  | ext (φ : Heap → Prop)
abbrev Hp := Addr → Option HO
def upd (H : Hp) (a : Addr) (o : HO) : Hp := fun b => if b = a then some o else H b
theorem upd_same {H : Hp} {a : Addr} {o : HO} : upd H a o a = some o := by unfold upd; rw [if_pos rfl]
theorem upd_ne {H : Hp} {a b : Addr} {o : HO} (h : b ≠ a) : upd H a o b = H b := by unfold upd; rw [if_neg h]
/-- two objects of different content stand apart -/
theorem ne_of {H : Hp} {a b : Addr} {o u : HO} (h : H a = some o) (h' : H b = some u) (d : o ≠ u) : a ≠ b := by
  intro e; subst e; rw [h] at h'; exact d (Option.some.inj h')
theorem ne_of_none {H : Hp} {a b : Addr} {o : HO} (h : H a = some o) (h' : H b = none) : a ≠ b := by
  intro e; subst e; rw [h] at h'; cases h'
/-- a tuple that has no dict of its own: asked for its methods it gives its type's -/
def TupX (h : Heap) (a : Addr) (items : Array Value) : Prop := ∃ o, h.get? a = some o ∧ (o.cls, o.dict) = ((.type "tuple" : Value), (none : Option Addr)) ∧ ∃ n, o.data = .seq items n
theorem TupX.isTup {h : Heap} {a : Addr} {items : Array Value} (x : TupX h a items) : IsTup h a items := let ⟨o, e, c, n, d⟩ := x; ⟨o, e, (Prod.mk.inj c).1, n, d⟩
theorem TupX.bare {h : Heap} {a : Addr} {items : Array Value} (x : TupX h a items) : ∃ o, h.get? a = some o ∧ o.dict = none := let ⟨o, e, c, _⟩ := x; ⟨o, e, (Prod.mk.inj c).2⟩
theorem TupX.lt {h : Heap} {a : Addr} {items : Array Value} (x : TupX h a items) : a < h.objs.size := let ⟨_, e, _⟩ := x; Heap.lt_size e
theorem TupX.new (h : Heap) (items : Array Value) : TupX (h.push { cls := .type "tuple", data := .seq items }) h.objs.size items := ⟨_, Heap.get?_push_size _ rfl, rfl, _, rfl⟩
section
variable (P : Program) (w : World)
def ObjOk (H : Hp) (h : Heap) (a : Addr) : HO → Prop
  | .lst xs => xs.length ≤ sizeLine ∧ ∃ (its : List Value) (n : Nat), Vals xs its ∧ h.get? a = some { cls := .type "list", data := .seq its.toArray n }
  | .tup xs => xs.length ≤ sizeLine ∧ ∃ its : List Value, Vals xs its ∧ TupX h a its.toArray
  | .dK kvs => kvs.length ≤ sizeLine ∧ (a == sysModules) = false ∧ ∃ vs, KV kvs vs ∧ h.DictOf (mixKind P w) a vs
  | .dT kvs => kvs.length ≤ sizeLine ∧ (a == sysModules) = false ∧ ∃ xs : List (List Key × Addr × Value),
      Paired (fun (p : List Key × V) (q : List Key × Addr × Value) => p.1 = q.1 ∧ H q.2.1 = some (.tup (p.1.map kV)) ∧ RelV p.2 q.2.2) kvs xs ∧
      ∃ o es ep, h.get? a = some o ∧ o.ExactDict ∧ o.data = .dict es ep ∧ es.toList = xs.map (entryOfKey (tupleKind (mixKind P w))) ∧ (xs.map (·.1)).Nodup
  | .set S n => h.SetOf (intKind P w) a S n
  | .ins C dx fs => H dx = some (.own a) ∧ fs.length ≤ 1000 ∧ dx ≠ a ∧ h.get? a = some (PySem.W.instObj C dx) ∧
      ∃ mA, h.Ns1 dx mA ∧ (∀ f, RelO (fs.lookup f) (mA f)) ∧ PySem.Within mA (fs.map (·.1))
  | .own _ => ∃ o, h.get? a = some o
  | .xd fs => ∃ mA, h.Ns1 a mA ∧ ∀ f, RelO (fs.lookup f) (mA f)
  | .rng lo hi => ∃ t u v, h.get? a = some { cls := .type "range", data := .fields #[.int lo t, .int hi u, .int 1 v] }
  | .frz o u => h.get? a = some o ∧ ObjOk H h a u
  | .tbl ps => h.get? a = some { cls := .none, data := .fields ps }
  | .met f x => h.get? a = some (PySem.W.methodObj (.ref f) (.ref x))
  | .ext φ => φ h ∧ (∃ o, h.get? a = some o) ∧ ∀ h1 h2 : Heap, φ h1 → (∀ o, h1.get? a = some o → h2.get? a = some o) → φ h2
/-- the abstract heap is held -/
def HOk (H : Hp) (h : Heap) : Prop := ∀ a o, H a = some o → ObjOk P w H h a o
end
section
variable {P : Program} {w : World} {H H' : Hp} {h h' : Heap} {a : Addr} {o : HO}
theorem ObjOk.lt (x : ObjOk P w H h a o) : a < h.objs.size := by
  cases o with
  | lst xs => obtain ⟨_, _, _, _, e⟩ := x; exact Heap.lt_size e
  | tup xs => obtain ⟨_, _, _, p⟩ := x; exact p.lt
  | dK kvs => obtain ⟨_, _, _, _, o, _, _, e, _⟩ := x; exact Heap.lt_size e
  | dT kvs => obtain ⟨_, _, _, _, o, _, _, e, _⟩ := x; exact Heap.lt_size e
  | set S n => obtain ⟨o, _, _, _, e, _⟩ := x; exact Heap.lt_size e
  | ins C dx fs => obtain ⟨_, _, _, e, _⟩ := x; exact Heap.lt_size e
  | own y => obtain ⟨_, e⟩ := x; exact Heap.lt_size e
  | xd fs => obtain ⟨_, ⟨_, _, _, e, _⟩, _⟩ := x; exact Heap.lt_size e
  | rng lo hi => obtain ⟨_, _, _, e⟩ := x; exact Heap.lt_size e
  | frz ob u => obtain ⟨e, _⟩ := x; exact Heap.lt_size e
  | tbl ps => exact Heap.lt_size (show h.get? a = some _ from x)
  | met f y => exact Heap.lt_size (show h.get? a = some _ from x)
  | ext φ => obtain ⟨_, ⟨_, e⟩, _⟩ := x; exact Heap.lt_size e
theorem Paired.mapP {α β : Type} {F G : α → β → Prop} : ∀ {l₁ : List α} {l₂ : List β}, Paired F l₁ l₂ → (∀ a b, F a b → G a b) → Paired G l₁ l₂
  | _, _, .nil, _ => .nil
  | _, _, .cons r t, f => .cons (f _ _ r) (Paired.mapP t f)
/-- what an object's description leans on: its own object, its own dict, the tuples -/
theorem ObjOk.stay (x : ObjOk P w H h a o) (k : ∀ b u, (b = a ∨ H b = some (.own a)) → h.get? b = some u → h'.get? b = some u)
    (ho : ∀ b, H b = some (.own a) → H' b = some (.own a)) (ht : ∀ b xs, H b = some (.tup xs) → H' b = some (.tup xs)) : ObjOk P w H' h' a o := by
  induction o with
  | lst xs => obtain ⟨z, its, n, r, e⟩ := x; exact ⟨z, its, n, r, k _ _ (.inl rfl) e⟩
  | tup xs => obtain ⟨z, its, r, ob, e, c⟩ := x; exact ⟨z, its, r, ob, k _ _ (.inl rfl) e, c⟩
  | dK kvs => obtain ⟨z, y, vs, r, ob, es, ep, e, c⟩ := x; exact ⟨z, y, vs, r, ob, es, ep, k _ _ (.inl rfl) e, c⟩
  | dT kvs =>
    obtain ⟨z, y, xs, r, ob, es, ep, e, c⟩ := x
    exact ⟨z, y, xs, Paired.mapP r fun p q z => ⟨z.1, ht _ _ z.2.1, z.2.2⟩, ob, es, ep, k _ _ (.inl rfl) e, c⟩
  | set S n => obtain ⟨ob, es, ep, t, e, c⟩ := x; exact ⟨ob, es, ep, t, k _ _ (.inl rfl) e, c⟩
  | ins C dx fs =>
    obtain ⟨d, z, ne, e, mA, ⟨od, es, ep, e2, c⟩, r⟩ := x
    exact ⟨ho _ d, z, ne, k _ _ (.inl rfl) e, mA, ⟨od, es, ep, k _ _ (.inr d) e2, c⟩, r⟩
  | own y => obtain ⟨ob, e⟩ := x; exact ⟨ob, k _ _ (.inl rfl) e⟩
  | xd fs => obtain ⟨mA, ⟨od, es, ep, e, c⟩, r⟩ := x; exact ⟨mA, ⟨od, es, ep, k _ _ (.inl rfl) e, c⟩, r⟩
  | rng lo hi => obtain ⟨t, u, v, e⟩ := x; exact ⟨t, u, v, k _ _ (.inl rfl) e⟩
  | frz ob u ih => obtain ⟨e, q⟩ := x; exact ⟨k _ _ (.inl rfl) e, ih q⟩
  | tbl ps =>
    have e : h.get? a = some { cls := .none, data := .fields ps } := x
    show h'.get? a = some { cls := .none, data := .fields ps }
    exact k a _ (.inl rfl) e
  | met f y =>
    have e : h.get? a = some (PySem.W.methodObj (.ref f) (.ref y)) := x
    show h'.get? a = some (PySem.W.methodObj (.ref f) (.ref y))
    exact k a _ (.inl rfl) e
  | ext φ => obtain ⟨p, ⟨o, e⟩, st⟩ := x; exact ⟨st _ _ p fun o q => k _ _ (.inl rfl) q, ⟨o, k _ _ (.inl rfl) e⟩, st⟩
theorem HOk.lt (x : HOk P w H h) (e : H a = some o) : a < h.objs.size := (x a o e).lt
theorem HOk.fresh (x : HOk P w H h) (e : h.objs.size ≤ a) : H a = none := by
  cases q : H a with
  | none => rfl
  | some u => exact absurd (Nat.lt_of_lt_of_le (x.lt q) e) (Nat.lt_irrefl _)
/-- every object of the heap is kept -/
theorem HOk.kept (x : HOk P w H h) (k : ∀ b u, h.get? b = some u → h'.get? b = some u) : HOk P w H h' := fun a o e =>
  (x a o e).stay (fun b u _ q => k b u q) (fun _ q => q) fun _ _ q => q
/-- a new object is laid and tracked -/
theorem HOk.laid (x : HOk P w H h) (k : ∀ b u, h.get? b = some u → h'.get? b = some u) (hp : h.objs.size ≤ a) (new : ObjOk P w (upd H a o) h' a o) : HOk P w (upd H a o) h' := fun b u e => by
  have hn := x.fresh hp
  by_cases hb : b = a
  · subst hb; rw [upd_same] at e; cases e; exact new
  · rw [upd_ne hb] at e
    exact (x b u e).stay (fun c v _ q => k c v q) (fun c q => by rw [upd_ne (ne_of_none q hn)]; exact q) fun c xs q => by rw [upd_ne (ne_of_none q hn)]; exact q
end
/-- what may be read as u: it is u, or a known u -/
def Rd (H : Hp) (a : Addr) (u : HO) : Prop := H a = some u ∨ ∃ o, H a = some (.frz o u)
theorem Rd.ok {P : Program} {w : World} {H : Hp} {h : Heap} {a : Addr} {u : HO} (r : Rd H a u) (x : HOk P w H h) : ObjOk P w H h a u := by
  rcases r with r | ⟨o, r⟩
  · exact x a u r
  · obtain ⟨_, q⟩ := x a _ r
    exact q
/-- what may be written -/
def Mut : Option HO → Prop
  | some (.lst _) => True
  | some (.dK _) => True
  | some (.dT _) => True
  | some (.set _ _) => True
  | some (.ins _ _ _) => True
  | some (.ext _) => True
  | _ => False
section
variable {P : Program} {w : World} {H : Hp} {h h' : Heap} {x e : Addr} {o' : HO}
/-- the object at e is changed: x itself, or the dict of the instance x -/
theorem HOk.write (ok : HOk P w H h) (mu : Mut (H x)) (he : e = x ∨ H e = some (.own x)) (k : ∀ b u, b ≠ e → h.get? b = some u → h'.get? b = some u) (heo : ∃ u, h'.get? e = some u)
    (new : ObjOk P w (upd H x o') h' x o') : HOk P w (upd H x o') h' := fun b u q => by
  have nown : ∀ c y, H c = some (.own y) → c ≠ x := fun c y r z => by subst z; rw [r] at mu; exact mu
  have ntup : ∀ c xs, H c = some (.tup xs) → c ≠ x := fun c xs r z => by subst z; rw [r] at mu; exact mu
  by_cases hb : b = x
  · subst hb; rw [upd_same] at q; cases q; exact new
  · rw [upd_ne hb] at q
    by_cases hbe : b = e
    · have q' : H b = some (.own x) := by
        rcases he with z | z
        · exact absurd (hbe.trans z) hb
        · rw [hbe]; exact z
      rw [q] at q'; cases q'
      obtain ⟨v, hv⟩ := heo
      exact ⟨v, by rw [hbe]; exact hv⟩
    · refine (ok b u q).stay (fun c v hc r => k c v ?_ r) (fun c r => by rw [upd_ne (nown c b r)]; exact r) fun c xs r => by rw [upd_ne (ntup c xs r)]; exact r
      rcases hc with rfl | hc
      · exact hbe
      · rintro rfl
        rcases he with z | z
        · exact nown c b hc z
        · rw [hc] at z; cases z; exact hb rfl
end
structure Un (fs ex : List Addr) (H H' : Hp) (h h' : Heap) : Prop where
  keep : ∀ b o, h.get? b = some o → H b = none → b ∉ fs → b ∉ ex → h'.get? b = some o
  slot : ∀ b o, h.get? b = some o → H b = none → b ∈ fs → b ∉ ex → ∃ sl, h'.get? b = some { o with slots := sl }
  free : ∀ b o, h.get? b = some o → H b = none → b ∉ ex → H' b = none
  there : ∀ b o, h.get? b = some o → b ∉ ex → ∃ o', h'.get? b = some o'
  tups : ∀ b xs, H b = some (.tup xs) → H' b = some (.tup xs)
  frzs : ∀ b o u, H b = some (.frz o u) → H' b = some (.frz o u)
  tbls : ∀ b ps, H b = some (.tbl ps) → ∃ more, H' b = some (.tbl (ps ++ more))
section
variable {fs fs' ex ex' : List Addr} {H H1 H2 : Hp} {h h1 h2 h' : Heap} {a x e : Addr} {o : HO}
theorem Un.any (u : Un fs ex H H1 h h1) {b : Addr} {ob : Obj} (q : h.get? b = some ob) (n : H b = none) (hx : b ∉ ex) : ∃ sl, h1.get? b = some { ob with slots := sl } := by
  by_cases hb : b ∈ fs
  · exact u.slot b ob q n hb hx
  · exact ⟨ob.slots, u.keep b ob q n hb hx⟩
theorem Un.kept (k : ∀ b u, h.get? b = some u → h'.get? b = some u) : Un fs ex H H h h' :=
  ⟨fun b ob q _ _ _ => k b ob q, fun b ob q _ _ _ => ⟨ob.slots, k b ob q⟩, fun _ _ _ n _ => n, fun b ob q _ => ⟨ob, k b ob q⟩, fun _ _ q => q, fun _ _ _ q => q, fun _ ps q => ⟨#[], by rw [q]; simp⟩⟩
theorem Un.refl : Un fs ex H H h h := Un.kept fun _ _ q => q
theorem Un.laid (k : ∀ b u, h.get? b = some u → h'.get? b = some u) (hp : h.objs.size ≤ a) (hn : H a = none) : Un fs ex H (upd H a o) h h' where
  keep := fun b u q _ _ _ => k b u q
  slot := fun b u q _ _ _ => ⟨u.slots, k b u q⟩
  free := fun b u q n _ => by rw [upd_ne (Nat.ne_of_lt (Nat.lt_of_lt_of_le (Heap.lt_size q) hp))]; exact n
  there := fun b u q _ => ⟨u, k b u q⟩
  tups := fun b xs q => by rw [upd_ne (ne_of_none q hn)]; exact q
  frzs := fun b u xs q => by rw [upd_ne (ne_of_none q hn)]; exact q
  tbls := fun b ps q => ⟨#[], by rw [upd_ne (ne_of_none q hn), q]; simp⟩
theorem Un.write (mu : Mut (H x)) (he : e = x ∨ H e = some (.own x)) (k : ∀ b u, b ≠ e → h.get? b = some u → h'.get? b = some u) (heo : ∃ u, h'.get? e = some u) : Un fs ex H (upd H x o) h h' := by
  have hx : ∀ b, H b = none → b ≠ x := fun b n z => by subst z; rw [n] at mu; exact mu
  have hb : ∀ b, H b = none → b ≠ e := fun b n z => by
    subst z
    rcases he with r | r
    · exact hx b n r
    · rw [n] at r; cases r
  have hm : ∀ b u, H b = some u → ¬ Mut (some u) → b ≠ x := fun b u q nm z => by subst z; rw [q] at mu; exact nm mu
  refine ⟨fun b u q n _ _ => k b u (hb b n) q, fun b u q n _ _ => ⟨u.slots, k b u (hb b n) q⟩, fun b u q n _ => by rw [upd_ne (hx b n)]; exact n, fun b u q _ => ?_,
    fun b xs q => by rw [upd_ne (hm b _ q fun z => z)]; exact q, fun b u xs q => by rw [upd_ne (hm b _ q fun z => z)]; exact q, fun b ps q => ⟨#[], by rw [upd_ne (hm b _ q fun z => z), q]; simp⟩⟩
  by_cases hbe : b = e
  · subst hbe; exact heo
  · exact ⟨u, k b u hbe q⟩
end
def trk (h : Heap) (H : Hp) : List Addr := (List.range h.objs.size).filter fun a => (H a).isSome
def hidT (h : Heap) (H : Hp) : Heap := PySem.W.hideAll h (trk h H)
theorem hidT_size (h : Heap) (H : Hp) : (hidT h H).objs.size = h.objs.size := PySem.W.hideAll_size _ _
theorem hidT_get {h : Heap} {H : Hp} {b : Addr} {o : Obj} (e : h.get? b = some o) (n : H b = none) : (hidT h H).get? b = some o :=
  PySem.W.hideAll_get _ e fun hm => by
    have q : (H b).isSome = true := (List.mem_filter.mp hm).2
    rw [n] at q; simp at q
theorem of_hidT {h : Heap} {H : Hp} {b : Addr} {o : Obj} (e : (hidT h H).get? b = some o) : h.get? b = some o ∧ H b = none := by
  have e' : h.get? b = some o := PySem.W.of_hideAll (trk h H) e
  refine ⟨e', ?_⟩
  cases q : H b with
  | none => rfl
  | some x =>
    have hm : b ∈ trk h H := List.mem_filter.mpr ⟨List.mem_range.mpr (Heap.lt_size e'), by simp [q]⟩
    have z : (hidT h H).get? b = none := PySem.W.hideAll_none (trk h H) hm
    rw [z] at e; cases e
end L2
namespace L2
open PySem PySem.Spec PyProof.Rows
/-- the module's facts, over the base: the heap at the law's entry without what is tracked there -/
structure Mod (K : PySem.W.Frag) (mg : Str → Option Value) (base : Heap) : Prop where
  kin : K.In base
  glob : base.Ns mainGlobals mg
  blt : ∃ mb, base.Ns builtinsNs mb ∧ ∀ x : Str, x ≠ "__name__" → mb x = bootBuiltins x
  nolimit : base.NoLimit
/-- the context: a def's body (or a comprehension's block) running. base: fixed through the whole law; s₀, H₀: the entry; outer: the frames whose slots others may change (a def's callers); stack: all frames that run;
   ex: iterators that were made ahead of the entry and are walked here (a comprehension's); fn: the names whose cells were made at the entry (a def: all; a comprehension's block: its own); calm: not within an except suite; pn: pins that every state bears; xe: what is wanted of an exception that leaves the code -/
structure Cx where
  prog : Program
  w : World
  K : PySem.W.Frag
  mg : Str → Option Value
  base : Heap
  A : Around
  N : List Str
  s_0 : Shared
  H_0 : Hp
  env : Env
  outer : List Env
  stack : List Env
  ex : List Addr
  fn : Str → Bool
  calm : Bool
  pn : List (Addr × Obj)
  xe : Value → Shared → Prop
/-- the callers' frames -/
def frs (l : List Env) : List Addr := l.filterMap (·.frame)
abbrev Cx.fs (X : Cx) : List Addr := frs X.outer
def Vis (sc : Scope) (x : Str) : Prop := sc.names.lookup x = some .local ∨ sc.names.lookup x = some .cell ∨ sc.names.lookup x = some .free
def Loc (sc : Scope) (x : Str) : Prop := sc.names.lookup x = some .local ∨ sc.names.lookup x = some .cell
def Look (env : Env) (h : Heap) (m : Str → Option Value) (x : Str) (u : Value) : Prop :=
  (env.kindOf x = some .local ∧ m x = some u) ∨ ((env.kindOf x = some .cell ∨ env.kindOf x = some .free) ∧ ∃ c, env.cells.lookup x = some c ∧ h.IsCell c (some u))
structure Cx.Ok (X : Cx) : Prop where
  mod : Mod X.K X.mg X.base
  kind : X.env.scope.kind = .function
  glob : X.env.globals = mainGlobals
  blt : X.env.builtins = builtinsNs
  above : X.s_0.heap.objs.size ≤ X.env.locals
  inj : ∀ x y c, X.env.cells.lookup x = some c → X.env.cells.lookup y = some c → x = y
  has : ∀ x, (X.env.kindOf x = some .cell ∨ X.env.kindOf x = some .free) → ∃ c, X.env.cells.lookup x = some c
  cab : ∀ x c, X.fn x = true → X.env.cells.lookup x = some c → X.s_0.heap.objs.size ≤ c
  hd : X.calm = true → X.A.handled = none
  frames : X.A.frames = some X.stack
  stk : X.stack = X.outer ∨ (X.stack = X.env :: X.outer ∧ X.env.frame = some X.env.locals)
  exf : ∀ b ∈ X.ex, b ≠ X.env.locals ∧ ∀ x c, X.env.cells.lookup x = some c → c ≠ b
  bs : ∀ b o, X.base.get? b = some o → X.s_0.heap.get? b = some o ∧ X.H_0 b = none
  bsz : X.base.objs.size ≤ X.s_0.heap.objs.size
  noex : ∀ b o, X.base.get? b = some o → b ∉ X.ex
  exfs : ∀ b ∈ X.ex, b ∉ X.fs
  funs : X.s_0.heap.FunFrames X.base X.outer
  frf : ∀ b ∈ X.fs, X.H_0 b = none
structure Inv (X : Cx) (pins : List (Addr × Obj)) (σ : List (Option V)) (H : Hp) (s : Shared) : Prop where
  ok : X.Ok
  os : s.os = X.s_0.os
  bare : AllBare s.gens
  base : Un X.fs X.ex X.H_0 H X.s_0.heap s.heap
  loc : ∃ m, s.heap.Ns X.env.locals m ∧ ∀ (i : Nat) (x : Str) (v : V), X.N[i]? = some x → σ[i]? = some (some v) → Vis X.env.scope x → ∃ u, RelV v u ∧ Look X.env s.heap m x u
  cell : ∀ x c, X.env.cells.lookup x = some c → ∃ v, s.heap.IsCell c v
  free : H X.env.locals = none
  freeC : ∀ x c, X.env.cells.lookup x = some c → H c = none
  pin : ∀ p ∈ X.pn ++ pins, s.heap.get? p.1 = some p.2 ∧ H p.1 = none ∧ p.1 ≠ X.env.locals ∧ p.1 ∉ X.fs ∧ ∀ v, p.2.data ≠ .cell v
  hok : HOk X.prog X.w H s.heap
  len : σ.length = X.N.length
section
variable {X : Cx} {pins : List (Addr × Obj)} {σ : List (Option V)} {H H' : Hp} {s : Shared} {h' : Heap}
theorem Cx.Ok.nofr (ok : X.Ok) {b : Addr} {o : Obj} (e : X.base.get? b = some o) : b ∉ X.fs := fun hb => by
  have := (ok.funs.mem hb).1
  rw [e] at this; cases this
theorem Inv.bs (I : Inv X pins σ H s) : ∀ b o, X.base.get? b = some o → s.heap.get? b = some o ∧ H b = none := fun b o e =>
  ⟨I.base.keep b o (I.ok.bs b o e).1 (I.ok.bs b o e).2 (I.ok.nofr e) (I.ok.noex b o e), I.base.free b o (I.ok.bs b o e).1 (I.ok.bs b o e).2 (I.ok.noex b o e)⟩
theorem Inv.bk (I : Inv X pins σ H s) : ∀ b o, X.base.get? b = some o → s.heap.get? b = some o := fun b o e => (I.bs b o e).1
theorem Inv.mod (I : Inv X pins σ H s) : Mod X.K X.mg X.base := I.ok.mod
theorem Inv.kIn (I : Inv X pins σ H s) : X.K.In s.heap := I.ok.mod.kin.keeps I.bk
theorem Inv.lt (I : Inv X pins σ H s) : X.env.locals < s.heap.objs.size := let ⟨_, hn, _⟩ := I.loc; hn.lt
theorem Inv.sz (I : Inv X pins σ H s) : X.s_0.heap.objs.size ≤ s.heap.objs.size := Nat.le_trans I.ok.above (Nat.le_of_lt I.lt)
theorem Inv.nofs (I : Inv X pins σ H s) {a : Addr} (h : s.heap.objs.size ≤ a) : a ∉ X.fs := fun hb => by
  obtain ⟨_, o, ho, _⟩ := I.ok.funs.mem hb
  exact absurd (Nat.lt_of_lt_of_le (Heap.lt_size ho) (Nat.le_trans I.sz h)) (Nat.lt_irrefl _)
theorem Inv.cne (I : Inv X pins σ H s) : ∀ x c, X.env.cells.lookup x = some c → c ≠ X.env.locals := fun x c e z => by
  obtain ⟨v, o, ho, hd⟩ := I.cell x c e
  obtain ⟨m, ⟨o', es, ep, ho', hd', _⟩, _⟩ := I.loc
  rw [z, ho'] at ho; cases ho; rw [hd'] at hd; cases hd
theorem Inv.funs (I : Inv X pins σ H s) : s.heap.FunFrames X.base X.outer := by
  have all : ∀ (l : List Env), (∀ b ∈ frs l, b ∈ X.fs) → X.s_0.heap.FunFrames X.base l → s.heap.FunFrames X.base l := by
    intro l
    induction l with
    | nil => intro _ _; trivial
    | cons env r ih =>
      intro hs hl
      obtain ⟨hk, ⟨L, o, hf, hn, ho, hd⟩, hr⟩ := hl
      have hL : L ∈ X.fs := hs L (by unfold frs; rw [List.filterMap_cons, hf]; exact List.mem_cons_self)
      obtain ⟨sl, e⟩ := I.base.slot L o ho (I.ok.frf L hL) hL fun z => I.ok.exfs L z hL
      exact ⟨hk, ⟨L, _, hf, hn, e, hd⟩, ih (fun b hb => hs b (by unfold frs; rw [List.filterMap_cons, hf]; exact List.mem_cons_of_mem _ hb)) hr⟩
  exact all X.outer (fun _ hb => hb) I.ok.funs
/-- the frames that run, for a call -/
theorem Inv.stack (I : Inv X pins σ H s) : s.heap.FunFrames X.base X.stack := by
  rcases I.ok.stk with e | ⟨e, hf⟩
  · rw [e]; exact I.funs
  · rw [e]
    obtain ⟨m, hn, _⟩ := I.loc
    refine .cons (by rw [I.ok.kind]; decide) hf hn ?_ I.funs
    exact Heap.get?_none_of_le (Nat.le_trans I.ok.bsz I.ok.above)
theorem Inv.stkSub (I : Inv X pins σ H s) : ∀ b ∈ frs X.stack, b ∈ X.env.locals :: X.fs := fun b hb => by
  rcases I.ok.stk with e | ⟨e, hf⟩
  · rw [e] at hb; exact List.mem_cons_of_mem _ hb
  · rw [e] at hb
    unfold frs at hb
    rw [List.filterMap_cons, hf] at hb
    exact hb
theorem Inv.stkFree (I : Inv X pins σ H s) : ∀ b ∈ frs X.stack, H b = none := fun b hb => by
  rcases List.mem_cons.mp (I.stkSub b hb) with e | hb
  · rw [e]; exact I.free
  · obtain ⟨_, o, ho, _⟩ := I.ok.funs.mem hb
    exact I.base.free b o ho (I.ok.frf b hb) fun z => I.ok.exfs b z hb
/-- THE STEP: the untracked objects but the frame and the records at ch are kept (the callers' frames up to slots), the frame's map is kept, the new abstract heap is held -/
theorem Inv.step {g' : Array GenState} {t' : Nat} {d' : Drawn} {ch : List Addr} (I : Inv X pins σ H s)
    (hch : ∀ b ∈ ch, (b ∈ X.ex ∨ X.s_0.heap.objs.size ≤ b) ∧ b ≠ X.env.locals ∧ (∀ x c, X.env.cells.lookup x = some c → c ≠ b) ∧ ∀ p ∈ X.pn ++ pins, p.1 ≠ b)
    (keep : ∀ b o, b ≠ X.env.locals → b ∉ X.fs → b ∉ ch → s.heap.get? b = some o → H b = none → h'.get? b = some o)
    (slot : ∀ b o, b ≠ X.env.locals → b ∈ X.fs → b ∉ ch → s.heap.get? b = some o → H b = none → ∃ sl, h'.get? b = some { o with slots := sl }) (free : ∀ b o, b ∉ ch → s.heap.get? b = some o → H b = none → H' b = none)
    (there : ∀ b o, b ∉ ch → s.heap.get? b = some o → ∃ o', h'.get? b = some o')
    (tups : ∀ b xs, H b = some (.tup xs) → H' b = some (.tup xs)) (frzs : ∀ b o u, H b = some (.frz o u) → H' b = some (.frz o u)) (tbls : ∀ b ps, H b = some (.tbl ps) → ∃ more, H' b = some (.tbl (ps ++ more)))
    (ns : ∀ m, s.heap.Ns X.env.locals m → h'.Ns X.env.locals m) (hok : HOk X.prog X.w H' h') (hg : AllBare g') :
    Inv X pins σ H' { s with heap := h', gens := g', drawn := d', toks := t' } := by
  have neL : ∀ b o, X.s_0.heap.get? b = some o → b ≠ X.env.locals := fun b o e => Nat.ne_of_lt (Nat.lt_of_lt_of_le (Heap.lt_size e) I.ok.above)
  have neC : ∀ b o, X.s_0.heap.get? b = some o → b ∉ X.ex → b ∉ ch := fun b o e hx hb => by
    rcases (hch b hb).1 with z | z
    · exact hx z
    · exact absurd (Nat.lt_of_lt_of_le (Heap.lt_size e) z) (Nat.lt_irrefl _)
  have cellK : ∀ x c, X.env.cells.lookup x = some c → ∀ v, s.heap.IsCell c v → h'.IsCell c v := fun x c e v ⟨o, ho, hd⟩ => by
    have nch : c ∉ ch := fun z => (hch c z).2.2.1 x c e rfl
    by_cases hc : c ∈ X.fs
    · obtain ⟨sl, q⟩ := slot c o (I.cne x c e) hc nch ho (I.freeC x c e)
      exact ⟨_, q, hd⟩
    · exact ⟨o, keep c o (I.cne x c e) hc nch ho (I.freeC x c e), hd⟩
  refine ⟨I.ok, I.os, hg, ⟨fun b o e n hb hx => ?_, fun b o e n hb hx => ?_, fun b o e n hx => ?_, fun b o e hx => ?_, fun b xs e => tups b xs (I.base.tups b xs e), fun b o xs e => frzs b o xs (I.base.frzs b o xs e), fun b ps e => ?_⟩, ?_, fun x c e => ?_, ?_, fun x c e => ?_, fun p hp => ?_, hok, I.len⟩
  · exact keep b o (neL b o e) hb (neC b o e hx) (I.base.keep b o e n hb hx) (I.base.free b o e n hx)
  · obtain ⟨sl, e1⟩ := I.base.slot b o e n hb hx
    obtain ⟨sl', e2⟩ := slot b _ (neL b o e) hb (neC b o e hx) e1 (I.base.free b o e n hx)
    exact ⟨sl', e2⟩
  · obtain ⟨o', e1⟩ := I.base.there b o e hx
    exact free b o' (neC b o e hx) e1 (I.base.free b o e n hx)
  · obtain ⟨o', e1⟩ := I.base.there b o e hx
    exact there b o' (neC b o e hx) e1
  · obtain ⟨m1, e1⟩ := I.base.tbls b ps e
    obtain ⟨m2, e2⟩ := tbls b _ e1
    exact ⟨m1 ++ m2, by rw [e2, Array.append_assoc]⟩
  · obtain ⟨m, hn, hl⟩ := I.loc
    refine ⟨m, ns m hn, fun i x v e1 e2 e3 => ?_⟩
    obtain ⟨u, r, l⟩ := hl i x v e1 e2 e3
    refine ⟨u, r, ?_⟩
    rcases l with l | ⟨k, c, e, z⟩
    · exact .inl l
    · exact .inr ⟨k, c, e, cellK x c e _ z⟩
  · obtain ⟨v, z⟩ := I.cell x c e
    exact ⟨v, cellK x c e v z⟩
  · obtain ⟨m, ⟨o, _, _, ho, _⟩, _⟩ := I.loc
    exact free _ o (fun z => (hch _ z).2.1 rfl) ho I.free
  · obtain ⟨v, o, ho, hd⟩ := I.cell x c e
    exact free c o (fun z => (hch c z).2.2.1 x c e rfl) ho (I.freeC x c e)
  · obtain ⟨e, n, ne, nf, d⟩ := I.pin p hp
    have nch : p.1 ∉ ch := fun z => (hch p.1 z).2.2.2 p hp rfl
    exact ⟨keep p.1 p.2 ne nf nch e n, free p.1 p.2 nch e n, ne, nf, d⟩
/-- .. where the frame's own object is kept too -/
theorem Inv.un {t' : Nat} (I : Inv X pins σ H s) (u : Un X.fs [] H H' s.heap h') (hok : HOk X.prog X.w H' h') : Inv X pins σ H' { s with heap := h', toks := t' } := by
  obtain ⟨m, ⟨o, es, ep, ho, r⟩, _⟩ := id I.loc
  obtain ⟨sl, hL⟩ := u.any ho I.free (by simp)
  exact I.step (g' := s.gens) (d' := s.drawn) (ch := []) (fun _ z => nomatch z) (fun b o _ hb _ e n => u.keep b o e n hb (by simp)) (fun b o _ hb _ e n => u.slot b o e n hb (by simp)) (fun b o _ e n => u.free b o e n (by simp)) (fun b o _ e => u.there b o e (by simp)) u.tups u.frzs u.tbls (fun m' hm => by
    obtain ⟨o', es', ep', ho', r'⟩ := hm
    rw [ho] at ho'; cases ho'
    exact ⟨_, es', ep', hL, r'⟩) hok I.bare
/-- behind a call (or a comprehension's block): the slots of this frame may have changed too, the records at ch may have turned -/
theorem Inv.call {g' : Array GenState} {t' : Nat} {d' : Drawn} {ch : List Addr} (I : Inv X pins σ H s) (u : Un (frs X.stack) ch H H' s.heap h') (hok : HOk X.prog X.w H' h') (hg : AllBare g')
    (hch : ∀ b ∈ ch, (b ∈ X.ex ∨ X.s_0.heap.objs.size ≤ b) ∧ b ≠ X.env.locals ∧ (∀ x c, X.env.cells.lookup x = some c → c ≠ b) ∧ ∀ p ∈ X.pn ++ pins, p.1 ≠ b) :
    Inv X pins σ H' { s with heap := h', gens := g', drawn := d', toks := t' } := by
  obtain ⟨m, ⟨o, es, ep, ho, r⟩, _⟩ := id I.loc
  obtain ⟨sl, hL⟩ := u.any ho I.free fun z => (hch _ z).2.1 rfl
  exact I.step (ch := ch) hch (fun b o hL hb hc e n => u.keep b o e n (fun z => (List.mem_cons.mp (I.stkSub b z)).elim hL hb) hc) (fun b o _ _ hc e n => u.any e n hc) (fun b o hc e n => u.free b o e n hc) (fun b o hc e => u.there b o e hc) u.tups u.frzs u.tbls (fun m' hm => by
    obtain ⟨o', es', ep', ho', r'⟩ := hm
    rw [ho] at ho'; cases ho'
    exact ⟨_, es', ep', hL, r'⟩) hok hg
/-- an untracked record of ours (an iterator) has turned -/
theorem Inv.turned {t' : Nat} {it : Addr} (I : Inv X pins σ H s) (k : ∀ b o, b ≠ it → s.heap.get? b = some o → h'.get? b = some o) (hn : H it = none) (hL : it ≠ X.env.locals)
    (h1 : it ∈ X.ex ∨ X.s_0.heap.objs.size ≤ it) (h2 : ∀ x c, X.env.cells.lookup x = some c → c ≠ it) (h3 : ∀ p ∈ X.pn ++ pins, p.1 ≠ it) : Inv X pins σ H { s with heap := h', toks := t' } := by
  have nit : ∀ b u, H b = some u → b ≠ it := fun b u e z => by rw [z, hn] at e; cases e
  refine I.step (g' := s.gens) (d' := s.drawn) (ch := [it]) (fun b hb => ?_) (fun b o _ _ hc e _ => k b o (fun z => hc (by simp [z])) e) (fun b o _ _ hc e _ => ⟨o.slots, k b o (fun z => hc (by simp [z])) e⟩) (fun _ _ _ _ n => n)
    (fun b o hc e => ⟨o, k b o (fun z => hc (by simp [z])) e⟩) (fun _ _ e => e) (fun _ _ _ e => e) (fun b ps e => ⟨#[], by rw [e]; simp⟩) (fun m hm => ?_) (fun b u e => ?_) I.bare
  · have e : b = it := by simpa using hb
    subst e
    exact ⟨h1, hL, h2, h3⟩
  · obtain ⟨o, es, ep, ho, r⟩ := hm
    exact ⟨o, es, ep, k _ o (Ne.symm hL) ho, r⟩
  · refine (I.hok b u e).stay (fun c v hc q => k c v ?_ q) (fun _ q => q) fun _ _ q => q
    rcases hc with z | z
    · rw [z]; exact nit b u e
    · exact nit c _ z
theorem Inv.tok (I : Inv X pins σ H s) (t : Nat) : Inv X pins σ H { s with toks := t } := I.un (h' := s.heap) (t' := t) Un.refl I.hok
/-- all objects kept -/
theorem Inv.kept {t' : Nat} (I : Inv X pins σ H s) (k : ∀ b u, s.heap.get? b = some u → h'.get? b = some u) : Inv X pins σ H { s with heap := h', toks := t' } := I.un (Un.kept k) (I.hok.kept k)
/-- a new object laid and tracked -/
theorem Inv.laid {a : Addr} {o : HO} {t' : Nat} (I : Inv X pins σ H s) (k : ∀ b u, s.heap.get? b = some u → h'.get? b = some u) (hp : s.heap.objs.size ≤ a) (new : ObjOk X.prog X.w (upd H a o) h' a o) :
    Inv X pins σ (upd H a o) { s with heap := h', toks := t' } := I.un (Un.laid k hp (I.hok.fresh hp)) (I.hok.laid k hp new)
/-- an object written -/
theorem Inv.write {x e : Addr} {o : HO} {t' : Nat} (I : Inv X pins σ H s) (mu : Mut (H x)) (he : e = x ∨ H e = some (.own x)) (k : ∀ b u, b ≠ e → s.heap.get? b = some u → h'.get? b = some u) (heo : ∃ u, h'.get? e = some u)
    (new : ObjOk X.prog X.w (upd H x o) h' x o) : Inv X pins σ (upd H x o) { s with heap := h', toks := t' } := I.un (Un.write mu he k heo) (I.hok.write mu he k heo new)
/-- forgetting slots, pins -/
theorem Inv.weak {σ' : List (Option V)} (I : Inv X pins σ H s) (hl : σ'.length = σ.length) (w : ∀ (i : Nat) v, σ'[i]? = some (some v) → σ[i]? = some (some v)) : Inv X pins σ' H s :=
  ⟨I.ok, I.os, I.bare, I.base, let ⟨m, hn, hl'⟩ := I.loc; ⟨m, hn, fun i x v e1 e2 e3 => hl' i x v e1 (w i v e2) e3⟩, I.cell, I.free, I.freeC, I.pin, I.hok, hl.trans I.len⟩
theorem Inv.pins_of {pins' : List (Addr × Obj)} (I : Inv X pins σ H s) (h : ∀ p ∈ pins', s.heap.get? p.1 = some p.2 ∧ H p.1 = none ∧ p.1 ≠ X.env.locals ∧ p.1 ∉ X.fs ∧ ∀ v, p.2.data ≠ .cell v) : Inv X pins' σ H s :=
  ⟨I.ok, I.os, I.bare, I.base, I.loc, I.cell, I.free, I.freeC, fun p hp => (List.mem_append.mp hp).elim (fun z => I.pin p (List.mem_append_left _ z)) (h p), I.hok, I.len⟩
theorem nodup_ix {N : List Str} (hN : N.Nodup) {i j : Nat} {x : Str} (a : N[i]? = some x) (b : N[j]? = some x) : i = j := by
  obtain ⟨h1, e1⟩ := List.getElem?_eq_some_iff.mp a
  obtain ⟨h2, e2⟩ := List.getElem?_eq_some_iff.mp b
  exact (List.getElem_inj hN).mp (e1.trans e2.symm)
/-- a name is stored; what changed -/
theorem store_ok2 {M : Model} {A : Around} {E : Value → Shared → Prop} {i : Nat} {x : Str} {v : V} {u : Value} {Q : Unit → Shared → Prop} (I : Inv X pins σ H s) (hN : X.N.Nodup) (hi : X.N[i]? = some x) (hx : Loc X.env.scope x) (r : RelV v u)
    (h : ∀ s', Inv X pins (σ.set i (some v)) H s' → (∃ a, Heap.SameBut a s.heap s'.heap ∧ (a = X.env.locals ∨ X.env.cells.lookup x = some a)) → Q () s') (hf : X.fn x = true ∨ X.env.scope.names.lookup x = some .local := by first | exact .inl rfl | exact .inr rfl | assumption) : wpAny M A (storeName X.env x u) Q E s := by
  obtain ⟨m, hn, hl⟩ := id I.loc
  have hcls : (X.env.scope.kind == .class || (X.env.scope.kind == .module && X.env.locals != X.env.globals)) = false := by rw [I.ok.kind]; rfl
  have hiσ : i < σ.length := by rw [I.len]; exact (List.getElem?_eq_some_iff.mp hi).1
  have cne := I.cne
  have tracked : ∀ {a : Addr} {h' : Heap}, (∃ o, s.heap.get? a = some o ∧ H a = none) → Heap.SameBut a s.heap h' → HOk X.prog X.w H h' := fun {a h'} ha hs b ob e => by
    obtain ⟨_, _, hfree⟩ := ha
    refine (I.hok b ob e).stay (fun c w' hc q => (hs.2 c ?_).trans q) (fun _ q => q) fun _ _ q => q
    rintro rfl
    rcases hc with rfl | hc
    · rw [hfree] at e; cases e
    · rw [hfree] at hc; cases hc
  rcases hx with hk | hk
  · refine wpAny_storeName_local hk hn (fun h' hn' hs => ?_) hcls
    obtain ⟨oL, _, _, hoL, _⟩ := id hn
    refine h _ ⟨I.ok, I.os, I.bare, ⟨fun b o e n hb hx => ?_, fun b o e n hb hx => ?_, I.base.free, fun b o e hx => ?_, I.base.tups, I.base.frzs, I.base.tbls⟩, ⟨_, hn', fun j y v' e1 e2 e3 => ?_⟩, fun y c e => ?_, I.free, I.freeC, fun p hp => ?_, tracked ⟨oL, hoL, I.free⟩ hs, by simpa using I.len⟩ ⟨_, hs, .inl rfl⟩
    · exact (hs.2 b (Nat.ne_of_lt (Nat.lt_of_lt_of_le (Heap.lt_size e) I.ok.above))).trans (I.base.keep b o e n hb hx)
    · obtain ⟨sl, e1⟩ := I.base.slot b o e n hb hx
      exact ⟨sl, (hs.2 b (Nat.ne_of_lt (Nat.lt_of_lt_of_le (Heap.lt_size e) I.ok.above))).trans e1⟩
    · obtain ⟨o', e1⟩ := I.base.there b o e hx
      exact ⟨o', (hs.2 b (Nat.ne_of_lt (Nat.lt_of_lt_of_le (Heap.lt_size e) I.ok.above))).trans e1⟩
    · by_cases hj : j = i
      · subst hj
        rw [hi] at e1; cases e1
        rw [List.getElem?_set_self hiσ] at e2
        cases e2
        exact ⟨u, r, .inl ⟨hk, by simp⟩⟩
      · rw [List.getElem?_set_ne (Ne.symm hj)] at e2
        obtain ⟨u', r', q⟩ := hl j y v' e1 e2 e3
        refine ⟨u', r', ?_⟩
        rcases q with ⟨k, e⟩ | ⟨k, c, e, z⟩
        · refine .inl ⟨k, ?_⟩
          have : y ≠ x := fun e => hj (nodup_ix hN e1 (e ▸ hi))
          simp [this, e]
        · exact .inr ⟨k, c, e, z.sameBut hs (cne y c e)⟩
    · obtain ⟨w', z⟩ := I.cell y c e
      exact ⟨w', z.sameBut hs (cne y c e)⟩
    · obtain ⟨e, n, ne, nf, d⟩ := I.pin p hp
      exact ⟨(hs.2 p.1 ne).trans e, n, ne, nf, d⟩
  · have hfn : X.fn x = true := by
      rcases hf with z | z
      · exact z
      · rw [z] at hk; cases hk
    obtain ⟨c, hc⟩ := I.ok.has x (.inl hk)
    obtain ⟨w', z⟩ := I.cell x c hc
    refine wpAny_storeName_cell I.ok.kind hk hc z (fun h' hc' hs => ?_)
    obtain ⟨oc, hoc, hocd⟩ := id z
    refine h { s with heap := h' } ⟨I.ok, I.os, I.bare, ⟨fun b o e n hb hx => ?_, fun b o e n hb hx => ?_, I.base.free, fun b o e hx => ?_, I.base.tups, I.base.frzs, I.base.tbls⟩, ⟨m, hn.sameBut hs (Ne.symm (cne x c hc)), fun j y v' e1 e2 e3 => ?_⟩, fun y c' e => ?_, I.free, I.freeC, fun p hp => ?_, tracked ⟨oc, hoc, I.freeC x c hc⟩ hs, by simpa using I.len⟩ ⟨c, hs, .inr hc⟩
    · exact (hs.2 b (Nat.ne_of_lt (Nat.lt_of_lt_of_le (Heap.lt_size e) (I.ok.cab x c hfn hc)))).trans (I.base.keep b o e n hb hx)
    · obtain ⟨sl, e1⟩ := I.base.slot b o e n hb hx
      exact ⟨sl, (hs.2 b (Nat.ne_of_lt (Nat.lt_of_lt_of_le (Heap.lt_size e) (I.ok.cab x c hfn hc)))).trans e1⟩
    · obtain ⟨o', e1⟩ := I.base.there b o e hx
      exact ⟨o', (hs.2 b (Nat.ne_of_lt (Nat.lt_of_lt_of_le (Heap.lt_size e) (I.ok.cab x c hfn hc)))).trans e1⟩
    · by_cases hj : j = i
      · subst hj
        rw [hi] at e1; cases e1
        rw [List.getElem?_set_self hiσ] at e2
        cases e2
        exact ⟨u, r, .inr ⟨.inl hk, c, hc, hc'⟩⟩
      · rw [List.getElem?_set_ne (Ne.symm hj)] at e2
        obtain ⟨u', r', q⟩ := hl j y v' e1 e2 e3
        refine ⟨u', r', ?_⟩
        rcases q with q | ⟨k, c', e, z'⟩
        · exact .inl q
        · refine .inr ⟨k, c', e, z'.sameBut hs ?_⟩
          rintro rfl
          exact hj (nodup_ix hN e1 (I.ok.inj _ _ _ e hc ▸ hi))
    · by_cases hcc : c' = c
      · subst hcc; exact ⟨_, hc'⟩
      · obtain ⟨w2, z2⟩ := I.cell y c' e
        exact ⟨w2, z2.sameBut hs hcc⟩
    · obtain ⟨e, n, ne, nf, d⟩ := I.pin p hp
      refine ⟨(hs.2 p.1 ?_).trans e, n, ne, nf, d⟩
      intro q
      rw [q, hoc] at e
      have q' : oc = p.2 := Option.some.inj e
      exact d w' (by rw [← q']; exact hocd)
theorem store_ok {M : Model} {A : Around} {E : Value → Shared → Prop} {i : Nat} {x : Str} {v : V} {u : Value} {Q : Unit → Shared → Prop} (I : Inv X pins σ H s) (hN : X.N.Nodup) (hi : X.N[i]? = some x) (hx : Loc X.env.scope x) (r : RelV v u)
    (h : ∀ s', Inv X pins (σ.set i (some v)) H s' → Q () s') (hf : X.fn x = true ∨ X.env.scope.names.lookup x = some .local := by first | exact .inl rfl | exact .inr rfl | assumption) : wpAny M A (storeName X.env x u) Q E s :=
  store_ok2 I hN hi hx r (fun s' I' _ => h s' I') hf
/-- behind a call or a block, the state as it is -/
theorem Inv.call' {s' : Shared} {ch : List Addr} (I : Inv X pins σ H s) (ho : s'.os = s.os) (u : Un (frs X.stack) ch H H' s.heap s'.heap) (hok : HOk X.prog X.w H' s'.heap) (hg : AllBare s'.gens)
    (hch : ∀ b ∈ ch, (b ∈ X.ex ∨ X.s_0.heap.objs.size ≤ b) ∧ b ≠ X.env.locals ∧ (∀ x c, X.env.cells.lookup x = some c → c ≠ b) ∧ ∀ p ∈ X.pn ++ pins, p.1 ≠ b) : Inv X pins σ H' s' := by
  obtain ⟨h', g', d', t', o'⟩ := s'
  have e : o' = s.os := ho
  subst e
  exact I.call (g' := g') (t' := t') (d' := d') u hok hg hch
end
/-- an exception: its class, its own dict's address (where it has one), the abstract heap behind it -/
abbrev XK := Value → Option Addr → Hp → Prop
abbrev St := List (Option V)
abbrev VK := V → Hp → Prop
/-- an expression's reading; a test's; an argument list's -/
abbrev TE := St → Hp → VK → Prop
abbrev TT := St → Hp → (Bool → Hp → Prop) → Prop
abbrev TA := St → Hp → (List V → Hp → Prop) → Prop
/-- what is wanted behind a statement -/
structure Ends where
  nx : St → Hp → Prop
  rt : VK
  bk : St → Hp → Prop := fun _ _ => False
  ct : St → Hp → Prop := fun _ _ => False
abbrev TS := Ends → St → Hp → Prop
def EP (X : Cx) (pins : List (Addr × Obj)) (σ : St) (Q : VK) (u : Value) (s' : Shared) : Prop := ∃ v H', Inv X pins σ H' s' ∧ RelV v u ∧ Q v H'
def TP (X : Cx) (pins : List (Addr × Obj)) (σ : St) (Q : Bool → Hp → Prop) (b : Bool) (s' : Shared) : Prop := ∃ H', Inv X pins σ H' s' ∧ Q b H'
def AP (X : Cx) (pins : List (Addr × Obj)) (σ : St) (Q : List V → Hp → Prop) (us : List Value) (s' : Shared) : Prop := ∃ vs H', Inv X pins σ H' s' ∧ Vals vs us ∧ Q vs H'
def SP (X : Cx) (pins : List (Addr × Obj)) (D : Ends) (f : Flow) (s' : Shared) : Prop :=
  match f with
  | .next => ∃ σ' H', Inv X pins σ' H' s' ∧ D.nx σ' H'
  | .brk => ∃ σ' H', Inv X pins σ' H' s' ∧ D.bk σ' H'
  | .cont => ∃ σ' H', Inv X pins σ' H' s' ∧ D.ct σ' H'
  | .ret u => ∃ v σ' H', Inv X pins σ' H' s' ∧ RelV v u ∧ D.rt v H'
def PE (X : Cx) (e : Expr) (t : TE) : Prop :=
  ∀ (pins : List (Addr × Obj)) (s : Shared) (σ : St) (H : Hp) (Q : VK), Inv X pins σ H s → t σ H Q → wpAny (model X.prog X.w) X.A (eval e X.env) (EP X pins σ Q) X.xe s
def PT (X : Cx) (e : Expr) (t : TT) : Prop :=
  ∀ (pins : List (Addr × Obj)) (s : Shared) (σ : St) (H : Hp) (Q : Bool → Hp → Prop), Inv X pins σ H s → t σ H Q → wpAny (model X.prog X.w) X.A (isTrue e X.env (eval e X.env)) (TP X pins σ Q) X.xe s
/-- a test whatever its 'whole' is (and, or) -/
def PW (X : Cx) (e : Expr) (t : TT) : Prop :=
  ∀ (whole : Sem Value) (pins : List (Addr × Obj)) (s : Shared) (σ : St) (H : Hp) (Q : Bool → Hp → Prop), Inv X pins σ H s → t σ H Q → wpAny (model X.prog X.w) X.A (isTrue e X.env whole) (TP X pins σ Q) X.xe s
theorem PW.pt {X : Cx} {e : Expr} {t : TT} (h : PW X e t) : PT X e t := h _
/-- an argument list (no star), from the left -/
def PA (X : Cx) (es : List Expr) (t : TA) : Prop :=
  ∀ (pos : Pos) (pins : List (Addr × Obj)) (s : Shared) (σ : St) (H : Hp) (Q : List V → Hp → Prop), Inv X pins σ H s → t σ H Q → wpAny (model X.prog X.w) X.A (spliced (backTo pos (starEach es X.env))) (AP X pins σ Q) X.xe s
def PS (X : Cx) (st : Stmt) (t : TS) : Prop :=
  ∀ (pins : List (Addr × Obj)) (s : Shared) (σ : St) (H : Hp) (D : Ends), Inv X pins σ H s → t D σ H → wpAny (model X.prog X.w) X.A (exec st X.env) (SP X pins D) X.xe s
def PSs (X : Cx) (st : List Stmt) (t : TS) : Prop :=
  ∀ (pins : List (Addr × Obj)) (s : Shared) (σ : St) (H : Hp) (D : Ends), Inv X pins σ H s → t D σ H → wpAny (model X.prog X.w) X.A (execs st X.env) (SP X pins D) X.xe s
/-- weaken the end -/
theorem thn {α : Type} {t : Sem α} {Q Q' : α → Shared → Prop} {M : Model} {A : Around} {E : Value → Shared → Prop} {s : Shared} (h : wpAny M A t Q E s) (hQ : ∀ a s, Q a s → Q' a s) : wpAny M A t Q' E s := wpAny_mono h hQ fun _ _ x => x
end L2
namespace L2
open PySem PySem.Spec PyProof.Rows
section
variable {X : Cx}
def tVar (i : Nat) : TE := fun σ H Q => ∃ v, σ[i]? = some (some v) ∧ Q v H
def tC (v : V) : TE := fun _ H Q => Q v H
theorem pe_var {i : Nat} {x : Str} {pos : Pos} (hN : X.N[i]? = some x) (hv : Vis X.env.scope x) (hd : (x == ("__debug__" : Str)) = false := by decide) (hcd : (x == ("__classdict__" : Str)) = false := by decide) : PE X (.Name x pos) (tVar i) := by
  intro pins s σ H Q I h
  obtain ⟨v, e, h⟩ := h
  obtain ⟨m, hn, hl⟩ := I.loc
  obtain ⟨u, r, l⟩ := hl i x v hN e hv
  have fin : EP X pins σ Q u s := ⟨v, H, I, r, h⟩
  rcases l with ⟨hk, hm⟩ | ⟨hk, c, hc, hcell⟩
  · exact wpAny_Name (wpAny_loadName_local I.ok.kind hk hn hm fin) hd
  · rcases hk with hk | hk
    · exact wpAny_Name (wpAny_loadName_cell I.ok.kind hk hc hcell fin) hd
    · exact wpAny_Name (wpAny_loadName_free I.ok.kind hk hc hcell fin hcd) hd
theorem pe_int {i j pos} : PE X (.Constant (.int i) j pos) (tC (.int i)) := fun _ _ _ H _ I h => wpAny_Constant_int ⟨.int i, H, I.tok _, ⟨_, rfl⟩, h⟩
/-- a global name of the def -/
def Gl (X : Cx) (x : Str) : Prop := X.env.kindOf x = some .globalImplicit
theorem ld_glob {E : Value → Shared → Prop} {pins : List (Addr × Obj)} {s : Shared} {σ : St} {H : Hp} {x : Str} {u : Value} {pos : Pos} {Q : Value → Shared → Prop} (I : Inv X pins σ H s) (hg : Gl X x) (hm : X.mg x = some u) (h : Q u s)
    (hd : (x == ("__debug__" : Str)) = false := by decide) : wpAny (model X.prog X.w) X.A (eval (.Name x pos) X.env) Q E s :=
  Calls.Name_function_global I.ok.kind hg (Calls.loadGlobal_global (by rw [I.ok.glob]; exact I.mod.glob.keeps I.bk) hm h) hd
theorem ld_blt {E : Value → Shared → Prop} {pins : List (Addr × Obj)} {s : Shared} {σ : St} {H : Hp} {x : Str} {u : Value} {pos : Pos} {Q : Value → Shared → Prop} (I : Inv X pins σ H s) (hg : Gl X x) (hm : X.mg x = none) (hv : bootBuiltins x = some u) (h : Q u s)
    (hn : x ≠ "__name__" := by decide) (hd : (x == ("__debug__" : Str)) = false := by decide) : wpAny (model X.prog X.w) X.A (eval (.Name x pos) X.env) Q E s := by
  obtain ⟨mb, h1, h2⟩ := I.mod.blt
  exact Calls.Name_function_global I.ok.kind hg (Calls.loadGlobal_builtin (by rw [I.ok.glob]; exact I.mod.glob.keeps I.bk) hm (by rw [I.ok.blt]; exact h1.keeps I.bk) ((h2 x hn).trans hv) h) hd
/-- a module's constant, a class, a function, as a value -/
theorem pe_glob {x : Str} {v : V} {u : Value} {pos : Pos} (hg : Gl X x) (hm : X.mg x = some u) (r : RelV v u) (hd : (x == ("__debug__" : Str)) = false := by decide) : PE X (.Name x pos) (tC v) :=
  fun _ _ _ H _ I h => ld_glob I hg hm ⟨v, H, I, r, h⟩ hd
variable {a b : Expr} {ta tb : TE} {pos : Pos}
/-- a comparison as a value, as a test -/
def tB (t : TE) : TT := fun σ H Q => t σ H fun x H1 => ∃ c, x = .bl c ∧ Q c H1
/-- an expression whose value is a bool, as a test -/
theorem pt_val {e : Expr} {t : TE} (h : PE X e t) (he : ∀ whole, isTrue e X.env whole = (do let v ← whole; standAt e.pos; holding [v] (truthy v)) := by intro _; rfl) : PT X e (tB t) := by
  intro pins s σ H Q I hw
  refine isTrue_plain (thn (h pins s σ H _ I hw) fun v s1 ⟨x, H1, I1, r1, q1⟩ => ?_) (he _)
  obtain ⟨d, rfl, q⟩ := q1
  cases r1
  exact wpAny_truthy_bool ⟨H1, I1, q⟩
variable {tA tB' : TT} {rest : List Expr}
def tOr (t u : TT) : TT := fun σ H Q => t σ H fun c H1 => if c = true then Q true H1 else u σ H1 Q
def tNot (t : TT) : TT := fun σ H Q => t σ H fun c H1 => Q (!c) H1
theorem pw_or1 (ha : PT X a tA) : PW X (.BoolOp .Or [a] pos) tA := by
  intro wh pins s σ H Q I h
  refine isTrue_or (thn (ha pins s σ H Q I h) fun c s1 e => ?_)
  cases c with
  | false => exact isTrue_or_nil e
  | true => exact e
theorem pw_or (ha : PT X a tA) (hb : PW X (.BoolOp .Or (b :: rest) pos) tB') : PW X (.BoolOp .Or (a :: b :: rest) pos) (tOr tA tB') := by
  intro wh pins s σ H Q I h
  refine isTrue_or (thn (ha pins s σ H _ I h) fun c s1 ⟨H1, I1, q1⟩ => ?_)
  cases c with
  | true => exact ⟨H1, I1, q1⟩
  | false => exact hb wh pins s1 σ H1 Q I1 q1
theorem pt_not (ha : PT X a tA) : PT X (.UnaryOp .Not a pos) (tNot tA) := by
  intro pins s σ H Q I h
  exact isTrue_not (ha pins s σ H (fun c H1 => Q (!c) H1) I h)
end
end L2
namespace L2
open PySem PySem.Spec PyProof.Rows
def SqL (K : PySem.W.Frag) (H : Hp) (a : Addr) (xs : List V) : Prop :=
  Rd H a (.lst xs) ∨
    ∃ (o : Obj) (its : Array Value) (n : Nat), K.lookup a = some o ∧ o.cls = .type "list" ∧ o.dict = none ∧ o.data = .seq its n ∧ its.size ≤ sizeLine ∧ Vals xs its.toList
def SqT (K : PySem.W.Frag) (H : Hp) (a : Addr) (xs : List V) : Prop :=
  Rd H a (.tup xs) ∨
    ∃ (o : Obj) (its : Array Value) (n : Nat), K.lookup a = some o ∧ o.cls = .type "tuple" ∧ o.data = .seq its n ∧ its.size ≤ sizeLine ∧ Vals xs its.toList
def absV : Value → Option V
  | .none => some .non
  | .bool b => some (.bl b)
  | .int i _ => some (.int i)
  | .str x _ => some (.str x)
  | .bytes b _ => some (.byt b)
  | .float b _ => some (.flt b)
  | .ref a => some (.ref a)
  | .type n => some (.ty n)
  | _ => none
theorem RelV.abs {x : V} {u : Value} (r : RelV x u) : absV u = some x := by
  cases x with
  | non => cases r; rfl
  | bl _ => cases r; rfl
  | int _ => obtain ⟨t, rfl⟩ := r; rfl
  | str _ => obtain ⟨t, rfl⟩ := r; rfl
  | byt _ => obtain ⟨t, rfl⟩ := r; rfl
  | flt _ => obtain ⟨t, rfl⟩ := r; rfl
  | ref _ => cases r; rfl
  | ty _ => cases r; rfl
theorem RelV.inj {x y : V} {u : Value} (r : RelV x u) (q : RelV y u) : x = y := Option.some.inj (r.abs.symm.trans q.abs)
theorem Vals.inj : ∀ {xs ys : List V} {us : List Value}, Vals xs us → Vals ys us → xs = ys
  | _, _, _, .nil, .nil => rfl
  | _, _, _, .cons r t, .cons r' t' => by rw [r.inj r', Vals.inj t t']
section
variable {X : Cx} {pins : List (Addr × Obj)} {σ : St} {H : Hp} {s : Shared} {a : Addr} {xs ys : List V}
theorem SqL.of {K : PySem.W.Frag} (h : H a = some (.lst xs)) : SqL K H a xs := .inl (.inl h)
theorem SqT.of {K : PySem.W.Frag} (h : H a = some (.tup xs)) : SqT K H a xs := .inl (.inl h)
theorem Inv.list (I : Inv X pins σ H s) (h : SqL X.K H a xs) : ∃ its : List Value, Vals xs its ∧ PlainL s.heap a its.toArray ∧ xs.length ≤ sizeLine := by
  rcases h with h | ⟨o, its, n, hk, hc, hd, hs, hz, r⟩
  · obtain ⟨z, its, n, r, e⟩ := h.ok I.hok
    exact ⟨its, r, ⟨_, n, e, rfl, rfl, rfl⟩, z⟩
  · refine ⟨its.toList, r, ⟨o, n, I.kIn a o hk, hc, hd, by simpa using hs⟩, ?_⟩
    have e := r.length
    simp only [Array.length_toList] at e
    omega
theorem Inv.tuple (I : Inv X pins σ H s) (h : SqT X.K H a xs) : ∃ its : List Value, Vals xs its ∧ IsTup s.heap a its.toArray ∧ xs.length ≤ sizeLine := by
  rcases h with h | ⟨o, its, n, hk, hc, hs, hz, r⟩
  · obtain ⟨z, its, r, p⟩ := h.ok I.hok
    exact ⟨its, r, p.isTup, z⟩
  · refine ⟨its.toList, r, ⟨o, I.kIn a o hk, hc, n, by simpa using hs⟩, ?_⟩
    have e := r.length
    simp only [Array.length_toList] at e
    omega
theorem Inv.list_inj (I : Inv X pins σ H s) (h : SqL X.K H a xs) (h' : SqL X.K H a ys) : xs = ys := by
  obtain ⟨its, r, ⟨o, n, e, _, _, d⟩, _⟩ := I.list h
  obtain ⟨its', r', ⟨o', n', e', _, _, d'⟩, _⟩ := I.list h'
  rw [e] at e'; cases e'
  rw [d] at d'
  injection d' with d1 _
  have : its = its' := by simpa using congrArg Array.toList d1
  subst this
  exact r.inj r'
theorem Inv.tuple_inj (I : Inv X pins σ H s) (h : SqT X.K H a xs) (h' : SqT X.K H a ys) : xs = ys := by
  obtain ⟨its, r, ⟨o, e, _, n, d⟩, _⟩ := I.tuple h
  obtain ⟨its', r', ⟨o', e', _, n', d'⟩, _⟩ := I.tuple h'
  rw [e] at e'; cases e'
  rw [d] at d'
  injection d' with d1 _
  have : its = its' := by simpa using congrArg Array.toList d1
  subst this
  exact r.inj r'
end
abbrev Cx.wish (X : Cx) (E : Value → Shared → Prop) : Cx := { X with xe := E }
/-- no exception leaves -/
abbrev Cx.nox (X : Cx) : Cx := X.wish fun _ _ => False
theorem Cx.Ok.wish {X : Cx} (ok : X.Ok) (E : Value → Shared → Prop) : (X.wish E).Ok :=
  ⟨ok.mod, ok.kind, ok.glob, ok.blt, ok.above, ok.inj, ok.has, ok.cab, ok.hd, ok.frames, ok.stk, ok.exf, ok.bs, ok.bsz, ok.noex, ok.exfs, ok.funs, ok.frf⟩
theorem Cx.Ok.unwish {X : Cx} {E : Value → Shared → Prop} (ok : (X.wish E).Ok) : X.Ok :=
  ⟨ok.mod, ok.kind, ok.glob, ok.blt, ok.above, ok.inj, ok.has, ok.cab, ok.hd, ok.frames, ok.stk, ok.exf, ok.bs, ok.bsz, ok.noex, ok.exfs, ok.funs, ok.frf⟩
section
variable {X : Cx} {pins : List (Addr × Obj)} {σ : St} {H : Hp} {s : Shared} {E : Value → Shared → Prop}
theorem Inv.wish (I : Inv X pins σ H s) (E : Value → Shared → Prop) : Inv (X.wish E) pins σ H s := ⟨I.ok.wish E, I.os, I.bare, I.base, I.loc, I.cell, I.free, I.freeC, I.pin, I.hok, I.len⟩
theorem Inv.unwish (I : Inv (X.wish E) pins σ H s) : Inv X pins σ H s := ⟨I.ok.unwish, I.os, I.bare, I.base, I.loc, I.cell, I.free, I.freeC, I.pin, I.hok, I.len⟩
theorem SP.unwish {D : Ends} {f : Flow} {s' : Shared} (h : SP (X.wish E) pins D f s') : SP X pins D f s' := by
  cases f with
  | next => obtain ⟨σ', H', I, q⟩ := h; exact ⟨σ', H', I.unwish, q⟩
  | brk => obtain ⟨σ', H', I, q⟩ := h; exact ⟨σ', H', I.unwish, q⟩
  | cont => obtain ⟨σ', H', I, q⟩ := h; exact ⟨σ', H', I.unwish, q⟩
  | ret u => obtain ⟨v, σ', H', I, r, q⟩ := h; exact ⟨v, σ', H', I.unwish, r, q⟩
theorem PSs.nox {st : List Stmt} {t : TS} (h : PSs X.nox st t) : PSs X st t := fun pins s σ H D I hw =>
  wpAny_mono (h pins s σ H D (I.wish _) hw) (fun _ _ q => q.unwish) fun _ _ z => False.elim z
end
section
variable {X : Cx} {st : Stmt} {rest : List Stmt} {t u : TS} {e : Expr} {te : TE} {pos : Pos}
def tNext : TS := fun D σ H => D.nx σ H
def tSeq (t u : TS) : TS := fun D σ H => t { D with nx := u D } σ H
theorem pss_nil : PSs X [] tNext := fun _ _ σ H _ I h => wpAny_execs_nil ⟨σ, H, I, h⟩
theorem pss_cons (h1 : PS X st t) (h2 : PSs X rest u) : PSs X (st :: rest) (tSeq t u) := by
  intro pins s σ H D I h
  refine wpAny_execs_cons (thn (h1 pins s σ H { D with nx := u D } I h) fun f s1 q => ?_)
  cases f with
  | next =>
    obtain ⟨σ', H', I', q⟩ := q
    exact h2 pins s1 σ' H' D I' q
  | ret v => exact q
  | brk => exact q
  | cont => exact q
theorem pss_one (h1 : PS X st t) : PSs X [st] t := by
  intro pins s σ H D I h
  refine wpAny_execs_cons (thn (h1 pins s σ H D I h) fun f s1 q => ?_)
  cases f with
  | next => exact wpAny_execs_nil q
  | ret v => exact q
  | brk => exact q
  | cont => exact q
/-- in a def's body nothing is shown -/
theorem Inv.quiet {pins : List (Addr × Obj)} {σ : St} {H : Hp} {s : Shared} (I : Inv X pins σ H s) : interactive X.env = false := by simp [interactive, I.ok.kind]
/-- an expression whose value is dropped -/
def tDrop (te : TE) : TS := fun D σ H => te σ H fun _ H1 => D.nx σ H1
theorem ps_expr (he : PE X e te) (hs : swapsWith e none pos.line X.env = pure false := by rfl) : PS X (.Expr e pos) (tDrop te) := by
  intro pins s σ H D I h
  exact wpAny_Expr_any (thn (he pins s σ H _ I h) fun v s1 ⟨x, H1, I1, r1, q1⟩ => ⟨σ, H1, I1, q1⟩) I.quiet hs
def tRet (te : TE) : TS := fun D σ H => te σ H D.rt
theorem ps_ret (he : PE X e te) : PS X (.Return (some e) pos) (tRet te) := by
  intro pins s σ H D I h
  exact wpAny_Return_some (thn (he pins s σ H _ I h) fun v s1 ⟨x, H1, I1, r1, q1⟩ => ⟨x, σ, H1, I1, r1, q1⟩)
def tIfS (c : TT) (t u : TS) : TS := fun D σ H => c σ H fun b H1 => if b = true then t D σ H1 else u D σ H1
theorem ps_if {c : Expr} {a b : List Stmt} {tc : TT} (hc : PT X c tc) (ha : PSs X a t) (hb : PSs X b u) : PS X (.If c a b pos) (tIfS tc t u) := by
  intro pins s σ H D I h
  refine wpAny_If (thn (hc pins s σ H _ I h) fun d s1 ⟨H1, I1, q1⟩ => ?_)
  cases d with
  | true => exact ha pins s1 σ H1 D I1 q1
  | false => exact hb pins s1 σ H1 D I1 q1
end
abbrev TG := V → St → Hp → (St → Hp → Prop) → Prop
abbrev TGs := List V → St → Hp → (St → Hp → Prop) → Prop
def PG (X : Cx) (target : Expr) (t : TG) : Prop :=
  ∀ (pins : List (Addr × Obj)) (s : Shared) (σ : St) (H : Hp) (v : V) (u : Value) (Q : St → Hp → Prop), Inv X pins σ H s → RelV v u → t v σ H Q →
    wpAny (model X.prog X.w) X.A (assign target X.env u) (fun _ s' => ∃ σ' H', Inv X pins σ' H' s' ∧ Q σ' H') X.xe s
/-- several targets, one after another -/
def PGs (X : Cx) (ts : List Expr) (t : TGs) : Prop :=
  ∀ (pins : List (Addr × Obj)) (s : Shared) (σ : St) (H : Hp) (vs : List V) (us : List Value) (Q : St → Hp → Prop), Inv X pins σ H s → Vals vs us → t vs σ H Q →
    wpAny (model X.prog X.w) X.A (assignInOrder ((assignEach ts X.env).map (·.2)) us) (fun _ s' => ∃ σ' H', Inv X pins σ' H' s' ∧ Q σ' H') X.xe s
section
variable {X : Cx} {pos : Pos}
def gName (i : Nat) : TG := fun v σ H Q => Q (σ.set i (some v)) H
theorem pg_name {i : Nat} {x : Str} (hN : X.N.Nodup) (hi : X.N[i]? = some x) (hx : Loc X.env.scope x) (hf : X.fn x = true ∨ X.env.scope.names.lookup x = some .local := by first | exact .inl rfl | exact .inr rfl | assumption) : PG X (.Name x pos) (gName i) := by
  intro pins s σ H v u Q I r h
  exact wpAny_assign_Name (store_ok I hN hi hx r (fun s' I' => ⟨_, H, I', h⟩) hf)
def gNil : TGs := fun vs σ H Q => vs = [] ∧ Q σ H
def gCons (t : TG) (u : TGs) : TGs := fun vs σ H Q => ∃ v r, vs = v :: r ∧ t v σ H fun σ' H' => u r σ' H' Q
theorem pgs_nil : PGs X [] gNil := by
  intro pins s σ H vs us Q I r h
  obtain ⟨e, h⟩ := h
  subst e
  cases r
  exact assignInOrder_nil ⟨σ, H, I, h⟩
theorem pgs_cons {e : Expr} {es : List Expr} {t : TG} {u : TGs} (h1 : PG X e t) (h2 : PGs X es u)
    (hs : (assignEach (e :: es) X.env).map (·.2) = assign e X.env :: (assignEach es X.env).map (·.2) := by rfl) : PGs X (e :: es) (gCons t u) := by
  intro pins s σ H vs us Q I r h
  obtain ⟨v, vr, e1, h⟩ := h
  subst e1
  cases r with
  | cons r rr =>
    rw [hs]
    refine assignInOrder_cons (thn (h1 pins s σ H _ _ _ I r h) fun _ s1 ⟨σ1, H1, I1, q1⟩ => ?_)
    exact h2 pins s1 σ1 H1 _ _ Q I1 rr q1
/-- (a, b, ..) = a tuple of that length -/
def gTup (K : PySem.W.Frag) (n : Nat) (t : TGs) : TG := fun v σ H Q => ∃ a xs, v = .ref a ∧ SqT K H a xs ∧ xs.length = n ∧ t xs σ H Q
theorem pg_tup {es : List Expr} {k : Nat} {t : TGs} {n : Nat} (hc : X.calm = true) (h : PGs X es t)
    (hn : (assignEach es X.env).length = n := by rfl) (hst : (assignEach es X.env).findIdx? (·.1) = none := by rfl) : PG X (.Tuple es k pos) (gTup X.K n t) := by
  intro pins s σ H v u Q I r hw
  obtain ⟨a, xs, e1, hq, hl, hw⟩ := hw
  subst e1
  cases r
  obtain ⟨its, rv, ht, hz⟩ := I.tuple hq
  refine assign_Tuple_tuple (I.ok.hd hc) ht (by simp [hn, ← hl, rv.length]) hst fun h' hx => ?_
  have I1 : Inv X pins σ H { s with heap := h' } := I.kept (t' := s.toks) fun b o e => hx b o (Nat.ne_of_lt (Heap.lt_size e)) e
  exact h pins _ σ H xs _ Q I1 (by simpa using rv) hw
/-- target = value -/
def tAsg (te : TE) (g : TG) : TS := fun D σ H => te σ H fun x H1 => g x σ H1 D.nx
/-- name = value -/
theorem ps_set {i : Nat} {x : Str} {e : Expr} {te : TE} {pos' : Pos} (hN : X.N.Nodup) (hi : X.N[i]? = some x) (hx : Loc X.env.scope x) (he : PE X e te) (hs : swapsWith e (some (.Name x pos')) pos.line X.env = pure false := by rfl) (hf : X.fn x = true ∨ X.env.scope.names.lookup x = some .local := by first | exact .inl rfl | exact .inr rfl | assumption) :
    PS X (.Assign [.Name x pos'] e pos) (tAsg te (gName i)) := by
  intro pins s σ H D I h
  refine wpAny_Assign_Name (thn (he pins s σ H _ I h) fun v s1 ⟨y, H1, I1, r1, q1⟩ => ?_) hs
  exact store_ok I1 hN hi hx r1 (fun s2 I2 => ⟨_, H1, I2, q1⟩) hf
end
section
variable {X : Cx} {pos : Pos}
/-- the invariant W with its measure -/
def tWhile (c : TT) (tb : TS) : TS := fun D σ H => ∃ W : Nat → St → Hp → Prop, (∃ m, W m σ H) ∧ ∀ m σ H, W m σ H →
  c σ H fun b H1 => if b = true then ∃ N : St → Hp → Prop, (∀ σ' H', N σ' H' → ∃ m', m' < m ∧ W m' σ' H') ∧ tb { D with nx := N, ct := N, bk := D.nx } σ H1 else D.nx σ H1
theorem ps_while {c : Expr} {body : List Stmt} {tc : TT} {tb : TS} (hp : PassesOwn (model X.prog X.w) X.A X.env X.xe) (hc : PT X c tc) (hb : PSs X body tb) : PS X (.While c body [] pos) (tWhile tc tb) := by
  intro pins s σ H D I h
  obtain ⟨W, ⟨m0, w0⟩, turn⟩ := h
  refine wpAny_While (codeAny_whileLoop (fun n s' => ∃ σ' H', Inv X pins σ' H' s' ∧ W n σ' H') ?_ m0 ⟨σ, H, I, w0⟩)
  rintro n s1 ⟨σ1, H1, I1, w1⟩
  refine wpAny_passesOwn hp (thn (hc pins s1 σ1 H1 _ I1 (turn n σ1 H1 w1)) fun b s2 ⟨H2, I2, q2⟩ => ?_)
  cases b with
  | true =>
    obtain ⟨N, hN, q2⟩ := q2
    rw [if_pos rfl]
    refine wpAny_passesOwn hp (thn (hb pins s2 σ1 H2 _ I2 q2) fun f s3 q3 => ?_)
    cases f with
    | next =>
      obtain ⟨σ3, H3, I3, n3⟩ := q3
      obtain ⟨m', hm, w3⟩ := hN σ3 H3 n3
      exact ⟨m', hm, σ3, H3, I3, w3⟩
    | cont =>
      obtain ⟨σ3, H3, I3, n3⟩ := q3
      obtain ⟨m', hm, w3⟩ := hN σ3 H3 n3
      exact ⟨m', hm, σ3, H3, I3, w3⟩
    | brk => exact q3
    | ret v => exact q3
  | false =>
    rw [if_neg Bool.false_ne_true]
    exact wpAny_execs_nil ⟨σ1, H2, I2, q2⟩
end
/-- at turn i: it yields x (the heap may grow), or it stops -/
structure It where
  go : Nat → Hp → Prop
  yld : Nat → Hp → V → Hp → Prop
  stop : Nat → Hp → Prop
/-- the iterator's own objects may turn: they are not the frame's, not pinned, younger than the entry (or a comprehension's own) -/
def FpOk (X : Cx) (pins : List (Addr × Obj)) (H : Hp) (b : Addr) : Prop :=
  H b = none ∧ b ≠ X.env.locals ∧ b ∉ X.fs ∧ (b ∈ X.ex ∨ X.s_0.heap.objs.size ≤ b) ∧ (∀ x c, X.env.cells.lookup x = some c → c ≠ b) ∧ ∀ p ∈ X.pn ++ pins, p.1 ≠ b
theorem Inv.fpOk {X : Cx} {pins : List (Addr × Obj)} {σ : St} {H H' : Hp} {s : Shared} {b : Addr} (I : Inv X pins σ H s) (hb : s.heap.objs.size ≤ b) (hn : H' b = none) : FpOk X pins H' b := by
  refine ⟨hn, Nat.ne_of_gt (Nat.lt_of_lt_of_le I.lt hb), I.nofs hb, .inr (Nat.le_trans I.sz hb), fun x c e z => ?_, fun p hp z => ?_⟩
  · obtain ⟨v, q⟩ := I.cell x c e
    exact absurd (Nat.lt_of_lt_of_le q.lt (by rw [z]; exact hb)) (Nat.lt_irrefl _)
  · exact absurd (Nat.lt_of_lt_of_le (Heap.lt_size (I.pin p hp).1) (by rw [z]; exact hb)) (Nat.lt_irrefl _)
structure Turn (P : Program) (w : World) (K : PySem.W.Frag) (tg : Expr) (J : It) (fp : List Addr) (it : Addr) (tn : Nat → Heap → Prop) : Prop where
  mem : it ∈ fp
  obj : ∀ i h, tn i h → ∀ b ∈ fp, ∃ o, h.get? b = some o ∧ ∀ v, o.data ≠ .cell v
  keep : ∀ i h h', tn i h → (∀ b ∈ fp, ∀ o, h.get? b = some o → h'.get? b = some o) → tn i h'
  item : ∀ (X : Cx), X.prog = P → X.w = w → X.K = K → X.calm = true → ∀ (i : Nat) (pins : List (Addr × Obj)) (s : Shared) (σ : St) (H : Hp) (E : Value → Shared → Prop), Inv X pins σ H s → (∀ b ∈ fp, FpOk X pins H b) → tn i s.heap → J.go i H →
    wpAny (model P w) X.A (pyNext (.ref it)) (fun r s1 => ∃ u, r = some u ∧
      wpAny (model P w) X.A (letOwnedTupleGo tg (.ref it) u) (fun _ s2 => ∃ x H', Inv X pins σ H' s2 ∧ RelV x u ∧ J.yld i H x H' ∧ tn (i + 1) s2.heap ∧ ∀ b ∈ fp, H' b = none) E s1) E s
  done : ∀ (X : Cx), X.prog = P → X.w = w → X.K = K → X.calm = true → ∀ (i : Nat) (pins : List (Addr × Obj)) (s : Shared) (σ : St) (H : Hp) (E : Value → Shared → Prop), Inv X pins σ H s → (∀ b ∈ fp, FpOk X pins H b) → tn i s.heap → J.stop i H →
    wpAny (model P w) X.A (pyNext (.ref it)) (fun r s1 => r = none ∧ Inv X pins σ H s1) E s
  self : ∀ (A : Around) (i : Nat) (s : Shared) (Q : Value → Shared → Prop) (E : Value → Shared → Prop), tn i s.heap → Q (.ref it) s → wpAny (model P w) A (pyIter (.ref it)) Q E s
abbrev TI := St → Hp → (It → Hp → Prop) → Prop
/-- an iterator has come -/
def PIE (X : Cx) (pins : List (Addr × Obj)) (σ : St) (tg : Expr) (R : It → Hp → Prop) (itv : Value) (s2 : Shared) : Prop :=
  ∃ (it : Addr) (fp : List Addr) (tn : Nat → Heap → Prop) (J : It) (H' : Hp), itv = .ref it ∧ Inv X pins σ H' s2 ∧ Turn X.prog X.w X.K tg J fp it tn ∧ tn 0 s2.heap ∧ (∀ b ∈ fp, FpOk X pins H' b) ∧ R J H'
def PI (X : Cx) (tg iter : Expr) (wi : TI) : Prop :=
  ∀ (pins : List (Addr × Obj)) (s : Shared) (σ : St) (H : Hp) (R : It → Hp → Prop), Inv X pins σ H s → wi σ H R →
    wpAny (model X.prog X.w) X.A (eval iter X.env) (fun v s1 => wpAny (model X.prog X.w) X.A (pyIter v) (PIE X pins σ tg R) X.xe s1) X.xe s
/-- the step ahead of the store is nothing for an iterator that keeps no tuple -/
theorem go_of {M : Model} {A : Around} {E : Value → Shared → Prop} {s : Shared} {tg : Expr} {it : Addr} {u : Value} {o : Obj} {n : String} {vs : Array Value} {Q : Unit → Shared → Prop} (ho : s.heap.get? it = some o) (hc : o.cls = .type n) (hd : o.data = .fields vs)
    (hn : ["enumerate", "zip", "dict_itemiterator", "dict_reverseitemiterator", "odict_iterator", "itertools.zip_longest", "itertools.pairwise"].contains n = false) (hQ : Q () s) : wpAny M A (letOwnedTupleGo tg (.ref it) u) Q E s := by
  unfold letOwnedTupleGo
  cases tg <;> first
    | exact wpAny_pure hQ
    | (cases u <;> first
        | exact wpAny_pure hQ
        | (refine wpAny_bind (wpAny_load ho ?_)
           rw [hc, hd]
           show wpAny M A (if (["enumerate", "zip", "dict_itemiterator", "dict_reverseitemiterator", "odict_iterator", "itertools.zip_longest", "itertools.pairwise"].contains n && vs[0]? == some (rawInt _)) = true then _ else _) Q E s
           rw [if_neg (by intro h; rw [hn, Bool.false_and] at h; cases h)]
           exact wpAny_pure hQ))
/-- the list at a, as it stands at each turn (a loop may append to it) -/
def Itl (K : PySem.W.Frag) (a : Addr) : It :=
  ⟨fun i H => ∃ xs x, SqL K H a xs ∧ xs[i]? = some x, fun i H x H' => H' = H ∧ ∀ xs, SqL K H a xs → xs[i]? = some x, fun i H => ∃ xs, SqL K H a xs ∧ xs.length ≤ i⟩
def Itt (K : PySem.W.Frag) (a : Addr) : It :=
  ⟨fun i H => ∃ xs x, SqT K H a xs ∧ xs[i]? = some x, fun i H x H' => H' = H ∧ ∀ xs, SqT K H a xs → xs[i]? = some x, fun i H => ∃ xs, SqT K H a xs ∧ xs.length ≤ i⟩
/-- lo, lo + 1, .. (n of them) -/
def Itr (lo : Int) (n : Nat) : It := ⟨fun i _ => i < n, fun i H x H' => H' = H ∧ x = .int (lo + i), fun i _ => n ≤ i⟩
theorem turn_list {P : Program} {w : World} {K : PySem.W.Frag} {tg : Expr} (a it : Addr) : Turn P w K tg (Itl K a) [it] it (fun i h => h.IsListIter it a i) where
  mem := by simp
  obj := fun i h st b hb => by
    have e : b = it := by simpa using hb
    subst e
    obtain ⟨o, e, c, d⟩ := st
    exact ⟨o, e, fun v z => by rw [d] at z; cases z⟩
  keep := fun i h h' st k => st.at fun o e => k it (by simp) o e
  item := by
    intro X hP hw hK hc i pins s σ H E I hf st hg
    subst hP hw hK
    obtain ⟨xs, x, hq, hx⟩ := hg
    obtain ⟨its, rv, p, hz⟩ := I.list hq
    obtain ⟨u, hu, ru⟩ := rv.get hx
    obtain ⟨f0, f1, f2, f3, f4, f5⟩ := hf it (by simp)
    refine wpAny_pyNext_list_item st p.isList (x := u) (by simpa using hu) fun h' st' sb => ?_
    have I1 : Inv X pins σ H { s with heap := h' } := I.turned (t' := s.toks) (fun b o hb e => (sb.2 b hb).trans e) f0 f1 f3 f4 f5
    obtain ⟨o, e, c, d⟩ := id st'
    exact ⟨u, rfl, go_of (s := { s with heap := h' }) e c d (by decide) ⟨x, H, I1, ru, ⟨rfl, fun ys hy => by rw [I.list_inj hy hq]; exact hx⟩, st', fun b hb => (hf b hb).1⟩⟩
  done := by
    intro X hP hw hK hc i pins s σ H E I hf st hg
    subst hP hw hK
    obtain ⟨xs, hq, hx⟩ := hg
    obtain ⟨its, rv, p, hz⟩ := I.list hq
    obtain ⟨f0, f1, f2, f3, f4, f5⟩ := hf it (by simp)
    have hl := rv.length
    exact wpAny_pyNext_list_end (I.ok.hd hc) st p.isList (by simp; omega) fun h' eb => ⟨rfl, I.turned (t' := s.toks) (fun b o hb e => eb b o hb e) f0 f1 f3 f4 f5⟩
  self := fun _ _ _ _ _ st h => wpAny_pyIter_listiter st h
theorem turn_tuple {P : Program} {w : World} {K : PySem.W.Frag} {tg : Expr} (a it : Addr) : Turn P w K tg (Itt K a) [it] it (fun i h => h.IsTupleIter it a i) where
  mem := by simp
  obj := fun i h st b hb => by
    have e : b = it := by simpa using hb
    subst e
    obtain ⟨o, e, c, d⟩ := st
    exact ⟨o, e, fun v z => by rw [d] at z; cases z⟩
  keep := fun i h h' st k => st.at fun o e => k it (by simp) o e
  item := by
    intro X hP hw hK hc i pins s σ H E I hf st hg
    subst hP hw hK
    obtain ⟨xs, x, hq, hx⟩ := hg
    obtain ⟨its, rv, p, hz⟩ := I.tuple hq
    obtain ⟨u, hu, ru⟩ := rv.get hx
    obtain ⟨f0, f1, f2, f3, f4, f5⟩ := hf it (by simp)
    refine wpAny_pyNext_tuple_item st (show s.heap.IsTuple a its.toArray from p) (x := u) (by simpa using hu) fun h' st' sb => ?_
    have I1 : Inv X pins σ H { s with heap := h' } := I.turned (t' := s.toks) (fun b o hb e => (sb.2 b hb).trans e) f0 f1 f3 f4 f5
    obtain ⟨o, e, c, d⟩ := id st'
    exact ⟨u, rfl, go_of (s := { s with heap := h' }) e c d (by decide) ⟨x, H, I1, ru, ⟨rfl, fun ys hy => by rw [I.tuple_inj hy hq]; exact hx⟩, st', fun b hb => (hf b hb).1⟩⟩
  done := by
    intro X hP hw hK hc i pins s σ H E I hf st hg
    subst hP hw hK
    obtain ⟨xs, hq, hx⟩ := hg
    obtain ⟨its, rv, p, hz⟩ := I.tuple hq
    obtain ⟨f0, f1, f2, f3, f4, f5⟩ := hf it (by simp)
    have hl := rv.length
    exact wpAny_pyNext_tuple_end (I.ok.hd hc) st (show s.heap.IsTuple a its.toArray from p) (by simp; omega) fun h' eb => ⟨rfl, I.turned (t' := s.toks) (fun b o hb e => eb b o hb e) f0 f1 f3 f4 f5⟩
  self := fun _ _ _ _ _ st h => wpAny_pyIter_tupleiter st h
theorem turn_range {P : Program} {w : World} {K : PySem.W.Frag} {tg : Expr} (it : Addr) (lo : Int) (n : Nat) : Turn P w K tg (Itr lo n) [it] it (fun i h => IsRangeIter h it (lo + (i : Nat) * 1) ((n : Int) - (i : Nat)) 1) where
  mem := by simp
  obj := fun i h st b hb => by
    have e : b = it := by simpa using hb
    subst e
    exact ⟨_, st, fun v z => by
      have z' : Data.fields _ = Data.cell v := z
      cases z'⟩
  keep := fun i h h' st k => k it (by simp) _ st
  item := by
    intro X hP hw hK hc i pins s σ H E I hf st hg
    subst hP hw hK
    obtain ⟨f0, f1, f2, f3, f4, f5⟩ := hf it (by simp)
    have W := Walks.range (prog := X.prog) (w := X.w) (I.ok.hd hc) it lo 1 n
    refine W.item i s _ _ hg st fun v h' tk hv st' kk => ?_
    obtain ⟨t, rfl⟩ := hv
    have I1 : Inv X pins σ H { s with heap := h', toks := tk } := I.turned (fun b o hb e => kk b o (by simpa using hb) e) f0 f1 f3 f4 f5
    refine ⟨_, rfl, go_of (s := { s with heap := h', toks := tk }) (n := "range_iterator") st' rfl rfl (by decide) ⟨.int (lo + i), H, I1, ⟨t, ?_⟩, ⟨rfl, rfl⟩, st', fun b hb => (hf b hb).1⟩⟩
    rw [Int.mul_one]
  done := by
    intro X hP hw hK hc i pins s σ H E I hf st hg
    subst hP hw hK
    obtain ⟨f0, f1, f2, f3, f4, f5⟩ := hf it (by simp)
    exact wpAny_pyNext_range_end (I.ok.hd hc) st (by have : n ≤ i := hg; omega) fun h' eb => ⟨rfl, I.turned (t' := s.toks) (fun b o hb e => eb b o hb e) f0 f1 f3 f4 f5⟩
  self := fun _ _ _ _ _ st h => wpAny_pyIter_rangeiter st h
end L2
namespace L2
open PySem PySem.Spec PyProof.Rows
section
variable {X : Cx} {tg : Expr}
def iList (K : PySem.W.Frag) (tl : TE) : TI := fun σ H R => tl σ H fun x H1 => ∃ a, x = .ref a ∧ (∃ xs, SqL K H1 a xs) ∧ R (Itl K a) H1
def iTup (K : PySem.W.Frag) (tl : TE) : TI := fun σ H R => tl σ H fun x H1 => ∃ a, x = .ref a ∧ (∃ xs, SqT K H1 a xs) ∧ R (Itt K a) H1
theorem pi_list {l : Expr} {tl : TE} (hl : PE X l tl) : PI X tg l (iList X.K tl) := by
  intro pins s σ H R I h
  refine thn (hl pins s σ H _ I h) fun v s1 ⟨x, H1, I1, r1, q1⟩ => ?_
  obtain ⟨a, e, ⟨xs, hq⟩, q⟩ := q1
  subst e
  cases r1
  obtain ⟨its, rv, p, hz⟩ := I1.list hq
  refine wpAny_pyIter_list p.isList ?_
  refine ⟨s1.heap.objs.size, [s1.heap.objs.size], _, _, H1, rfl, I1.kept (t' := s1.toks) fun b o e => Heap.get?_push_of_some _ e, turn_list a _, ⟨_, Heap.get?_push_size _ rfl, rfl, rfl⟩, fun b hb => ?_, q⟩
  have e : b = s1.heap.objs.size := by simpa using hb
  subst e
  exact I1.fpOk (Nat.le_refl _) (I1.hok.fresh (Nat.le_refl _))
theorem pi_tup {l : Expr} {tl : TE} (hl : PE X l tl) : PI X tg l (iTup X.K tl) := by
  intro pins s σ H R I h
  refine thn (hl pins s σ H _ I h) fun v s1 ⟨x, H1, I1, r1, q1⟩ => ?_
  obtain ⟨a, e, ⟨xs, hq⟩, q⟩ := q1
  subst e
  cases r1
  obtain ⟨its, rv, p, hz⟩ := I1.tuple hq
  refine wpAny_pyIter_tuple (show s1.heap.IsTuple a its.toArray from p) ?_
  refine ⟨s1.heap.objs.size, [s1.heap.objs.size], _, _, H1, rfl, I1.kept (t' := s1.toks) fun b o e => Heap.get?_push_of_some _ e, turn_tuple a _, ⟨_, Heap.get?_push_size _ rfl, rfl, rfl⟩, fun b hb => ?_, q⟩
  have e : b = s1.heap.objs.size := by simpa using hb
  subst e
  exact I1.fpOk (Nat.le_refl _) (I1.hok.fresh (Nat.le_refl _))
/-- a range object just made, walked -/
theorem range_it {pins : List (Addr × Obj)} {σ : St} {H : Hp} {s : Shared} {R : It → Hp → Prop} {E : Value → Shared → Prop} {lo hi : Int} {t u v : Tok} {tk : Nat} (I : Inv X pins σ H s) (h1 : -(2 ^ 62) ≤ lo) (h2 : lo < 2 ^ 62) (h3 : -(2 ^ 62) ≤ hi) (h4 : hi < 2 ^ 62)
    (q : R (Itr lo (hi - lo).toNat) H) : wpAny (model X.prog X.w) X.A (pyIter (.ref s.heap.objs.size)) (PIE X pins σ tg R) E { s with heap := s.heap.push { cls := .type "range", data := .fields #[.int lo t, .int hi u, .int 1 v] }, toks := tk } := by
  refine wpAny_pyIter_range (IsRange.new ..) (small_one h1 h2 h3 h4) ?_
  have I1 : Inv X pins σ H { s with heap := s.heap.push { cls := .type "range", data := .fields #[.int lo t, .int hi u, .int 1 v] }, toks := tk } := I.kept fun b o e => Heap.get?_push_of_some _ e
  refine ⟨(s.heap.push { cls := .type "range", data := .fields #[.int lo t, .int hi u, .int 1 v] }).objs.size, [(s.heap.push { cls := .type "range", data := .fields #[.int lo t, .int hi u, .int 1 v] }).objs.size], _, _, H, rfl,
    I1.kept (t' := tk) fun b o e => Heap.get?_push_of_some _ e, turn_range _ lo (hi - lo).toNat, ?_, fun b hb => ?_, q⟩
  · have e1 : lo + ((0 : Nat) : Int) * 1 = lo := by simp
    have e2 : (((hi - lo).toNat : Nat) : Int) - ((0 : Nat) : Int) = Builtin.Range.rangeSize lo hi 1 := by rw [rangeSize_one]; split <;> omega
    show IsRangeIter _ _ (lo + ((0 : Nat) : Int) * 1) ((((hi - lo).toNat : Nat) : Int) - ((0 : Nat) : Int)) 1
    rw [e1, e2]
    exact Heap.get?_push_size _ rfl
  · have e : b = (s.heap.push { cls := .type "range", data := .fields #[.int lo t, .int hi u, .int 1 v] }).objs.size := by simpa using hb
    subst e
    exact I1.fpOk (Nat.le_refl _) (I1.hok.fresh (Nat.le_refl _))
def iRng1 (ta : TA) : TI := fun σ H R => ta σ H fun vs H1 => ∃ j : Int, vs = [.int j] ∧ -(2 ^ 62) ≤ j ∧ j < 2 ^ 62 ∧ R (Itr 0 j.toNat) H1
theorem pi_range1 {a : Expr} {ta : TA} {p pos : Pos} (hg : Gl X "range") (hm : X.mg "range" = none) (ha : PA X [a] ta) (hs : starEach [a] X.env = [(false, eval a X.env)] := by rfl) : PI X tg (.Call (.Name "range" p) [a] [] pos) (iRng1 ta) := by
  intro pins s σ H R I h
  refine Call_ (ld_blt I hg hm boot_range (PyProof.Rows.callWith_type1 (thn (ha pos pins s σ H _ I h) fun us s1 ⟨vs, H1, I1, r1, q1⟩ => ?_) hs rfl))
  obtain ⟨j, e, q1, q2, q⟩ := q1
  subst e
  cases r1 with
  | cons r rr =>
    cases rr
    obtain ⟨t, rfl⟩ := r
    exact call_range_1 (range_it I1 (by omega) (by omega) q1 q2 (by simpa using q))
/-- W: the invariant by the turn and a measure; N: what the body is to reach -/
def tFor (wi : TI) (g : TG) (tb : TS) : TS := fun D σ H => wi σ H fun J H1 => ∃ W : Nat → Nat → St → Hp → Prop, (∃ m, W 0 m σ H1) ∧ ∀ i m σ H, W i m σ H →
  (J.stop i H ∧ D.nx σ H) ∨ (J.go i H ∧ ∃ N : St → Hp → Prop, (∀ σ' H', N σ' H' → ∃ m', m' < m ∧ W (i + 1) m' σ' H') ∧ ∀ x H', J.yld i H x H' → g x σ H' fun σ2 H2 => tb { D with nx := N, ct := N, bk := D.nx } σ2 H2)
/-- the records at fp as they stand -/
def pinsAt (fp : List Addr) (h : Heap) : List (Addr × Obj) := fp.filterMap fun b => (h.get? b).map fun o => (b, o)
theorem mem_pinsAt {fp : List Addr} {h : Heap} {b : Addr} {o : Obj} (hb : b ∈ fp) (e : h.get? b = some o) : (b, o) ∈ pinsAt fp h := List.mem_filterMap.mpr ⟨b, hb, by rw [e]; rfl⟩
theorem of_pinsAt {fp : List Addr} {h : Heap} {p : Addr × Obj} (hp : p ∈ pinsAt fp h) : p.1 ∈ fp ∧ h.get? p.1 = some p.2 := by
  obtain ⟨b, hb, e⟩ := List.mem_filterMap.mp hp
  cases q : h.get? b with
  | none => rw [q] at e; cases e
  | some o =>
    rw [q] at e
    have e' : (b, o) = p := Option.some.inj e
    subst e'
    exact ⟨hb, q⟩
theorem Inv.pinned {pins : List (Addr × Obj)} {σ : St} {H : Hp} {s : Shared} {fp : List Addr} (I : Inv X pins σ H s) (hf : ∀ b ∈ fp, FpOk X pins H b) (ho : ∀ b ∈ fp, ∃ o, s.heap.get? b = some o ∧ ∀ v, o.data ≠ .cell v) : Inv X (pins ++ pinsAt fp s.heap) σ H s :=
  I.pins_of fun p hp => (List.mem_append.mp hp).elim (fun z => I.pin p (List.mem_append_right _ z)) fun z => by
    obtain ⟨hb, e⟩ := of_pinsAt z
    obtain ⟨f0, f1, f2, _⟩ := hf p.1 hb
    obtain ⟨o, e', d⟩ := ho p.1 hb
    rw [e] at e'; cases e'
    exact ⟨e, f0, f1, f2, d⟩
theorem Inv.unpinned {pins pl : List (Addr × Obj)} {σ : St} {H : Hp} {s : Shared} (I : Inv X (pins ++ pl) σ H s) : Inv X pins σ H s := I.pins_of fun p hp => I.pin p (List.mem_append_right _ (List.mem_append_left _ hp))
theorem ps_for {iter : Expr} {body : List Stmt} {wi : TI} {g : TG} {tb : TS} {pos : Pos} (hp : PassesOwn (model X.prog X.w) X.A X.env X.xe) (hc : X.calm = true) (hi : PI X tg iter wi) (hg : PG X tg g) (hb : PSs X body tb)
    (hs : ∀ x, foldedSetIterable iter X.env x = pure x := by intro _; rfl) : PS X (.For tg iter body [] pos) (tFor wi g tb) := by
  intro pins s σ H D I h
  refine wpAny_For (thn (hi pins s σ H _ I h) fun v s1 h1 => thn h1 fun itv s2 h2 => ?_) hs
  obtain ⟨it, fp, tn, J, H2, e, I2, T, st2, f2, W, ⟨m0, w0⟩, turn⟩ := h2
  subst e
  -- what stays true of the iterator's objects through the loop
  have stat : ∀ {H' : Hp}, (∀ b ∈ fp, H' b = none) → ∀ b ∈ fp, FpOk X pins H' b := fun hn b hb => ⟨hn b hb, (f2 b hb).2⟩
  refine codeAny_forLoop_any (fun n s' => ∃ i σ' H', Inv X pins σ' H' s' ∧ tn i s'.heap ∧ (∀ b ∈ fp, H' b = none) ∧ W i n σ' H') ?_ m0 ⟨0, σ, H2, I2, st2, fun b hb => (f2 b hb).1, w0⟩
  rintro n s3 ⟨i, σ3, H3, I3, st3, fr3, w3⟩
  rcases turn i n σ3 H3 w3 with ⟨stop, qn⟩ | ⟨go, N, hN, step⟩
  · refine wpAny_passesOwn hp (thn (T.done X rfl rfl rfl hc i pins s3 σ3 H3 X.xe I3 (stat fr3) st3 stop) fun r s4 ⟨hr, I4⟩ => ?_)
    subst hr
    exact wpAny_execs_nil ⟨σ3, H3, I4, qn⟩
  · refine wpAny_passesOwn hp (thn (T.item X rfl rfl rfl hc i pins s3 σ3 H3 X.xe I3 (stat fr3) st3 go) fun r s4 ⟨u, hr, h4⟩ => ?_)
    subst hr
    refine wpAny_passesOwn hp (thn h4 fun _ s5 ⟨x, H5, I5, r5, y5, st5, fr5⟩ => ?_)
    have I5' := I5.pinned (stat fr5) (T.obj _ _ st5)
    refine wpAny_passesOwn hp (thn (hg _ s5 σ3 H5 x u _ I5' r5 (step x H5 y5)) fun _ s6 ⟨σ6, H6, I6, q6⟩ => ?_)
    refine wpAny_passesOwn hp (thn (hb _ s6 σ6 H6 _ I6 q6) fun f s7 q7 => ?_)
    have again : ∀ {σ7 : St} {H7 : Hp}, Inv X (pins ++ pinsAt fp s5.heap) σ7 H7 s7 → N σ7 H7 → ∃ m, m < n ∧ ∃ i σ' H', Inv X pins σ' H' s7 ∧ tn i s7.heap ∧ (∀ b ∈ fp, H' b = none) ∧ W i m σ' H' := fun {σ7 H7} I7 n7 => by
      obtain ⟨m', hm, w7⟩ := hN σ7 H7 n7
      refine ⟨m', hm, i + 1, σ7, H7, I7.unpinned, T.keep _ _ _ st5 fun b hb o e => (I7.pin (b, o) (List.mem_append_right _ (List.mem_append_right _ (mem_pinsAt hb e)))).1, fun b hb => ?_, w7⟩
      obtain ⟨o, e, d⟩ := T.obj _ _ st5 b hb
      exact (I7.pin (b, o) (List.mem_append_right _ (List.mem_append_right _ (mem_pinsAt hb e)))).2.1
    cases f with
    | next => obtain ⟨σ7, H7, I7, n7⟩ := q7; exact again I7 n7
    | cont => obtain ⟨σ7, H7, I7, n7⟩ := q7; exact again I7 n7
    | brk => obtain ⟨σ7, H7, I7, q7⟩ := q7; exact ⟨σ7, H7, I7.unpinned, q7⟩
    | ret v => obtain ⟨x7, σ7, H7, I7, r7, q7⟩ := q7; exact ⟨x7, σ7, H7, I7.unpinned, r7, q7⟩
end
/-- over a list that the body leaves as it is -/
theorem for_list {K : PySem.W.Frag} {a : Addr} {xs : List V} {g : TG} {tb : TS} {D : Ends} {σ : St} {H : Hp} (Pv : Nat → St → Hp → Prop) (h0 : Pv 0 σ H) (hl : ∀ i σ H, i ≤ xs.length → Pv i σ H → SqL K H a xs)
    (hs : ∀ i x σ H, xs[i]? = some x → Pv i σ H → g x σ H fun σ2 H2 => tb { D with nx := Pv (i + 1), ct := Pv (i + 1), bk := D.nx } σ2 H2) (hd : ∀ σ H, Pv xs.length σ H → D.nx σ H) :
    ∃ W : Nat → Nat → St → Hp → Prop, (∃ m, W 0 m σ H) ∧ ∀ i m σ H, W i m σ H →
      ((Itl K a).stop i H ∧ D.nx σ H) ∨ ((Itl K a).go i H ∧ ∃ N : St → Hp → Prop, (∀ σ' H', N σ' H' → ∃ m', m' < m ∧ W (i + 1) m' σ' H') ∧ ∀ x H', (Itl K a).yld i H x H' → g x σ H' fun σ2 H2 => tb { D with nx := N, ct := N, bk := D.nx } σ2 H2) := by
  refine ⟨fun i m σ H => m = xs.length - i ∧ i ≤ xs.length ∧ Pv i σ H, ⟨xs.length, by simp, Nat.zero_le _, h0⟩, ?_⟩
  rintro i m σ H ⟨rfl, hi, p⟩
  have q := hl i σ H hi p
  by_cases hlt : i < xs.length
  · refine .inr ⟨⟨xs, xs[i], q, by simp [hlt]⟩, Pv (i + 1), fun σ' H' p' => ⟨xs.length - (i + 1), by omega, rfl, hlt, p'⟩, fun x H' y => ?_⟩
    obtain ⟨e, y⟩ := y
    subst e
    exact hs i x σ _ (y xs q) p
  · have e : i = xs.length := by omega
    subst e
    exact .inl ⟨⟨xs, q, Nat.le_refl _⟩, hd σ H p⟩
theorem for_range {lo : Int} {n : Nat} {g : TG} {tb : TS} {D : Ends} {σ : St} {H : Hp} (Pv : Nat → St → Hp → Prop) (h0 : Pv 0 σ H)
    (hs : ∀ i σ H, i < n → Pv i σ H → g (.int (lo + i)) σ H fun σ2 H2 => tb { D with nx := Pv (i + 1), ct := Pv (i + 1), bk := D.nx } σ2 H2) (hd : ∀ σ H, Pv n σ H → D.nx σ H) :
    ∃ W : Nat → Nat → St → Hp → Prop, (∃ m, W 0 m σ H) ∧ ∀ i m σ H, W i m σ H →
      ((Itr lo n).stop i H ∧ D.nx σ H) ∨ ((Itr lo n).go i H ∧ ∃ N : St → Hp → Prop, (∀ σ' H', N σ' H' → ∃ m', m' < m ∧ W (i + 1) m' σ' H') ∧ ∀ x H', (Itr lo n).yld i H x H' → g x σ H' fun σ2 H2 => tb { D with nx := N, ct := N, bk := D.nx } σ2 H2) := by
  refine ⟨fun i m σ H => m = n - i ∧ i ≤ n ∧ Pv i σ H, ⟨n, by simp, Nat.zero_le _, h0⟩, ?_⟩
  rintro i m σ H ⟨rfl, hi, p⟩
  by_cases hlt : i < n
  · refine .inr ⟨hlt, Pv (i + 1), fun σ' H' p' => ⟨n - (i + 1), by omega, rfl, hlt, p'⟩, fun x H' y => ?_⟩
    obtain ⟨e, y⟩ := y
    subst e y
    exact hs i σ _ hlt p
  · have e : i = n := by omega
    subst e
    exact .inl ⟨Nat.le_refl _, hd σ H p⟩
end L2
namespace L2
open PySem PySem.Spec PyProof.Rows
abbrev R2 := V → V → Hp → VK → Prop
/-- a two-place operation on values: f is binaryOp op, inplaceOp op or compareOp op -/
def OpR (X : Cx) (f : Value → Value → Sem Value) (r : R2) : Prop :=
  ∀ (pins : List (Addr × Obj)) (s : Shared) (σ : St) (H : Hp) (x y : V) (v u : Value) (Q : VK), Inv X pins σ H s → RelV x v → RelV y u → r x y H Q →
    wpAny (model X.prog X.w) X.A (f v u) (EP X pins σ Q) X.xe s
/-- a call of a value that is known (a builtin, a type) with values -/
def CallR (X : Cx) (f : Value) (r : List V → Hp → VK → Prop) : Prop :=
  ∀ (pins : List (Addr × Obj)) (s : Shared) (σ : St) (H : Hp) (xs : List V) (us : List Value) (Q : VK), Inv X pins σ H s → Vals xs us → r xs H Q →
    wpAny (model X.prog X.w) X.A (call f us) (EP X pins σ Q) X.xe s
def tOp (r : R2) (ta tb : TE) : TE := fun σ H Q => ta σ H fun x H1 => tb σ H1 fun y H2 => r x y H2 Q
/-- ints in, under C, and a value out -/
def rI (C : Int → Int → Prop) (g : Int → Int → V) : R2 := fun x y H Q => ∃ i j, x = .int i ∧ y = .int j ∧ C i j ∧ Q (g i j) H
def rI0 (g : Int → Int → V) : R2 := fun x y H Q => ∃ i j, x = .int i ∧ y = .int j ∧ Q (g i j) H
section
variable {X : Cx} {a b c : Expr} {ta tb tc : TE} {pos : Pos}
theorem binT (ha : PE X a ta) (hb : PE X b tb) {pins : List (Addr × Obj)} {s : Shared} {σ : St} {H : Hp} {R : V → V → Hp → Prop} (I : Inv X pins σ H s)
    (h : ta σ H fun x H1 => tb σ H1 fun y H2 => R x y H2) {Q : Value → Shared → Prop} {f : Value → Value → Sem Value}
    (hf : ∀ v u s2 x y H2, Inv X pins σ H2 s2 → RelV x v → RelV y u → R x y H2 → wpAny (model X.prog X.w) X.A (f v u) Q X.xe s2) :
    wpAny (model X.prog X.w) X.A (eval a X.env) (fun v s₁ => wpAny (model X.prog X.w) X.A (eval b X.env) (fun u s₂ => wpAny (model X.prog X.w) X.A (f v u) Q X.xe s₂) X.xe s₁) X.xe s := by
  refine thn (ha pins s σ H _ I h) fun v s1 ⟨x, H1, I1, r1, q1⟩ => ?_
  refine thn (hb pins s1 σ H1 _ I1 q1) fun u s2 ⟨y, H2, I2, r2, q2⟩ => ?_
  exact hf v u s2 x y H2 I2 r1 r2 q2
theorem pe_op {op : Operator} {r : R2} (ho : OpR X (binaryOp op) r) (ha : PE X a ta) (hb : PE X b tb) : PE X (.BinOp a op b pos) (tOp r ta tb) := by
  intro pins s σ H Q I h
  exact wpAny_BinOp (binT ha hb I h fun v u s2 x y H2 I2 rx ry q => ho pins s2 σ H2 x y v u Q I2 rx ry q)
theorem opI {f : Value → Value → Sem Value} {C : Int → Int → Prop} {g : Int → Int → Int}
    (rule : ∀ (i j : Int) (t u : Tok) (s : Shared) (Q : Value → Shared → Prop) (E : Value → Shared → Prop), C i j → Q (.int (g i j) s.toks) { s with toks := s.toks + 1 } → wpAny (model X.prog X.w) X.A (f (.int i t) (.int j u)) Q E s) :
    OpR X f (rI C fun i j => .int (g i j)) := by
  intro pins s σ H x y v u Q I rx ry h
  obtain ⟨i, j, rfl, rfl, hc, q⟩ := h
  obtain ⟨t, rfl⟩ := rx
  obtain ⟨t', rfl⟩ := ry
  exact rule i j t t' s _ _ hc ⟨.int (g i j), H, I.tok _, ⟨_, rfl⟩, q⟩
theorem opI0 {f : Value → Value → Sem Value} {g : Int → Int → Int}
    (rule : ∀ (i j : Int) (t u : Tok) (s : Shared) (Q : Value → Shared → Prop) (E : Value → Shared → Prop), Q (.int (g i j) s.toks) { s with toks := s.toks + 1 } → wpAny (model X.prog X.w) X.A (f (.int i t) (.int j u)) Q E s) :
    OpR X f (rI0 fun i j => .int (g i j)) := by
  intro pins s σ H x y v u Q I rx ry h
  obtain ⟨i, j, rfl, rfl, q⟩ := h
  obtain ⟨t, rfl⟩ := rx
  obtain ⟨t', rfl⟩ := ry
  exact rule i j t t' s _ _ ⟨.int (g i j), H, I.tok _, ⟨_, rfl⟩, q⟩
theorem opB0 {f : Value → Value → Sem Value} {g : Int → Int → Bool}
    (rule : ∀ (i j : Int) (t u : Tok) (s : Shared) (Q : Value → Shared → Prop) (E : Value → Shared → Prop), Q (.bool (g i j)) s → wpAny (model X.prog X.w) X.A (f (.int i t) (.int j u)) Q E s) :
    OpR X f (rI0 fun i j => .bl (g i j)) := by
  intro pins s σ H x y v u Q I rx ry h
  obtain ⟨i, j, rfl, rfl, q⟩ := h
  obtain ⟨t, rfl⟩ := rx
  obtain ⟨t', rfl⟩ := ry
  exact rule i j t t' s _ _ ⟨.bl (g i j), H, I, rfl, q⟩
def CDiv (i j : Int) : Prop := 0 < j ∧ j < 1073741824
theorem op_add : OpR X (binaryOp .Add) (rI0 fun i j => .int (i + j)) := opI0 fun _ _ _ _ _ _ _ q => add_int q
theorem op_sub : OpR X (binaryOp .Sub) (rI0 fun i j => .int (i - j)) := opI0 fun _ _ _ _ _ _ _ q => sub_int q
/-- // by a positive divisor -/
theorem op_fdiv : OpR X (binaryOp .FloorDiv) (rI CDiv fun i j => .int (i / j)) := opI fun i j _ _ _ _ _ hc q => by
  have h1 : (0 : Int) < j := hc.1
  have h2 : j < 1073741824 := hc.2
  exact floordiv_int (by omega) (by rw [Int.fdiv_eq_ediv_of_nonneg i (by omega)]; exact q) (.inl (PyProof.noPylong_small (by omega)))
/-- % by a positive divisor of any size -/
theorem op_mod : OpR X (binaryOp .Mod) (rI (fun _ j => 0 < j) fun i j => .int (i % j)) := opI fun i j _ _ _ _ _ hc q => by
  have h1 : (0 : Int) < j := hc
  exact mod_int' (by omega) (by rw [Int.fmod_eq_emod_of_nonneg i (by omega)]; exact q)
theorem op_and : OpR X (binaryOp .BitAnd) (rI0 fun i j => .int (Builtin.bitAnd i j)) := opI0 fun _ _ _ _ _ _ _ q => and_int q
end
/-- the scalars that == tells apart as data does -/
def scal : V → V → Bool
  | .non, .non => true | .non, .int _ => true | .int _, .non => true | .non, .bl _ => true | .bl _, .non => true | .non, .str _ => true | .str _, .non => true
  | .int _, .int _ => true | .bl _, .bl _ => true | .str _, .str _ => true | .byt _, .byt _ => true
  | .int _, .str _ => true | .str _, .int _ => true | .bl _, .str _ => true | .str _, .bl _ => true
  | _, _ => false
def rEq : R2 := fun x y H Q => scal x y = true ∧ Q (.bl (decide (x = y))) H
def rNe : R2 := fun x y H Q => scal x y = true ∧ Q (.bl (!decide (x = y))) H
theorem dec_int {i j : Int} : decide (V.int i = V.int j) = (i == j) := by
  rw [Bool.eq_iff_iff]
  simp
theorem dec_bl {i j : Bool} : decide (V.bl i = V.bl j) = (i == j) := by
  rw [Bool.eq_iff_iff]
  simp
theorem dec_str {i j : Str} : decide (V.str i = V.str j) = (i == j) := by
  rw [Bool.eq_iff_iff]
  simp
theorem dec_byt {i j : Array UInt8} : decide (V.byt i = V.byt j) = (i.toList == j.toList) := by
  rw [Bool.eq_iff_iff]
  cases i
  cases j
  simp
section
variable {X : Cx} {a b c : Expr} {ta tb tc : TE} {pos : Pos}
theorem fin_bl {pins : List (Addr × Obj)} {σ : St} {H : Hp} {s : Shared} {Q : VK} {k k' : Bool} (I : Inv X pins σ H s) (q : Q (.bl k) H) (e : k = k') : EP X pins σ Q (.bool k') s := by
  subst e
  exact ⟨.bl k, H, I, rfl, q⟩
theorem op_eq : OpR X (compareOp .Eq) rEq := by
  intro pins s σ H x y v u Q I rx ry h
  obtain ⟨hs, q⟩ := h
  cases x with
  | non =>
    cases rx
    cases y with
    | non => cases ry; exact PySem.EqNone.eq_none_none (fin_bl I q (by simp))
    | bl j => cases ry; exact PySem.EqNone.eq_none_bool (fin_bl I q (by simp))
    | int j => obtain ⟨t', rfl⟩ := ry; exact PySem.EqNone.eq_none_int (fin_bl I q (by simp))
    | str j => obtain ⟨t', rfl⟩ := ry; exact PySem.EqNone.eq_none_str (fin_bl I q (by simp))
    | _ => exact absurd (show false = true from hs) Bool.false_ne_true
  | bl i =>
    cases rx
    cases y with
    | non => cases ry; exact PySem.EqNone.eq_bool_none (fin_bl I q (by simp))
    | bl j => cases ry; exact eq_bool (fin_bl I q dec_bl)
    | str j => obtain ⟨t', rfl⟩ := ry; exact PySem.EqMixed.eq_bool_str (fin_bl I q (by simp))
    | _ => exact absurd (show false = true from hs) Bool.false_ne_true
  | int i =>
    obtain ⟨t, rfl⟩ := rx
    cases y with
    | non => cases ry; exact PySem.EqNone.eq_int_none (fin_bl I q (by simp))
    | int j => obtain ⟨t', rfl⟩ := ry; exact eq_int (fin_bl I q dec_int)
    | str j => obtain ⟨t', rfl⟩ := ry; exact PySem.EqMixed.eq_int_str (fin_bl I q (by simp))
    | _ => exact absurd (show false = true from hs) Bool.false_ne_true
  | str i =>
    obtain ⟨t, rfl⟩ := rx
    cases y with
    | non => cases ry; exact PySem.EqNone.eq_str_none (fin_bl I q (by simp))
    | bl j => cases ry; exact PySem.EqMixed.eq_str_bool (fin_bl I q (by simp))
    | int j => obtain ⟨t', rfl⟩ := ry; exact PySem.EqMixed.eq_str_int (fin_bl I q (by simp))
    | str j => obtain ⟨t', rfl⟩ := ry; exact eq_str (fin_bl I q dec_str)
    | _ => exact absurd (show false = true from hs) Bool.false_ne_true
  | byt i =>
    obtain ⟨t, rfl⟩ := rx
    cases y with
    | byt j => obtain ⟨t', rfl⟩ := ry; exact PySem.W.eq_bytes (fin_bl I q dec_byt)
    | _ => exact absurd (show false = true from hs) Bool.false_ne_true
  | _ => cases y <;> exact absurd (show false = true from hs) Bool.false_ne_true
theorem op_ne : OpR X (compareOp .NotEq) rNe := by
  intro pins s σ H x y v u Q I rx ry h
  obtain ⟨hs, q⟩ := h
  cases x with
  | non =>
    cases rx
    cases y with
    | non => cases ry; exact PySem.EqNone.ne_none_none (fin_bl I q (by simp))
    | bl j => cases ry; exact PySem.EqNone.ne_none_bool (fin_bl I q (by simp))
    | int j => obtain ⟨t', rfl⟩ := ry; exact PySem.EqNone.ne_none_int (fin_bl I q (by simp))
    | str j => obtain ⟨t', rfl⟩ := ry; exact PySem.EqNone.ne_none_str (fin_bl I q (by simp))
    | _ => exact absurd (show false = true from hs) Bool.false_ne_true
  | bl i =>
    cases rx
    cases y with
    | non => cases ry; exact PySem.EqNone.ne_bool_none (fin_bl I q (by simp))
    | bl j => cases ry; exact ne_bool (fin_bl I q (congrArg not dec_bl))
    | str j => obtain ⟨t', rfl⟩ := ry; exact PySem.EqMixed.ne_bool_str (fin_bl I q (by simp))
    | _ => exact absurd (show false = true from hs) Bool.false_ne_true
  | int i =>
    obtain ⟨t, rfl⟩ := rx
    cases y with
    | non => cases ry; exact PySem.EqNone.ne_int_none (fin_bl I q (by simp))
    | int j => obtain ⟨t', rfl⟩ := ry; exact ne_int (fin_bl I q (congrArg not dec_int))
    | str j => obtain ⟨t', rfl⟩ := ry; exact PySem.EqMixed.ne_int_str (fin_bl I q (by simp))
    | _ => exact absurd (show false = true from hs) Bool.false_ne_true
  | str i =>
    obtain ⟨t, rfl⟩ := rx
    cases y with
    | non => cases ry; exact PySem.EqNone.ne_str_none (fin_bl I q (by simp))
    | bl j => cases ry; exact PySem.EqMixed.ne_str_bool (fin_bl I q (by simp))
    | int j => obtain ⟨t', rfl⟩ := ry; exact PySem.EqMixed.ne_str_int (fin_bl I q (by simp))
    | str j => obtain ⟨t', rfl⟩ := ry; exact ne_str (fin_bl I q (congrArg not dec_str))
    | _ => exact absurd (show false = true from hs) Bool.false_ne_true
  | byt i =>
    obtain ⟨t, rfl⟩ := rx
    cases y with
    | byt j => obtain ⟨t', rfl⟩ := ry; exact PySem.W.ne_bytes (fin_bl I q (congrArg not dec_byt))
    | _ => exact absurd (show false = true from hs) Bool.false_ne_true
  | _ => cases y <;> exact absurd (show false = true from hs) Bool.false_ne_true
theorem op_lt : OpR X (compareOp .Lt) (rI0 fun i j => .bl (decide (i < j))) := opB0 fun _ _ _ _ _ _ _ q => lt_int q
theorem op_le : OpR X (compareOp .LtE) (rI0 fun i j => .bl (decide (i ≤ j))) := opB0 fun _ _ _ _ _ _ _ q => le_int q
theorem op_gt : OpR X (compareOp .Gt) (rI0 fun i j => .bl (decide (j < i))) := opB0 fun _ _ _ _ _ _ _ q => gt_int q
theorem op_ge : OpR X (compareOp .GtE) (rI0 fun i j => .bl (decide (j ≤ i))) := opB0 fun _ _ _ _ _ _ _ q => ge_int q
theorem nomark (b : Expr) {op : CmpOp} (h : op ≠ .In := by decide) (h2 : op ≠ .NotIn := by decide) : behindInMarks op b = false := by
  have e1 : (op == CmpOp.In) = false := by cases op <;> first | rfl | exact absurd rfl h
  have e2 : (op == CmpOp.NotIn) = false := by cases op <;> first | rfl | exact absurd rfl h2
  cases b <;> simp [behindInMarks, e1, e2]
/-- a comparison as a value; hm: nomark b, or (for in, not in) by with_unfolding_all rfl -/
theorem pe_cmpR {op : CmpOp} {r : R2} (ho : OpR X (compareOp op) r) (ha : PE X a ta) (hb : PE X b tb) (hm : behindInMarks op b = false) : PE X (.Compare a [op] [b] pos) (tOp r ta tb) := by
  intro pins s σ H Q I h
  exact wpAny_Compare1 (binT ha hb I h fun v u s2 x y H2 I2 rx ry q => ho pins s2 σ H2 x y v u Q I2 rx ry q) hm
/-- a reading of a value as a test -/
def tTest (t : TE) : TT := fun σ H Q => t σ H fun x H' => ∃ k, x = .bl k ∧ Q k H'
theorem pt_cmpR {op : CmpOp} {r : R2} (ho : OpR X (compareOp op) r) (ha : PE X a ta) (hb : PE X b tb) (hm : behindInMarks op b = false) : PT X (.Compare a [op] [b] pos) (tTest (tOp r ta tb)) := by
  intro pins s σ H Q I h
  refine wpAny_isTrue_Compare1 (thn (ha pins s σ H _ I h) fun v s1 ⟨x, H1, I1, r1, q1⟩ => thn (hb pins s1 σ H1 _ I1 q1) fun u s2 ⟨y, H2, I2, r2, q2⟩ =>
    thn (ho pins s2 σ H2 x y v u _ I2 r1 r2 q2) fun c s3 ⟨z, H3, I3, r3, k, e, q3⟩ => ?_) hm
  subst e
  cases r3
  exact wpAny_truthy_bool ⟨H3, I3, q3⟩
theorem line63 : (sizeLine : Nat) < 2 ^ 63 := by rw [sizeLine_eq]; decide
theorem vals1 {x : V} {us : List Value} (r : Vals [x] us) : ∃ u, us = [u] ∧ RelV x u := by
  cases r with
  | cons r1 r2 => cases r2; exact ⟨_, rfl, r1⟩
end
end L2
namespace L2
open PySem PySem.Spec PyProof.Rows
structure ObjM (h : Heap) (x dx C : Addr) (mA : Str → Option Value) : Prop where
  obj : h.get? x = some (PySem.W.instObj C dx)
  ns : h.Ns1 dx mA
  ne : dx ≠ x
theorem lookIn_ns {h : Heap} {dx : Addr} {mA : Str → Option Value} (n : h.Ns1 dx mA) : ∃ od, h.get? dx = some od ∧ ∀ name, PySem.W.lookIn name od = some (mA name) := by
  obtain ⟨o, es, ep, ho, hd, hk, _, hm⟩ := n
  refine ⟨o, ho, fun name => ?_⟩
  have e := hm name
  unfold nsFind findBy at e
  rw [← Array.find?_toList] at e
  unfold PySem.W.lookIn
  rw [hd]
  dsimp only
  split
  · rename_i y q
    rw [q] at e
    exact congrArg some e
  · rename_i q
    rw [q] at e
    have a : es.toList.any (·.refKey) = false := by
      rw [List.any_eq_false]
      intro y hy
      obtain ⟨z, t, hkey⟩ := hk y (Array.mem_toList_iff.mp hy)
      simp [DictEntry.refKey, hkey]
    have a' : ¬ es.toList.any (·.refKey) = true := by rw [a]; exact Bool.false_ne_true
    rw [if_neg a']
    exact congrArg some e
theorem ObjM.look {h : Heap} {x dx C : Addr} {mA : Str → Option Value} (I : ObjM h x dx C mA) : ∃ od, PySem.W.InstAt h x (PySem.W.instObj C dx) C (some od) ∧ ∀ name, PySem.W.lookIn name od = some (mA name) :=
  let ⟨od, ho, hl⟩ := lookIn_ns I.ns
  ⟨od, ⟨I.obj, rfl, rfl, ho⟩, hl⟩
section
variable {prog : Program} {w : World} {A : Around} {E : Value → Shared → Prop} {s : Shared} {K : PySem.W.Frag} {x dx C f : Addr} {mA : Str → Option Value} {name : Str} {v : Value}
theorem get_map {expr : Bool} {Q : Value → Shared → Prop} (X : K.In s.heap) (I : ObjM s.heap x dx C mA) (hg : PySem.W.plainGet K C name = true) (hh : PySem.W.hasDictIn K C = true)
    (ha : PySem.W.findIn K (.ref C) name = some none) (hv : mA name = some v) (hv' : PySem.W.handedIn v = true) (h : Q v { s with toks := s.toks + 1 }) :
    wpAny (model prog w) A (getAttr (.ref x) name expr) Q E s := by
  obtain ⟨od, J, hl⟩ := I.look
  exact PySem.W.get_value X J (PySem.W.plainGet_of hg).1 (PySem.W.findObj_own hh ha rfl (by rw [hl, hv])) hv' h
theorem get_meth {pl : Sem Bool} {Q : Value × List Value → Shared → Prop} (X : K.In s.heap) (I : ObjM s.heap x dx C mA) (hg : PySem.W.plainGet K C name = true)
    (hf : PySem.W.findIn K (.ref C) name = some (some (.ref f))) (ht : PySem.W.isFn K (.ref f) = true) (hv : mA name = none) (h : Q (.ref f, [.ref x]) s) :
    wpAny (model prog w) A (getMethod (.ref x) name pl) Q E s := by
  obtain ⟨od, J, hl⟩ := I.look
  exact PySem.W.method_fn X J (PySem.W.plainGet_of hg).1 (PySem.W.plainGet_of hg).2 hf (beq_iff_eq.mp ht) (by show (PySem.W.lookIn name od).map (·.isSome) = some false; rw [hl, hv]; rfl) h
theorem set_map {ns : List Str} {Q : Unit → Shared → Prop} (X : K.In s.heap) (I : ObjM s.heap x dx C mA)
    (hs : PySem.W.findIn K (.ref C) "__setattr__" = some (some (.builtin "object.__setattr__"))) (hp : PySem.W.plainOver K C = true) (ht : PySem.W.takerIn K C name = some none) (hh : PySem.W.hasDictIn K C = true)
    (hw : PySem.Within mA ns) (hsz : ns.length ≤ sizeLine)
    (h : ∀ h', ObjM h' x dx C (fun y => if y = name then some v else mA y) → Heap.SameBut dx s.heap h' → Q () { s with heap := h', toks := s.toks + 2 }) :
    wpAny (model prog w) A (setAttr (.ref x) name v) Q E s := by
  obtain ⟨od, J, hl⟩ := I.look
  refine PySem.W.set_plain X J hs (PySem.W.osa_open (s := { s with toks := s.toks + 1 }) (r := none) X J hp ht fun b => ?_)
  obtain ⟨cd, hc, hd'⟩ := PySem.W.any_some hh
  have hx : s.heap.get? x = some ⟨.ref C, some dx, .plain, #[]⟩ := I.obj
  refine wpAny_bind (wpAny_pure (wpAny_bind (wpAny_bind (wpAny_loadPart hx (wpAny_bind (PySem.W.Looks.here (s := { s with toks := s.toks + 1 }) (PySem.W.looks_clsIn X hc) ?_))))))
  rw [hd']
  refine wpAny_pure (a := some dx) (wpAny_bind (wpAny_pure (wpAny_bind ?_)))
  refine wpAny_nsSet1 (s := { s with toks := s.toks + 1 }) I.ns fun h' hn2 hs2 => ?_
  obtain ⟨oD, esD, epD, hoD, hdD, hcD⟩ := hn2.count (PySem.Within.cons name v hw)
  refine wpAny_bind (wpAny_lookBehind hoD (by rw [hdD]; exact pastItsLine_dict (Nat.le_trans hcD (by rw [List.length_cons]; omega))) ?_)
  exact wpAny_pure (h _ ⟨(hs2.2 _ (Ne.symm I.ne)).trans I.obj, hn2, I.ne⟩ hs2)
/-- C(..): the dict at the heap's end, the instance behind it; then its __init__ -/
theorem make_map {R : Result → Shared → Prop} {vs : List Value} {kw : List (Str × Value)} (X : K.In s.heap) (hm : PySem.W.makesIn K C = true)
    (hi : PySem.W.findIn K (.ref C) "__init__" = some (some (.ref f))) (hf : PySem.W.typeIn K (.ref f) = some (.type "function"))
    (h : codeAny (model prog w) (A.under (.builtin "type.__call__" ⟨.ref C :: vs, kw⟩)) (.call (.ref f) ⟨.ref (s.heap.objs.size + 1) :: vs, kw⟩) (PySem.W.InitBack (s.heap.objs.size + 1) R)
      { s with heap := (s.heap.push PySem.W.emptyDict).push (PySem.W.instObj C s.heap.objs.size) }) :
    codeAny (model prog w) A (.call (.ref C) ⟨vs, kw⟩) R s := by
  obtain ⟨hh, g, d, t, os⟩ := s
  exact PySem.W.make_core (PySem.W.makes_of X hm) (PySem.W.looks_findIn X hi) (fun self => PySem.W.bind_fn X self hf) (.inl rfl) h
end
def putF (f : Str) (v : V) : List (Str × V) → List (Str × V)
  | [] => [(f, v)]
  | (g, x) :: r => if g = f then (g, v) :: r else (g, x) :: putF f v r
theorem lookup_putF (f g : Str) (v : V) : ∀ fs : List (Str × V), (putF f v fs).lookup g = if g = f then some v else fs.lookup g
  | [] => by
    show List.lookup g [(f, v)] = _
    by_cases h : g = f
    · have hb : (g == f) = true := beq_iff_eq.mpr h
      simp only [List.lookup, hb, if_pos h]
    · have hb : (g == f) = false := beq_eq_false_iff_ne.mpr h
      simp only [List.lookup, hb, if_neg h]
  | (k, x) :: r => by
    have ih := lookup_putF f g v r
    rw [show putF f v ((k, x) :: r) = (if k = f then (k, v) :: r else (k, x) :: putF f v r) from rfl]
    by_cases hk : k = f
    · rw [if_pos hk]
      by_cases h : g = k
      · have hb : (g == k) = true := beq_iff_eq.mpr h
        simp only [List.lookup, hb, if_pos (h.trans hk)]
      · have hb : (g == k) = false := beq_eq_false_iff_ne.mpr h
        simp only [List.lookup, hb, if_neg (fun e : g = f => h (e.trans hk.symm))]
    · rw [if_neg hk]
      by_cases h : g = k
      · have hb : (g == k) = true := beq_iff_eq.mpr h
        simp only [List.lookup, hb, if_neg (fun e : g = f => hk (h.symm.trans e))]
      · have hb : (g == k) = false := beq_eq_false_iff_ne.mpr h
        simp only [List.lookup, hb]
        exact ih
theorem keys_putF (f : Str) (v : V) : ∀ fs : List (Str × V), f ∈ (putF f v fs).map (·.1) ∧ ∀ g, g ∈ fs.map (·.1) → g ∈ (putF f v fs).map (·.1)
  | [] => ⟨by simp [putF], fun g h => by simp at h⟩
  | (k, x) :: r => by
    obtain ⟨i1, i2⟩ := keys_putF f v r
    rw [show putF f v ((k, x) :: r) = (if k = f then (k, v) :: r else (k, x) :: putF f v r) from rfl]
    by_cases hk : k = f
    · rw [if_pos hk]
      subst hk
      exact ⟨by simp, fun g h => by simpa using h⟩
    · rw [if_neg hk]
      refine ⟨?_, fun g h => ?_⟩
      · rw [List.map_cons]
        exact List.mem_cons_of_mem _ i1
      · rw [List.map_cons] at h ⊢
        rcases List.mem_cons.mp h with e | e
        · exact List.mem_cons.mpr (.inl e)
        · exact List.mem_cons_of_mem _ (i2 g e)
theorem length_putF (f : Str) (v : V) : ∀ fs : List (Str × V), (putF f v fs).length ≤ fs.length + 1
  | [] => by simp [putF]
  | (k, x) :: r => by
    have ih := length_putF f v r
    rw [show putF f v ((k, x) :: r) = (if k = f then (k, v) :: r else (k, x) :: putF f v r) from rfl]
    by_cases hk : k = f
    · rw [if_pos hk, List.length_cons, List.length_cons]; omega
    · rw [if_neg hk, List.length_cons, List.length_cons]; omega
theorem RelO.some_of {v : V} {o : Option Value} (r : RelO (some v) o) : ∃ u, o = some u ∧ RelV v u := by
  cases o with
  | none => exact (show False from r).elim
  | some u => exact ⟨u, rfl, r⟩
theorem RelO.none_of {o : Option Value} (r : RelO none o) : o = none := by
  cases o with
  | none => rfl
  | some u => exact (show False from r).elim
theorem handed_of {v : V} {u : Value} (r : RelV v u) : PySem.W.handedIn u = true := by
  cases v with
  | non => cases (show u = Value.none from r); rfl
  | bl b => cases (show u = Value.bool b from r); rfl
  | int i => obtain ⟨t, e⟩ := (show ∃ t, u = Value.int i t from r); cases e; rfl
  | str x => obtain ⟨t, e⟩ := (show ∃ t, u = Value.str x t from r); cases e; rfl
  | byt b => obtain ⟨t, e⟩ := (show ∃ t, u = Value.bytes b t from r); cases e; rfl
  | flt b => obtain ⟨t, e⟩ := (show ∃ t, u = Value.float b t from r); cases e; rfl
  | ref a => cases (show u = Value.ref a from r); rfl
  | ty n => cases (show u = Value.type n from r); rfl
section
variable {P : Program} {w : World} {H H' : Hp} {h h' : Heap} {a C dx : Addr} {fs fs' : List (Str × V)}
theorem ins_get (hok : HOk P w H h) (e : H a = some (.ins C dx fs)) : ∃ mA, ObjM h a dx C mA ∧ (∀ f, RelO (fs.lookup f) (mA f)) ∧ PySem.Within mA (fs.map (·.1)) ∧ fs.length ≤ 1000 ∧ H dx = some (.own a) := by
  obtain ⟨d, z, ne, ob, mA, n, r, q⟩ := (show ObjOk P w H h a (.ins C dx fs) from hok a _ e)
  exact ⟨mA, ⟨ob, n, ne⟩, r, q, z, d⟩
end
structure Cls (K : PySem.W.Frag) (C : Addr) : Prop where
  pg : PySem.W.plainGet K C Str.empty = true
  hd : PySem.W.hasDictIn K C = true
  po : PySem.W.plainOver K C = true
  sa : PySem.W.findIn K (.ref C) "__setattr__" = some (some (.builtin "object.__setattr__"))
theorem Cls.get {K : PySem.W.Frag} {C : Addr} (c : Cls K C) (f : Str) : PySem.W.plainGet K C f = true := c.pg
/-- no class of it has the name -/
def NoAttr (K : PySem.W.Frag) (C : Addr) (f : Str) : Prop := PySem.W.findIn K (.ref C) f = some none
theorem NoAttr.taker {K : PySem.W.Frag} {C : Addr} {f : Str} (n : NoAttr K C f) : PySem.W.takerIn K C f = some none := by
  unfold PySem.W.takerIn
  rw [show PySem.W.findIn K (.ref C) f = some none from n]
  rfl
/-- a constant of the class -/
structure Con (K : PySem.W.Frag) (C : Addr) (f : Str) (v : V) (u : Value) : Prop where
  at_ : PySem.W.findIn K (.ref C) f = some (some u)
  rel : RelV v u
  get : PySem.W.specialIn K u "__get__" = some none
  cp : PySem.W.copiedNames.contains f = false
/-- a method: a plain def of the class or of one above it -/
structure Meth (K : PySem.W.Frag) (C : Addr) (m : Str) (f : Addr) : Prop where
  at_ : PySem.W.findIn K (.ref C) m = some (some (.ref f))
  fn : PySem.W.isFn K (.ref f) = true
  kp : PySem.W.keepIn K (.ref f) = true
section
variable {X : Cx} {pins : List (Addr × Obj)} {σ : St} {H : Hp} {s : Shared} {a C dx : Addr} {fs : List (Str × V)} {f : Str} {v : V} {A : Around} {E : Value → Shared → Prop}
theorem getattr_ok {b : Bool} {Q : Value → Shared → Prop} (I : Inv X pins σ H s) (e : H a = some (.ins C dx fs)) (c : Cls X.K C) (n : NoAttr X.K C f) (l : fs.lookup f = some v)
    (h : ∀ u s', Inv X pins σ H s' → RelV v u → Q u s') : wpAny (model X.prog X.w) A (getAttr (.ref a) f b) Q E s := by
  obtain ⟨mA, O, r, _, _, _⟩ := ins_get I.hok e
  obtain ⟨u, hu, ru⟩ := RelO.some_of (v := v) (o := mA f) (by rw [← l]; exact r f)
  exact get_map I.kIn O (c.get f) c.hd n hu (handed_of ru) (h u _ (I.tok _) ru)
theorem getmeth_ok {m : Str} {g : Addr} {pl : Sem Bool} {Q : Value × List Value → Shared → Prop} (I : Inv X pins σ H s) (e : H a = some (.ins C dx fs)) (c : Cls X.K C) (k : Meth X.K C m g) (l : fs.lookup m = none)
    (h : Q (.ref g, [.ref a]) s) : wpAny (model X.prog X.w) A (getMethod (.ref a) m pl) Q E s := by
  obtain ⟨mA, O, r, _, _, _⟩ := ins_get I.hok e
  have hn : mA m = none := RelO.none_of (by rw [← l]; exact r m)
  exact get_meth I.kIn O (c.get m) k.at_ k.fn hn h
theorem setattr_ok {y : V} {u : Value} {Q : Unit → Shared → Prop} (I : Inv X pins σ H s) (e : H a = some (.ins C dx fs)) (c : Cls X.K C) (n : NoAttr X.K C f) (hl : fs.length < 1000) (ry : RelV y u)
    (h : ∀ s', Inv X pins σ (upd H a (.ins C dx (putF f y fs))) s' → Q () s') : wpAny (model X.prog X.w) A (setAttr (.ref a) f u) Q E s := by
  obtain ⟨mA, O, r, wi, _, ho⟩ := ins_get I.hok e
  have hz : (fs.map (·.1)).length ≤ sizeLine := by rw [List.length_map, sizeLine_eq]; omega
  refine set_map I.kIn O c.sa c.po n.taker c.hd wi hz fun h' O' sb => h _ ?_
  have hd : ∃ o, h'.get? dx = some o := let ⟨o, _, _, e', _⟩ := O'.ns; ⟨o, e'⟩
  refine I.write (x := a) (e := dx) (by rw [e]; exact True.intro) (.inr ho) (fun b q hb z => (sb.2 b hb).trans z) hd ?_
  refine ⟨by rw [upd_ne O.ne]; exact ho, ?_, O.ne, O'.obj, _, O'.ns, fun g => ?_, fun g hg => ?_⟩
  · have := length_putF f y fs; omega
  · show RelO ((putF f y fs).lookup g) (if g = f then some u else mA g)
    rw [lookup_putF]
    by_cases q : g = f
    · rw [if_pos q, if_pos q]; exact ry
    · rw [if_neg q, if_neg q]; exact r g
  · by_cases q : g = f
    · rw [q]; exact (keys_putF f y fs).1
    · refine (keys_putF f y fs).2 g (wi g fun z => hg ?_)
      show (if g = f then some u else mA g) = none
      rw [if_neg q]; exact z
/-- a new instance, tracked, without attributes -/
theorem Inv.made (I : Inv X pins σ H s) : Inv X pins σ (upd (upd H s.heap.objs.size (.own (s.heap.objs.size + 1))) (s.heap.objs.size + 1) (.ins C s.heap.objs.size []))
    { s with heap := (s.heap.push PySem.W.emptyDict).push (PySem.W.instObj C s.heap.objs.size) } := by
  have e1 : (s.heap.push PySem.W.emptyDict).get? s.heap.objs.size = some PySem.W.emptyDict := Heap.get?_push_size s.heap rfl
  have e2 : ((s.heap.push PySem.W.emptyDict).push (PySem.W.instObj C s.heap.objs.size)).get? (s.heap.objs.size + 1) = some (PySem.W.instObj C s.heap.objs.size) := by
    have := Heap.get?_push_size (s.heap.push PySem.W.emptyDict) (o := PySem.W.instObj C s.heap.objs.size) rfl
    rwa [Heap.size_push] at this
  have e3 : (s.heap.push PySem.W.emptyDict).Ns s.heap.objs.size (fun _ => none) := ⟨PySem.W.emptyDict, #[], _, e1, rfl, (fun e he => absurd he (by simp)), fun _ => rfl⟩
  have I1 := I.laid (a := s.heap.objs.size) (o := .own (s.heap.objs.size + 1)) (h' := s.heap.push PySem.W.emptyDict) (t' := s.toks) (fun b u q => Heap.get?_push_of_some _ q) (Nat.le_refl _) ⟨_, e1⟩
  refine I1.laid (a := s.heap.objs.size + 1) (o := .ins C s.heap.objs.size []) (t' := s.toks) (fun b u q => Heap.get?_push_of_some _ q) (Nat.le_of_eq (Heap.size_push _ _)) ?_
  have ne : s.heap.objs.size ≠ s.heap.objs.size + 1 := Nat.ne_of_lt (Nat.lt_succ_self _)
  refine ⟨by rw [upd_ne ne, upd_same], Nat.zero_le _, ne, e2, fun _ => none, (Heap.Ns1.of_empty e3).at fun o q => Heap.get?_push_of_some _ q, fun _ => True.intro, fun y hy => absurd rfl hy⟩
/-- e.f where nothing but the object is asked: through attributeBase (super) and the last hold -/
theorem attr_of {prog : Program} {w : World} {env : Env} {e : Expr} {f : Str} {pos : Pos} {s : Shared} {Q : Value → Shared → Prop} (hb : attributeBase e f env (eval e env) = eval e env)
    (h : wpAny (model prog w) A (eval e env) (fun o s₁ => wpAny (model prog w) A (getAttr o f true) Q E s₁) E s) : wpAny (model prog w) A (eval (.Attribute e f pos) env) Q E s :=
  Attribute_any_ h (by rw [arm_eval_Attribute, hb])
end
/-- e.f, an attribute of the instance -/
def tFld (K : PySem.W.Frag) (ta : TE) (f : Str) : TE := fun σ H Q => ta σ H fun x H1 => ∃ a C dx fs v, x = .ref a ∧ H1 a = some (.ins C dx fs) ∧ Cls K C ∧ NoAttr K C f ∧ fs.lookup f = some v ∧ Q v H1
/-- e.f = value -/
def sFld (K : PySem.W.Frag) (ta tv : TE) (f : Str) : TS := fun D σ H => tv σ H fun y H1 => ta σ H1 fun x H2 => ∃ a C dx fs, x = .ref a ∧ H2 a = some (.ins C dx fs) ∧ Cls K C ∧ NoAttr K C f ∧ fs.length < 1000 ∧
  D.nx σ (upd H2 a (.ins C dx (putF f y fs)))
section
variable {X : Cx} {o e value : Expr} {f : Str} {pos pos' tpos : Pos} {ta tv : TE}
theorem pe_fld (he : PE X e ta) (hb : attributeBase e f X.env (eval e X.env) = eval e X.env) : PE X (.Attribute e f pos) (tFld X.K ta f) := by
  intro pins s σ H Q I h
  refine attr_of hb (thn (he pins s σ H _ I h) fun u s1 ⟨x, H1, I1, rx, a, C, dx, fs, v, ex, ea, c, n, l, q⟩ => ?_)
  subst ex
  obtain rfl : u = Value.ref a := rx
  exact getattr_ok I1 ea c n l fun u' s2 I2 ru => ⟨v, H1, I2, ru, q⟩
theorem ps_fld (ha : PE X o ta) (hv : PE X value tv) (hs : swapsWith value (some (.Attribute o f pos')) pos.line X.env = pure false) : PS X (.Assign [.Attribute o f pos'] value pos) (sFld X.K ta tv f) := by
  intro pins s σ H D I h
  refine plainObj_wpAny_Assign_Attribute (thn (hv pins s σ H _ I h) fun u s1 ⟨y, H1, I1, ry, q⟩ => thn (ha pins s1 σ H1 _ I1 q) fun ov s2 ⟨x, H2, I2, rx, a, C, dx, fs, ex, ea, c, n, l, q2⟩ => ?_) hs
  subst ex
  obtain rfl : ov = Value.ref a := rx
  exact setattr_ok I2 ea c n l ry fun s3 I3 => ⟨σ, _, I3, q2⟩
end
section
variable {X : Cx} {pins : List (Addr × Obj)} {σ : St} {H : Hp} {s : Shared} {A : Around} {E : Value → Shared → Prop} {Q : Value → Shared → Prop} {c : Value} {b : Bool}
/-- the type of a value, as the fragment's deciders take it; for an instance its class -/
inductive TyOf (K : PySem.W.Frag) (H : Hp) : V → Value → Prop where
  | non : TyOf K H .non (.type "NoneType")
  | bl (x : Bool) : TyOf K H (.bl x) (.type "bool")
  | int (i : Int) : TyOf K H (.int i) (.type "int")
  | str (x : Str) : TyOf K H (.str x) (.type "str")
  | flt (x : UInt64) : TyOf K H (.flt x) (.type "float")
  | lst {a : Addr} {xs : List V} (e : H a = some (.lst xs)) : TyOf K H (.ref a) (.type "list")
  | frz {a : Addr} {o : Obj} {xs : List V} (e : H a = some (.frz o (.lst xs))) : TyOf K H (.ref a) (.type "list")
  | tup {a : Addr} {xs : List V} (e : H a = some (.tup xs)) : TyOf K H (.ref a) (.type "tuple")
  | dK {a : Addr} {kvs : List (Key × V)} (e : H a = some (.dK kvs)) : TyOf K H (.ref a) (.type "dict")
  | dT {a : Addr} {kvs : List (List Key × V)} (e : H a = some (.dT kvs)) : TyOf K H (.ref a) (.type "dict")
  | ins {a C dx : Addr} {fs : List (Str × V)} (e : H a = some (.ins C dx fs)) (cl : Cls K C) (ha : PySem.W.findIn K (.ref C) "__class__" = some (some (.builtin "object.__class__")))
      (hn : PySem.W.specialIn K (.builtin "object.__class__") "__get__" = some (some (.builtin "getset_descriptor.__get__"))) (htk : PySem.W.takesIn K (.builtin "object.__class__") = some true)
      (hm : PySem.W.mroIn K C (.type "object") = some true) : TyOf K H (.ref a) (.ref C)
end
end L2
namespace L2
open PySem PySem.Spec PyProof.Rows
structure Room (k : Nat) (A : Around) : Prop where
  hd : A.handled = none
  dp : A.depth + 3 * k + 5 < recursionLimit
  un : A.units + 16 * k + 200 < cLine
theorem Room.mono {j k : Nat} {A : Around} (r : Room k A) (h : j ≤ k) : Room j A := ⟨r.hd, by have := r.dp; omega, by have := r.un; omega⟩
theorem Room.deeper {k : Nat} {A : Around} (r : Room (k + 1) A) (env : Env) : Room k (A.deeper env) :=
  ⟨r.hd, by have := r.dp; show A.depth + 1 + 3 * k + 5 < _; omega, by have := r.un; show A.units + 3 + 16 * k + 200 < _; omega⟩
theorem make_depth {A : Around} {C : Addr} {us : List Value} {kw : List (Str × Value)} : (A.under (.builtin "type.__call__" ⟨.ref C :: us, kw⟩)).depth = A.depth + 1 := by
  first | rfl | simp [Around.under, Code.weight, Code.isCreation, Code.isGuard, Code.isCaller, Code.frames, Code.isFrame, guardIds]
theorem make_units {A : Around} {C : Addr} {us : List Value} {kw : List (Str × Value)} : (A.under (.builtin "type.__call__" ⟨.ref C :: us, kw⟩)).units = A.units + 1 := by
  first | rfl | simp [Around.under, Code.cUnits, Code.frames, Code.isFrame]
theorem Room.make {k : Nat} {A : Around} (r : Room (k + 1) A) (C : Addr) (us : List Value) (kw : List (Str × Value)) : Room k (A.under (.builtin "type.__call__" ⟨.ref C :: us, kw⟩)) :=
  ⟨r.hd, by have := r.dp; rw [make_depth]; omega, by have := r.un; rw [make_units]; omega⟩
theorem Room.depth {k : Nat} {A : Around} (r : Room k A) : A.depth < recursionLimit := by have := r.dp; omega
theorem Room.units {k : Nat} {A : Around} (r : Room k A) : A.units + 64 < cLine := by have := r.un; omega
def tNil : TA := fun _ H Q => Q [] H
def tCons (ta : TE) (tr : TA) : TA := fun σ H Q => ta σ H fun x H1 => tr σ H1 fun xs H2 => Q (x :: xs) H2
section
variable {X : Cx} {e : Expr} {es : List Expr} {te : TE} {t : TA} {pos : Pos}
theorem pa_nil : PA X [] tNil := fun _ _ _ _ H Q I h => Calls.spliced_nil ⟨[], H, I, .nil, h⟩
theorem pa_cons (ha : PE X e te) (hr : PA X es t) (hs : starEach (e :: es) X.env = (false, eval e X.env) :: starEach es X.env := by rfl) : PA X (e :: es) (tCons te t) := by
  intro pos pins s σ H Q I h
  rw [hs]
  show wpAny _ _ (spliced ((false, eval e X.env) :: backTo pos (starEach es X.env))) _ _ s
  refine Calls.spliced_cons (thn (ha pins s σ H _ I h) fun u s1 ⟨x, H1, I1, r1, q1⟩ => ?_)
  exact thn (hr pos pins s1 σ H1 _ I1 q1) fun us s2 ⟨xs, H2, I2, r2, q2⟩ => ⟨x :: xs, H2, I2, .cons r1 r2, q2⟩
/-- a tuple, a list of written items -/
def tTup (t : TA) : TE := fun σ H Q => t σ H fun xs H1 => xs.length ≤ sizeLine ∧ ∀ p, H1 p = none → Q (.ref p) (upd H1 p (.tup xs))
def tLst (t : TA) : TE := fun σ H Q => t σ H fun xs H1 => xs.length ≤ sizeLine ∧ ∀ p, H1 p = none → Q (.ref p) (upd H1 p (.lst xs))
theorem pe_tup {x1} (h : PA X es t) : PE X (.Tuple es x1 pos) (tTup t) := by
  intro pins s σ H Q I hq
  refine wpAny_Tuple_spliced (thn (h pos pins s σ H _ I hq) fun us s1 ⟨xs, H1, I1, r, z, q⟩ => ⟨by rw [← r.length]; exact z, ?_⟩)
  have hf : H1 s1.heap.objs.size = none := I1.hok.fresh (Nat.le_refl _)
  refine ⟨.ref s1.heap.objs.size, upd H1 s1.heap.objs.size (.tup xs), I1.laid (t' := s1.toks) (fun b u e => Heap.get?_push_of_some _ e) (Nat.le_refl _) ?_, rfl, q _ hf⟩
  exact ⟨z, us, r, ⟨_, Heap.get?_push_size _ rfl, rfl, _, rfl⟩⟩
theorem pe_lst (h : PA X es t) : PE X (.List es pos) (tLst t) := by
  intro pins s σ H Q I hq
  refine wpAny_List_spliced (thn (h pos pins s σ H _ I hq) fun us s1 ⟨xs, H1, I1, r, z, q⟩ => ⟨by rw [← r.length]; exact z, ?_⟩)
  have hf : H1 s1.heap.objs.size = none := I1.hok.fresh (Nat.le_refl _)
  refine ⟨.ref s1.heap.objs.size, upd H1 s1.heap.objs.size (.lst xs), I1.laid (t' := s1.toks) (fun b u e => Heap.get?_push_of_some _ e) (Nat.le_refl _) ?_, rfl, q _ hf⟩
  exact ⟨z, us, 0, r, Heap.get?_push_size _ rfl⟩
end
/-- a def's promise: the bound arguments in the parameters' order, the heap, the wanted end, the wanted exception -/
abbrev Sp := List V → Hp → VK → XK → Prop
/-- how an exception lies behind a call (file 08 gives it): the callers' frames, abstract heap and state ahead of the call, the wish, the exception, the state -/
abbrev CXT := List Env → Hp → Shared → XK → Value → Shared → Prop
/-- the state at a call -/
structure Env0 (P : Program) (w : World) (K : PySem.W.Frag) (mg : Str → Option Value) (base : Heap) (A : Around) (outer : List Env) (s : Shared) (H : Hp) : Prop where
  frames : A.frames = some outer
  mod : Mod K mg base
  bs : ∀ b o, base.get? b = some o → s.heap.get? b = some o ∧ H b = none
  bsz : base.objs.size ≤ s.heap.objs.size
  funs : s.heap.FunFrames base outer
  frf : ∀ b ∈ frs outer, H b = none
  hok : HOk P w H s.heap
  bare : AllBare s.gens
/-- a call's end -/
def CE (outer : List Env) (P : Program) (w : World) (H : Hp) (s : Shared) (Q : VK) (u : Value) (s' : Shared) : Prop :=
  ∃ v H', s'.os = s.os ∧ AllBare s'.gens ∧ Un (frs outer) [] H H' s.heap s'.heap ∧ HOk P w H' s'.heap ∧ RelV v u ∧ Q v H'
def CR (CX : CXT) (outer : List Env) (P : Program) (w : World) (H : Hp) (s : Shared) (Q : VK) (E : XK) (r : Result) (s' : Shared) : Prop :=
  match r with
  | .ok (.ret u) => CE outer P w H s Q u s'
  | .ok _ => False
  | .error e => CX outer H s E e s'
structure FnOk (P : Program) (w : World) (K : PySem.W.Frag) (mg : Str → Option Value) (base : Heap) (CX : CXT) (k : Nat) (f : Addr) (fd : FuncData) (ps : List Str) (sp : Sp) : Prop where
  len : ∀ vs H Q E, sp vs H Q E → vs.length = ps.length
  run : ∀ (A : Around) (outer : List Env) (s : Shared) (H : Hp) (args : Args) (us : List Value) (vs : List V) (Q : VK) (E : XK), Room k A → Env0 P w K mg base A outer s H → BindsTo s fd args (ps.zip us) → Vals vs us → sp vs H Q E →
    codeAny (model P w) A (.call (.ref f) args) (CR CX outer P w H s Q E) s
theorem FnOk.mono {P : Program} {w : World} {K : PySem.W.Frag} {mg : Str → Option Value} {base : Heap} {CX : CXT} {j k : Nat} {f : Addr} {fd : FuncData} {ps : List Str} {sp : Sp} (F : FnOk P w K mg base CX j f fd ps sp) (h : j ≤ k) :
    FnOk P w K mg base CX k f fd ps sp := ⟨F.len, fun A outer s H args us vs Q E hr => F.run A outer s H args us vs Q E (hr.mono h)⟩
theorem Env0.make {P : Program} {w : World} {K : PySem.W.Frag} {mg : Str → Option Value} {base : Heap} {A : Around} {outer : List Env} {s : Shared} {H : Hp} (e : Env0 P w K mg base A outer s H) (C : Addr) (us : List Value) (kw : List (Str × Value)) :
    Env0 P w K mg base (A.under (.builtin "type.__call__" ⟨.ref C :: us, kw⟩)) outer s H := ⟨by first | exact e.frames | (simpa [Around.under, Code.envs, Code.isFrame, pushEnvs] using e.frames), e.mod, e.bs, e.bsz, e.funs, e.frf, e.hok, e.bare⟩
section
variable {X : Cx} {pins : List (Addr × Obj)} {σ : St} {H : Hp} {s s' : Shared}
/-- from a body: what a callee wants -/
theorem Inv.env0 (I : Inv X pins σ H s) : Env0 X.prog X.w X.K X.mg X.base X.A X.stack s H :=
  ⟨I.ok.frames, I.ok.mod, I.bs, Nat.le_trans I.ok.bsz I.sz, I.stack, I.stkFree, I.hok, I.bare⟩
/-- behind a call -/
theorem Inv.after {Q : VK} {u : Value} (I : Inv X pins σ H s) (h : CE X.stack X.prog X.w H s Q u s') : EP X pins σ Q u s' := by
  obtain ⟨v, H', os, bare, un, hok, r, q⟩ := h
  obtain ⟨hh, g, d, t, os'⟩ := s'
  obtain rfl : os' = s.os := os
  exact ⟨v, H', I.call (h' := hh) (g' := g) (d' := d) (t' := t) (ch := []) un hok bare (fun b z => absurd z (by simp)), r, q⟩
end
/-- f(..): the written arguments, then the defaults dvs; E: what is wanted of an exception -/
def tCall (sp : Sp) (dvs : List V) (E : XK) (t : TA) : TE := fun σ H Q => t σ H fun vs H1 => sp (vs ++ dvs) H1 Q E
/-- o.m(..) of an instance of the class at C -/
def tMeth (C : Addr) (m : Str) (sp : Sp) (dvs : List V) (E : XK) (ta : TE) (t : TA) : TE := fun σ H Q => ta σ H fun x H1 => ∃ a dx fs, x = .ref a ∧ H1 a = some (.ins C dx fs) ∧ fs.lookup m = none ∧
  t σ H1 fun vs H2 => sp (x :: (vs ++ dvs)) H2 Q E
/-- C(..): a new instance and its dict, then __init__ -/
def tMake (C : Addr) (sp : Sp) (dvs : List V) (E : XK) (t : TA) : TE := fun σ H Q => t σ H fun vs H1 => ∀ x dx, H1 x = none → H1 dx = none → dx ≠ x →
  sp (.ref x :: (vs ++ dvs)) (upd (upd H1 dx (.own x)) x (.ins C dx [])) (fun v H2 => v = .non ∧ Q (.ref x) H2) E
/-- how the parameters are bound: us the positional arguments, kw the keywords' values by name, ds the defaults that fill up -/
def Binds (K : PySem.W.Frag) (fd : FuncData) (ps : List Str) (ds : List Value) : Prop :=
  ∀ (s : Shared) (us : List Value), K.In s.heap → (us ++ ds).length = ps.length → BindsTo s fd ⟨us, []⟩ (ps.zip (us ++ ds))
/-- every parameter is given -/
theorem Binds.all {K : PySem.W.Frag} {fd : FuncData} {ps : List Str} (h : ∀ us : List Value, us.length = ps.length → bindArgs fd ⟨us, []⟩ = pure (ps.zip us)) : Binds K fd ps [] := fun s us _ hl => by
  rw [List.append_nil] at hl ⊢
  exact .of_eq (h us hl)
/-- an exception of a callee reaches what this body wants of exceptions -/
def Passes (CX : CXT) (X : Cx) (E : XK) : Prop := ∀ (pins : List (Addr × Obj)) (σ : St) (H : Hp) (s : Shared) (e : Value) (s' : Shared), Inv X pins σ H s → CX X.stack H s E e s' → X.xe e s'
section
variable {X : Cx} {CX : CXT} {k : Nat} {f C : Addr} {fd : FuncData} {ps : List Str} {sp : Sp} {dvs : List V} {ds : List Value} {E : XK} {x m : Str} {p pos apos : Pos} {e o : Expr} {es : List Expr} {ta : TE} {t : TA}
/-- the callee runs -/
theorem run_fn {pins : List (Addr × Obj)} {σ : St} {H : Hp} {s : Shared} {Q : VK} {us : List Value} {vs : List V} (F : FnOk X.prog X.w X.K X.mg X.base CX k f fd ps sp) (hr : Room k X.A) (hb : Binds X.K fd ps ds) (hd : Vals dvs ds) (hx : Passes CX X E)
    (I : Inv X pins σ H s) (r : Vals vs us) (h : sp (vs ++ dvs) H Q E) : wpAny (model X.prog X.w) X.A (call (.ref f) us) (EP X pins σ Q) X.xe s := by
  have r2 : Vals (vs ++ dvs) (us ++ ds) := r.append hd
  have hl : (us ++ ds).length = ps.length := by rw [← r2.length]; exact F.len _ _ _ _ h
  refine wpAny_call (codeAny_mono (F.run X.A X.stack s H ⟨us, []⟩ (us ++ ds) (vs ++ dvs) Q E hr I.env0 (hb s us I.kIn hl) r2 h) fun r s' hq => ?_)
  cases r with
  | error e => exact hx pins σ H s e s' I hq
  | ok fl =>
    cases fl with
    | ret u => exact I.after hq
    | next => exact False.elim hq
    | brk => exact False.elim hq
    | cont => exact False.elim hq
theorem pe_call (F : FnOk X.prog X.w X.K X.mg X.base CX k f fd ps sp) (hr : Room k X.A) (hg : Gl X x) (hm : X.mg x = some (.ref f)) (hk : PySem.W.keepIn X.K (.ref f) = true) (hb : Binds X.K fd ps ds) (hd : Vals dvs ds) (hx : Passes CX X E)
    (ha : PA X (e :: es) t) (hdb : (x == ("__debug__" : Str)) = false := by decide) (he : starEach (e :: es) X.env = (false, eval e X.env) :: starEach es X.env := by rfl) (hpl : (backTo pos (starEach es X.env)).any (·.1) = false := by rfl) :
    PE X (.Call (.Name x p) (e :: es) [] pos) (tCall sp dvs E t) := by
  intro pins s σ H Q I h
  refine wpAny_Call_Name_kw (ld_glob I hg hm ?_ hdb)
  refine PySem.W.callWith_K (h₀ := X.base) I.ok.mod.kin hk (thn (ha pos pins s σ H _ I h) fun us s1 ⟨vs, H1, I1, r, q⟩ => ⟨I1.kIn, ?_⟩) he hpl
  exact run_fn F hr hb hd hx I1 r q
/-- o.m(e, ..) -/
theorem pe_meth {pl : Sem Bool} (he : PE X o ta) (c : Cls X.K C) (hm : Meth X.K C m f) (F : FnOk X.prog X.w X.K X.mg X.base CX k f fd ps sp) (hr : Room k X.A) (hb : Binds X.K fd ps ds) (hd : Vals dvs ds) (hx : Passes CX X E) (ha : PA X (e :: es) t)
    (hst : starEach (e :: es) X.env = (false, eval e X.env) :: starEach es X.env := by rfl) (hpl : (backTo pos (starEach es X.env)).any (·.1) = false := by rfl)
    (ht : eval (.Call (.Attribute o m apos) (e :: es) [] pos) X.env = (do
      let ov ← eval o X.env
      standAt apos.atName
      let (f, first) ← holding [ov] (getMethod ov m pl)
      callWith pos f first (backTo pos (starEach (e :: es) X.env)) (backToKw pos (keywordEach [] X.env))) := by rfl) :
    PE X (.Call (.Attribute o m apos) (e :: es) [] pos) (tMeth C m sp dvs E ta t) := by
  intro pins s σ H Q I h
  refine PySem.W.methodCall_KW (pl := pl) (thn (he pins s σ H _ I h) fun u s1 ⟨x, H1, I1, rx, a, dx, fs, ex, ea, l, q⟩ => ?_) ht
  subst ex
  obtain rfl : u = Value.ref a := rx
  refine getmeth_ok I1 ea c hm l ?_
  refine PySem.W.callWith_K (first := [.ref a]) (h₀ := X.base) I.ok.mod.kin hm.kp (thn (ha pos pins s1 σ H1 _ I1 q) fun us s2 ⟨vs, H2, I2, r, q2⟩ => ⟨I2.kIn, ?_⟩) hst hpl
  exact run_fn (us := .ref a :: us) (vs := .ref a :: vs) F hr hb hd hx I2 (.cons rfl r) q2
/-- o.m() -/
theorem pe_meth0 {pl : Sem Bool} (he : PE X o ta) (c : Cls X.K C) (hm : Meth X.K C m f) (F : FnOk X.prog X.w X.K X.mg X.base CX k f fd ps sp) (hr : Room k X.A) (hb : Binds X.K fd ps ds) (hd : Vals dvs ds) (hx : Passes CX X E)
    (ht : eval (.Call (.Attribute o m apos) [] [] pos) X.env = (do
      let ov ← eval o X.env
      standAt apos.atName
      let (f, first) ← holding [ov] (getMethod ov m pl)
      callWith pos f first (backTo pos (starEach [] X.env)) (backToKw pos (keywordEach [] X.env))) := by rfl) :
    PE X (.Call (.Attribute o m apos) [] [] pos) (tMeth C m sp dvs E ta tNil) := by
  intro pins s σ H Q I h
  refine PySem.W.methodCall_KW (pl := pl) (thn (he pins s σ H _ I h) fun u s1 ⟨x, H1, I1, rx, a, dx, fs, ex, ea, l, q⟩ => ?_) ht
  subst ex
  obtain rfl : u = Value.ref a := rx
  refine getmeth_ok I1 ea c hm l ?_
  exact PySem.W.callWith_K0 (first := [.ref a]) I1.kIn hm.kp (run_fn (us := [.ref a]) (vs := [.ref a]) F hr hb hd hx I1 (.cons rfl .nil) q)
/-- what a class must have to be made -/
structure Mk (K : PySem.W.Frag) (C f : Addr) : Prop where
  makes : PySem.W.makesIn K C = true
  init : PySem.W.findIn K (.ref C) "__init__" = some (some (.ref f))
  fn : PySem.W.isFn K (.ref f) = true
  kp : PySem.W.keepIn K (.ref C) = true
theorem run_make {pins : List (Addr × Obj)} {σ : St} {H : Hp} {s : Shared} {Q : VK} {us : List Value} {vs : List V} (M : Mk X.K C f) (F : FnOk X.prog X.w X.K X.mg X.base CX k f fd ps sp) (hr : Room (k + 1) X.A) (hb : Binds X.K fd ps ds) (hd : Vals dvs ds)
    (hx : Passes CX X E) (I : Inv X pins σ H s) (r : Vals vs us)
    (h : ∀ x dx, H x = none → H dx = none → dx ≠ x → sp (.ref x :: (vs ++ dvs)) (upd (upd H dx (.own x)) x (.ins C dx [])) (fun v H2 => v = .non ∧ Q (.ref x) H2) E) :
    wpAny (model X.prog X.w) X.A (call (.ref C) us) (EP X pins σ Q) X.xe s := by
  have hq := h (s.heap.objs.size + 1) s.heap.objs.size (I.hok.fresh (Nat.le_succ _)) (I.hok.fresh (Nat.le_refl _)) (Nat.ne_of_lt (Nat.lt_succ_self _))
  have I2 := Inv.made (C := C) I
  have r2 : Vals (V.ref (s.heap.objs.size + 1) :: (vs ++ dvs)) (Value.ref (s.heap.objs.size + 1) :: (us ++ ds)) := .cons rfl (r.append hd)
  have hl : (Value.ref (s.heap.objs.size + 1) :: us ++ ds).length = ps.length := by
    have e := r2.length
    rw [F.len _ _ _ _ hq] at e
    exact e.symm
  refine wpAny_call (make_map (f := f) I.kIn M.makes M.init (beq_iff_eq.mp M.fn) (codeAny_mono (F.run _ X.stack _ _ ⟨Value.ref (s.heap.objs.size + 1) :: us, []⟩ (Value.ref (s.heap.objs.size + 1) :: (us ++ ds)) _ _ E (hr.make C us [])
    (I2.env0.make C us []) (hb _ (Value.ref (s.heap.objs.size + 1) :: us) I2.kIn hl) r2 hq) fun r s' hq' => ?_))
  cases r with
  | error e => exact hx pins σ _ _ e s' I2 hq'
  | ok fl =>
    cases fl with
    | ret u =>
      obtain ⟨v, H', I3, rv, ev, q3⟩ := I2.after hq'
      subst ev
      exact ⟨rv, ⟨V.ref (s.heap.objs.size + 1), H', I3, rfl, q3⟩⟩
    | next => exact False.elim hq'
    | brk => exact False.elim hq'
    | cont => exact False.elim hq'
theorem pe_make0 (M : Mk X.K C f) (F : FnOk X.prog X.w X.K X.mg X.base CX k f fd ps sp) (hr : Room (k + 1) X.A) (hg : Gl X x) (hm : X.mg x = some (.ref C)) (hb : Binds X.K fd ps ds) (hd : Vals dvs ds) (hx : Passes CX X E)
    (hdb : (x == ("__debug__" : Str)) = false := by decide) : PE X (.Call (.Name x p) [] [] pos) (tMake C sp dvs E tNil) := by
  intro pins s σ H Q I h
  refine wpAny_Call_Name_kw (ld_glob I hg hm ?_ hdb)
  exact PySem.W.callWith_K0 I.kIn M.kp (run_make (us := []) M F hr hb hd hx I .nil h)
end
section
variable {X : Cx} {CX : CXT} {k : Nat} {f C : Addr} {fd : FuncData} {ps ks : List Str} {sp : Sp} {E : XK} {x m : Str} {p pos apos kpos : Pos} {e o : Expr} {es : List Expr} {kws : List Keyword} {te ta : TE} {t tk : TA} {nm : Option Str}
/-- how a call with keywords binds: g puts the positional values us and the keywords' values ws (names ks) in the parameters' order, defaults among them -/
structure KBinds (K : PySem.W.Frag) (fd : FuncData) (ps ks : List Str) (g : List Value → List Value → List Value) (gV : List V → List V → List V) : Prop where
  to : ∀ (s : Shared) (us ws : List Value), K.In s.heap → (g us ws).length = ps.length → BindsTo s fd ⟨us, ks.zip ws⟩ (ps.zip (g us ws))
  rel : ∀ {vs : List V} {us : List Value} {zs : List V} {ws : List Value}, Vals vs us → Vals zs ws → Vals (gV vs zs) (g us ws)
variable {g : List Value → List Value → List Value} {gV : List V → List V → List V}
end
/-- names: the parameters first -/
structure FnScope (N P : List Str) (sc : Scope) : Prop where
  kind : sc.kind = .function
  co : sc.isCoroutine = false
  gen : sc.isGenerator = false
  nd : N.Nodup
  pre : N.take P.length = P
  par : ∀ x ∈ P, sc.names.lookup x = some .local ∨ sc.names.lookup x = some .cell
  nofree : ∀ y ∈ sc.names, y.2 ≠ .free
theorem bindL_out {kindOf : Str → Option NameKind} {x : Str} : ∀ {binds : List (Str × Value)} {m : Str → Option Value}, (∀ v, (x, v) ∉ binds) → bindL kindOf binds m x = m x
  | [], _, _ => rfl
  | (n, v) :: r, m, h => by
    unfold bindL
    rw [bindL_out fun w hw => h w (List.mem_cons_of_mem _ hw)]
    split
    · have : x ≠ n := by rintro rfl; exact h v List.mem_cons_self
      simp [this]
    · rfl
theorem bindC_out {kindOf : Str → Option NameKind} {x : Str} : ∀ {binds : List (Str × Value)} {m : Str → Option Value}, (∀ v, (x, v) ∉ binds) → bindC kindOf binds m x = m x
  | [], _, _ => rfl
  | (n, v) :: r, m, h => by
    unfold bindC
    rw [bindC_out fun w hw => h w (List.mem_cons_of_mem _ hw)]
    split
    · rfl
    · have : x ≠ n := by rintro rfl; exact h v List.mem_cons_self
      simp [this]
theorem bindL_get {kindOf : Str → Option NameKind} {x : Str} {v : Value} : ∀ {P : List Str} {vs : List Value} {i : Nat} {m : Str → Option Value}, P.Nodup → P[i]? = some x → vs[i]? = some v → kindOf x = some .local →
    bindL kindOf (P.zip vs) m x = some v
  | [], _, _, _, _, h, _, _ => by simp at h
  | _ :: _, [], _, _, _, _, h, _ => by simp at h
  | p :: P, w :: vs, 0, m, nd, h1, h2, hk => by
    simp at h1 h2; subst h1; subst h2
    show bindL kindOf ((p, w) :: P.zip vs) m p = _
    unfold bindL
    rw [bindL_out fun v hv => (List.nodup_cons.mp nd).1 (List.of_mem_zip hv).1, if_pos hk]
    simp
  | p :: P, w :: vs, i + 1, m, nd, h1, h2, hk => by
    show bindL kindOf ((p, w) :: P.zip vs) m x = _
    unfold bindL
    exact bindL_get (i := i) (List.nodup_cons.mp nd).2 (by simpa using h1) (by simpa using h2) hk
theorem bindC_get {kindOf : Str → Option NameKind} {x : Str} {v : Value} : ∀ {P : List Str} {vs : List Value} {i : Nat} {m : Str → Option Value}, P.Nodup → P[i]? = some x → vs[i]? = some v → kindOf x ≠ some .local →
    bindC kindOf (P.zip vs) m x = some v
  | [], _, _, _, _, h, _, _ => by simp at h
  | _ :: _, [], _, _, _, _, h, _ => by simp at h
  | p :: P, w :: vs, 0, m, nd, h1, h2, hk => by
    simp at h1 h2; subst h1; subst h2
    show bindC kindOf ((p, w) :: P.zip vs) m p = _
    unfold bindC
    rw [bindC_out fun v hv => (List.nodup_cons.mp nd).1 (List.of_mem_zip hv).1, if_neg hk]
    simp
  | p :: P, w :: vs, i + 1, m, nd, h1, h2, hk => by
    show bindC kindOf ((p, w) :: P.zip vs) m x = _
    unfold bindC
    exact bindC_get (i := i) (List.nodup_cons.mp nd).2 (by simpa using h1) (by simpa using h2) hk
/-- the names' values at the entry -/
def start (N : List Str) (vs : List V) : St := vs.map some ++ List.replicate (N.length - vs.length) none
/-- the context of a def's body, at its entry; an exception leaves the frame, then lies as CX says -/
def cxOf (CX : CXT) (P : Program) (w : World) (K : PySem.W.Frag) (mg : Str → Option Value) (base : Heap) (N : List Str) (qual : Str) (scope : Scope) (f : Addr) (cd : Value) (A : Around) (outer : List Env) (s : Shared) (H : Hp) (E : XK) : Cx where
  prog := P
  w := w
  K := K
  mg := mg
  base := base
  A := A.deeper (envOfC qual scope s.heap.objs.size f cd)
  N := N
  s_0 := s
  H_0 := H
  env := envOfC qual scope s.heap.objs.size f cd
  outer := outer
  stack := envOfC qual scope s.heap.objs.size f cd :: outer
  ex := []
  calm := true
  fn := fun _ => true
  pn := []
  xe := fun e s' => wpAny (model P w) (A.deeper (envOfC qual scope s.heap.objs.size f cd)) (leaving (envOfC qual scope s.heap.objs.size f cd) e) (fun _ s'' => CX outer H s E e s'') (fun e' s'' => CX outer H s E e' s'') s'
theorem cell_has {sc : Scope} {n : Nat} {x : Str} (h : sc.names.lookup x = some .cell) : ∃ c, (cellsFrom n sc.names []).lookup x = some c := by
  have q := PySem.W.cellsFrom_some sc.names n [] (.inl h)
  exact Option.isSome_iff_exists.mp q
theorem inv_start {CX : CXT} {P : Program} {w : World} {K : PySem.W.Frag} {mg : Str → Option Value} {base : Heap} {N ps : List Str} {qual : Str} {scope : Scope} {f : Addr} {cd : Value} {A : Around} {outer : List Env} {s s1 : Shared} {H : Hp} {E : XK} {us : List Value} {vs : List V}
    (S : FnScope N ps scope) (hd : A.handled = none) (e0 : Env0 P w K mg base A outer s H) (hl : vs.length = ps.length) (r : Vals vs us)
    (x : InCallC s s.heap.objs.size (bindL (envOfC qual scope s.heap.objs.size f cd).kindOf (ps.zip us) fun _ => none) (cellsFrom (s.heap.objs.size + 1) scope.names []) (bindC (envOfC qual scope s.heap.objs.size f cd).kindOf (ps.zip us) fun _ => none) s1) :
    Inv (cxOf CX P w K mg base N qual scope f cd A outer s H E) [] (start N vs) H s1 := by
  have hpl : ps.length ≤ N.length := by have := congrArg List.length S.pre; rw [List.length_take] at this; omega
  obtain ⟨h1, tk, rfl, hk⟩ := x.done
  have noA : ∀ b : Addr, b ∉ (cxOf CX P w K mg base N qual scope f cd A outer s H E).ex := fun b z => absurd (show b ∈ ([] : List Addr) from z) (by simp)
  refine ⟨⟨e0.mod, S.kind, rfl, rfl, Nat.le_refl _, fun y z c h1 h2 => ?_, fun y hy => ?_, fun y c _ h => ?_, fun _ => hd, Around.frames_deeper e0.frames, .inr ⟨rfl, rfl⟩, fun b z => absurd z (noA b), e0.bs, e0.bsz, fun b _ _ => noA b, fun b z => absurd z (noA b), e0.funs, e0.frf⟩,
    rfl, e0.bare, Un.kept hk, ⟨_, x.toInCall.ns, fun i y v h1 h2 h3 => ?_⟩, fun y c h => ⟨_, x.cell y c h⟩, e0.hok.fresh (Nat.le_refl _), fun y c h => ?_, fun p hp => absurd (show p ∈ ([] : List (Addr × Obj)) from hp) (by simp), e0.hok.kept hk, ?_⟩
  · exact name_of_addr x.apart (PySem.mem_of_lookup h1) (PySem.mem_of_lookup h2)
  · have hy : scope.names.lookup y = some .cell ∨ scope.names.lookup y = some .free := hy
    rcases hy with hy | hy
    · exact cell_has hy
    · exact absurd rfl (S.nofree _ (PySem.mem_of_lookup hy))
  · exact Nat.le_of_lt (x.above y c (PySem.mem_of_lookup h))
  · have hi : i < vs.length := by
      unfold start at h2
      by_cases hi : i < vs.length
      · exact hi
      · rw [List.getElem?_append_right (by simpa using hi)] at h2
        rw [List.getElem?_replicate] at h2
        split at h2 <;> cases h2
    have ha : vs[i]? = some v := by
      unfold start at h2
      rw [List.getElem?_append_left (by simpa using hi), List.getElem?_map] at h2
      cases e : vs[i]? with
      | none => rw [e] at h2; cases h2
      | some a => rw [e] at h2; cases h2; rfl
    obtain ⟨u, hu, rv⟩ := r.get ha
    have hp : ps[i]? = some y := by
      rw [← S.pre, List.getElem?_take_of_lt (by omega)]; exact h1
    have ndP : ps.Nodup := by rw [← S.pre]; exact S.nd.sublist (List.take_sublist _ _)
    refine ⟨u, rv, ?_⟩
    rcases S.par y (List.mem_of_getElem? hp) with k | k
    · exact .inl ⟨k, bindL_get ndP hp hu k⟩
    · obtain ⟨c, e⟩ := cell_has (n := s.heap.objs.size + 1) k
      refine .inr ⟨.inl k, c, e, ?_⟩
      have q := x.cell y c e
      rw [bindC_get ndP hp hu (by show scope.names.lookup y ≠ _; rw [k]; decide)] at q
      exact q
  · exact e0.hok.fresh (Nat.le_of_lt (x.above y c (PySem.mem_of_lookup h)))
  · unfold start
    show _ = N.length
    rw [List.length_append, List.length_map, List.length_replicate]
    omega
/-- THE RULE: a def (or a method) of the text, by its body. The body's reading t is chosen for each entry; it is run at the parameters' values -/
theorem fn_of {CX : CXT} {P : Program} {w : World} {K : PySem.W.Frag} {mg : Str → Option Value} {base : Heap} {k : Nat} {f : Addr} {name qual : Str} {params : Arguments} {body : List Stmt} {scope : Scope} {dV kV doc pm cdv ct oc : Value} {an od : Option Addr}
    {osl : Array (Option Value)} {N ps : List Str} {sp : Sp} (lk : K.lookup f = some ⟨oc, od, .func (PySem.W.fnOf name qual params body scope dV kV doc pm an cdv ct), osl⟩) (hcd : PySem.W.codeIn K cdv qual = true) (S : FnScope N ps scope)
    (len : ∀ vs H Q E, sp vs H Q E → vs.length = ps.length)
    (hbody : ∀ (A : Around) (outer : List Env) (s : Shared) (H : Hp) (vs : List V) (Q : VK) (E : XK), Room k (A.deeper (envOfC qual scope s.heap.objs.size f cdv)) → sp vs H Q E →
      ∃ t, PSs (cxOf CX P w K mg base N qual scope f cdv A outer s H E) body t ∧ t { nx := fun _ H' => Q .non H', rt := Q } (start N vs) H) :
    FnOk P w K mg base CX (k + 1) f (PySem.W.fnOf name qual params body scope dV kV doc pm an cdv ct) ps sp := by
  refine ⟨len, fun A outer s H args us vs Q E hr e0 hb r hsp => ?_⟩
  have hl := len _ _ _ _ hsp
  have KX : K.In s.heap := e0.mod.kin.keeps fun b o e => (e0.bs b o e).1
  have lim : s.heap.NoLimit := e0.mod.nolimit.keeps fun b o e => (e0.bs b o e).1
  have hkind : ∀ y ∈ ps.zip us, scope.names.lookup y.1 = some .local ∨ (scope.names.lookup y.1 = some .cell ∧ ((cellsFrom (s.heap.objs.size + 1) scope.names []).lookup y.1).isSome = true) := fun ⟨n, v⟩ hy => by
    rcases S.par n (List.of_mem_zip hy).1 with q | q
    · exact .inl q
    · exact .inr ⟨q, PySem.W.cellsFrom_some _ _ _ (.inl q)⟩
  refine codeAny_call_function hr.depth (KX _ _ lk) rfl S.co S.gen rfl (PySem.W.codeRec_of KX hcd) (hb _ _ _ _ ?_)
  refine wpAny_newFunctionEnv_cells S.kind hkind fun env he s1 x => ?_
  subst he
  refine ⟨lim.keeps x.toInCall.keep, codeAny_func ?_⟩
  obtain ⟨t, ht, hq⟩ := hbody A outer s H vs Q E (hr.deeper _) hsp
  have I : Inv (cxOf CX P w K mg base N qual scope f cdv A outer s H E) [] (start N vs) H s1 := inv_start S hr.hd e0 hl r x
  refine wpAny_mono (ht [] s1 (start N vs) H _ I hq) (fun fl s' hs => ?_) fun e s' hs => hs
  have fin : ∀ {σ' : St} {H' : Hp} {v : V} {u : Value}, Inv (cxOf CX P w K mg base N qual scope f cdv A outer s H E) [] σ' H' s' → RelV v u → Q v H' → CE outer P w H s Q u s' :=
    fun {σ' H' v u} J rv q => ⟨v, H', J.os, J.bare, J.base, J.hok, rv, q⟩
  cases fl with
  | ret u =>
    obtain ⟨v, σ', H', J, rv, q⟩ := hs
    exact fin J rv q
  | next =>
    obtain ⟨σ', H', J, q⟩ := hs
    exact fin (v := V.non) (u := Value.none) J rfl q
  | brk =>
    obtain ⟨_, _, _, q⟩ := hs
    exact False.elim q
  | cont =>
    obtain ⟨_, _, _, q⟩ := hs
    exact False.elim q
end L2
namespace L2
open PySem PySem.Spec PyProof.Rows
section
variable {X : Cx} {x : Str} {p pos : Pos} {e : Expr} {es : List Expr} {t : TA} {id T : String} {r : List V → Hp → VK → Prop}
def tCB (r : List V → Hp → VK → Prop) (t : TA) : TE := fun σ H Q => t σ H fun vs H1 => r vs H1 Q
/-- f(e, ..), f a built-in function -/
theorem pe_callB (hc : CallR X (.builtin id) r) (hg : Gl X x) (hm : X.mg x = none) (hv : bootBuiltins x = some (.builtin id)) (ha : PA X (e :: es) t) (hn : x ≠ "__name__" := by decide) (hdb : (x == ("__debug__" : Str)) = false := by decide)
    (he : starEach (e :: es) X.env = (false, eval e X.env) :: starEach es X.env := by rfl) (hpl : (backTo pos (starEach es X.env)).any (·.1) = false := by rfl) : PE X (.Call (.Name x p) (e :: es) [] pos) (tCB r t) := by
  intro pins s σ H Q I h
  refine wpAny_Call_Name_kw (ld_blt I hg hm hv ?_ hn hdb)
  exact PyProof.Rows.callWith_builtin1 (thn (ha pos pins s σ H _ I h) fun us s1 ⟨vs, H1, I1, r1, q1⟩ => hc pins s1 σ H1 vs us Q I1 r1 q1) he hpl
/-- T(e, ..), T a built-in type -/
theorem pe_callTy (hc : CallR X (.type T) r) (hg : Gl X x) (hm : X.mg x = none) (hv : bootBuiltins x = some (.type T)) (ha : PA X (e :: es) t) (hn : x ≠ "__name__" := by decide) (hdb : (x == ("__debug__" : Str)) = false := by decide)
    (he : starEach (e :: es) X.env = (false, eval e X.env) :: starEach es X.env := by rfl) (hpl : (backTo pos (starEach es X.env)).any (·.1) = false := by rfl) : PE X (.Call (.Name x p) (e :: es) [] pos) (tCB r t) := by
  intro pins s σ H Q I h
  refine wpAny_Call_Name_kw (ld_blt I hg hm hv ?_ hn hdb)
  exact PyProof.Rows.callWith_type1 (thn (ha pos pins s σ H _ I h) fun us s1 ⟨vs, H1, I1, r1, q1⟩ => hc pins s1 σ H1 vs us Q I1 r1 q1) he hpl
end
end L2
namespace HT
open PySem PyProof.Rows
section
open PySem.SeqAt
open PySem.AutoSeq1 (wpAny_loadPart')
open PySem.MeetsSeq PySem.MeetsSeq2 PySem.MeetsSeq3
end
section
variable {prog : Program} {w : World} {A : Around} {E : Value → Shared → Prop} {s : Shared}
/-- t + u, t not empty -/
theorem cat_tup {t b : Addr} {vs ws : List Value} {Q : Value → Shared → Prop} (ht : IsTup s.heap t vs.toArray) (hb : IsTup s.heap b ws.toArray) (hv : vs ≠ [])
    (h1 : ws = [] → Q (.ref t) s) (h2 : ws ≠ [] → Q (.ref s.heap.objs.size) { s with heap := s.heap.push { cls := .type "tuple", data := .seq (vs ++ ws).toArray } })
    (hsz : vs.length + ws.length ≤ sizeLine) : wpAny (model prog w) A (binaryOp .Add (.ref t) (.ref b)) Q E s := by
  obtain ⟨⟨cls, dd, data, sl⟩, ho, hc, n, hd⟩ := id ht
  obtain ⟨⟨cls2, dd2, data2, sl2⟩, ho2, hc2, n2, hd2⟩ := id hb
  simp only at hc hd hc2 hd2
  subst hc hd hc2 hd2
  have e : vs.toArray ++ ws.toArray = (vs ++ ws).toArray := by simp
  by_cases hw : ws = []
  · exact concat_meets ⟨_, ho, rfl⟩ ⟨_, ho2, rfl⟩ noFill_tuple_add seq_tuple_add PySem.F.slot_tuple_add PySem.F.entry_tuple_add (PySem.F.args_tuple_add_2 _ _)
      (tuple_addW1 t b vs.toArray ws.toArray n n2 dd dd2 sl sl2 (by simpa using hv) (by simp [hw])) ⟨ho, ho2, h1 hw⟩
  · refine concat_meets ⟨_, ho, rfl⟩ ⟨_, ho2, rfl⟩ noFill_tuple_add seq_tuple_add PySem.F.slot_tuple_add PySem.F.entry_tuple_add (PySem.F.args_tuple_add_2 _ _)
      (tuple_addW2 t b vs.toArray ws.toArray n n2 dd dd2 sl sl2 (by simpa using hv) (by simpa using hw) (by rw [List.size_toArray, List.size_toArray]; exact hsz)) ⟨ho, ho2, ?_⟩
    rw [e]
    exact h2 hw
/-- a slice's bound as a place among n (d where it is left out) -/
def sIx (n d : Nat) : Option Int → Nat
  | none => d
  | some v => if v < 0 then (v + (n : Int)).toNat else min v.toNat n
theorem sIx_none (n d : Nat) : sIx n d none = d := rfl
theorem sIx_nat (n d k : Nat) : sIx n d (some (k : Int)) = min k n := by
  show (if (k : Int) < 0 then ((k : Int) + (n : Int)).toNat else min (k : Int).toNat n) = min k n
  rw [if_neg (by omega), Int.toNat_natCast]
end
end HT
namespace L2
open PySem PySem.Spec PyProof.Rows
abbrev TO := St → Hp → (Option Int → Hp → Prop) → Prop
/-- a slice's part (left out, or an int) -/
def PO (X : Cx) (e : Option Expr) (t : TO) : Prop :=
  ∀ (pins : List (Addr × Obj)) (s : Shared) (σ : St) (H : Hp) (Q : Option Int → Hp → Prop), Inv X pins σ H s → t σ H Q →
    wpAny (model X.prog X.w) X.A (evalPart e X.env) (fun u s' => ∃ o H', Inv X pins σ H' s' ∧ IsPart u o ∧ Q o H') X.xe s
def tNoPart : TO := fun _ H Q => Q none H
def tPart (t : TE) : TO := fun σ H Q => t σ H fun x H1 => ∃ i, x = .int i ∧ Q (some i) H1
section
variable {X : Cx} {e : Expr} {te : TE} {lo hi : Option Expr} {tl th : TO} {pos p2 : Pos}
theorem po_none : PO X none tNoPart := by
  intro pins s σ H Q I h
  rw [evalPart_none]
  exact wpAny_pure ⟨none, H, I, .none, h⟩
theorem po_some (h : PE X e te) : PO X (some e) (tPart te) := by
  intro pins s σ H Q I hw
  rw [evalPart_some]
  refine thn (h pins s σ H _ I hw) fun u s1 ⟨x, H1, I1, r1, q1⟩ => ?_
  obtain ⟨i, rfl, q⟩ := q1
  obtain ⟨t, rfl⟩ := r1
  exact ⟨some i, H1, I1, .int i t, q⟩
/-- what a slice of a value is, by values: the slice object stands at sl -/
def SlR (X : Cx) (r : V → Option Int → Option Int → Hp → VK → Prop) : Prop :=
  ∀ (pins : List (Addr × Obj)) (s : Shared) (σ : St) (H : Hp) (x : V) (v vl vu : Value) (lo hi : Option Int) (sl : Addr) (Q : VK), Inv X pins σ H s → RelV x v → s.heap.IsSliceOf sl vl vu .none → IsPart vl lo → IsPart vu hi → r x lo hi H Q →
    ∃ T id, typeLookup (.type T) "__getitem__" = pure (some (.builtin id)) ∧ s.TypeIs v T ∧ wpAny (model X.prog X.w) X.A (getItem v (.ref sl)) (EP X pins σ Q) X.xe s
def tSl (r : V → Option Int → Option Int → Hp → VK → Prop) (te : TE) (tl th : TO) : TE := fun σ H Q => te σ H fun x H1 => tl σ H1 fun l H2 => th σ H2 fun u H3 => r x l u H3 Q
/-- a[lo:hi], any a -/
theorem pe_slice {r : V → Option Int → Option Int → Hp → VK → Prop} (hr : SlR X r) (he : PE X e te) (hl : PO X lo tl) (hu : PO X hi th) : PE X (.Subscript e (.Slice lo hi none p2) pos) (tSl r te tl th) := by
  intro pins s σ H Q I h
  refine Subscript_ (thn (he pins s σ H _ I h) fun v s1 ⟨x, H1, I1, r1, q1⟩ => ?_)
  refine wpAny_Slice (thn (hl pins s1 σ H1 _ I1 q1) fun vl s2 ⟨l, H2, I2, pl, q2⟩ => thn (hu pins s2 σ H2 _ I2 q2) fun vu s3 ⟨u, H3, I3, pu, q3⟩ => ?_)
  rw [evalPart_none]
  refine wpAny_pure ?_
  have I4 : Inv X pins σ H3 { s3 with heap := s3.heap.push { cls := .type "slice", data := .fields #[vl, vu, .none] } } := I3.kept (t' := s3.toks) fun b ob q => Heap.get?_push_of_some _ q
  obtain ⟨T, id, hT, ht, hg⟩ := hr pins { s3 with heap := s3.heap.push { cls := .type "slice", data := .fields #[vl, vu, .none] } } σ H3 x v vl vu l u s3.heap.objs.size Q I4 r1 (Heap.IsSliceOf.new ..) pl pu q3
  show wpAny (model X.prog X.w) X.A (subscriptTail e (.Slice lo hi none p2) v (.ref s3.heap.objs.size)) (EP X pins σ Q) X.xe { s3 with heap := s3.heap.push { cls := .type "slice", data := .fields #[vl, vu, .none] } }
  exact tail_any (ops := [.ref s3.heap.objs.size, v]) ht hT hg (by with_unfolding_all rfl)
/-- the items of xs[lo:hi] -/
def cutV (xs : List V) (lo hi : Option Int) : List V := (xs.drop (HT.sIx xs.length 0 lo)).take (HT.sIx xs.length xs.length hi - HT.sIx xs.length 0 lo)
theorem cutV_length (xs : List V) (lo hi : Option Int) : (cutV xs lo hi).length ≤ xs.length := by
  unfold cutV
  rw [List.length_take, List.length_drop]
  omega
/-- t + u, t not empty: u empty gives t itself -/
def rCatT (K : PySem.W.Frag) : R2 := fun x y H Q => ∃ a b xs ys, x = .ref a ∧ y = .ref b ∧ SqT K H a xs ∧ SqT K H b ys ∧ xs ≠ [] ∧ xs.length + ys.length ≤ sizeLine ∧
  (ys = [] → Q (.ref a) H) ∧ (ys ≠ [] → ∀ p, H p = none → Q (.ref p) (upd H p (.tup (xs ++ ys))))
theorem Vals.nil_iff {xs : List V} {us : List Value} (r : Vals xs us) : us = [] ↔ xs = [] := by
  cases r with
  | nil => simp
  | cons _ _ => simp
theorem op_catT : OpR X (binaryOp .Add) (rCatT X.K) := by
  intro pins s σ H x y v u Q I rx ry h
  obtain ⟨a, b, xs, ys, rfl, rfl, ha, hb, hx, hz, q1, q2⟩ := h
  cases rx
  cases ry
  obtain ⟨its, r1, p1, _⟩ := I.tuple ha
  obtain ⟨its2, r2, p2, _⟩ := I.tuple hb
  refine HT.cat_tup p1 p2 (fun z => hx (r1.nil_iff.mp z)) (fun z => ⟨.ref a, H, I, rfl, q1 (r2.nil_iff.mp z)⟩) (fun z => ?_) (by rw [← r1.length, ← r2.length]; exact hz)
  refine ⟨.ref s.heap.objs.size, _, I.laid (t' := s.toks) (o := .tup (xs ++ ys)) (fun b ob q => Heap.get?_push_of_some _ q) (Nat.le_refl _) ?_, rfl, q2 (fun w => z (r2.nil_iff.mpr w)) _ (I.hok.fresh (Nat.le_refl _))⟩
  exact ⟨by rw [List.length_append]; exact hz, _, r1.append r2, TupX.new _ _⟩
end
end L2
namespace L2
open PySem PySem.Spec PyProof.Rows
/-- the place that an index of any sign means -/
def ixN (n : Nat) (i : Int) : Option Nat := if 0 ≤ i then (if i < n then some i.toNat else none) else if -(n : Int) ≤ i then some (i + n).toNat else none
def atI {α : Type} (xs : List α) (i : Int) : Option α := (ixN xs.length i).bind fun j => xs[j]?
theorem ixN_seq {n : Nat} {i : Int} {j : Nat} (h : ixN n i = some j) : seqIndex? i n = some j ∧ j < n ∧ -(n : Int) ≤ i ∧ i < n := by
  unfold ixN at h
  by_cases h0 : 0 ≤ i
  · rw [if_pos h0] at h
    by_cases h1 : i < n
    · rw [if_pos h1] at h
      have e : i.toNat = j := Option.some.inj h
      exact ⟨by rw [seqIndex_of h0 h1, e], by omega, by omega, h1⟩
    · rw [if_neg h1] at h; cases h
  · rw [if_neg h0] at h
    by_cases h1 : -(n : Int) ≤ i
    · rw [if_pos h1] at h
      have e : (i + n).toNat = j := Option.some.inj h
      exact ⟨by rw [seqIndex_neg (by omega) h1, e], by omega, h1, by omega⟩
    · rw [if_neg h1] at h; cases h
theorem atI_get {α : Type} {xs : List α} {i : Int} {v : α} (h : atI xs i = some v) : ∃ j, seqIndex? i xs.length = some j ∧ xs[j]? = some v ∧ j < xs.length ∧ -(xs.length : Int) ≤ i ∧ i < xs.length := by
  unfold atI at h
  cases e : ixN xs.length i with
  | none => rw [e] at h; cases h
  | some j =>
    rw [e] at h
    obtain ⟨h1, h2, h3, h4⟩ := ixN_seq e
    exact ⟨j, h1, h, h2, h3, h4⟩
theorem atI_nat {α : Type} {xs : List α} {j : Nat} {v : α} (h : xs[j]? = some v) : atI xs (j : Int) = some v := by
  have hj : j < xs.length := (List.getElem?_eq_some_iff.mp h).1
  have e : ixN xs.length (j : Int) = some j := by
    unfold ixN
    rw [if_pos (by omega), if_pos (by omega)]; simp
  unfold atI; rw [e]; exact h
/-- what stands as an index of a plain subscript -/
def PlainIx (b : Expr) : Prop := ∀ o i, subscripted b false o i = operate [o, i] (getItem o i)
/-- a subscript by values -/
def IxR (X : Cx) (r : R2) : Prop :=
  ∀ (value slice : Expr) (pins : List (Addr × Obj)) (s : Shared) (σ : St) (H : Hp) (x y : V) (v u : Value) (Q : VK), Inv X pins σ H s → RelV x v → RelV y u → r x y H Q →
    subscripted slice false v u = operate [v, u] (getItem v u) → wpAny (model X.prog X.w) X.A (subscriptTail value slice v u) (EP X pins σ Q) X.xe s
/-- a call of a builtin's method by values: the receiver, the arguments -/
def MtR (X : Cx) (id : String) (r : V → List V → Hp → VK → Prop) : Prop :=
  ∀ (pins : List (Addr × Obj)) (s : Shared) (σ : St) (H : Hp) (x : V) (xs : List V) (v : Value) (us : List Value) (Q : VK), Inv X pins σ H s → RelV x v → Vals xs us → r x xs H Q →
    wpAny (model X.prog X.w) X.A (call (.builtin id) (v :: us)) (EP X pins σ Q) X.xe s
section
variable {X : Cx} {a b : Expr} {ta tb : TE} {pos : Pos}
/-- a[b] -/
theorem pe_ix {r : R2} (hr : IxR X r) (ha : PE X a ta) (hb : PE X b tb) (hs : PlainIx b) : PE X (.Subscript a b pos) (tOp r ta tb) := by
  intro pins s σ H Q I h
  exact Subscript_ (binT ha hb I h fun v u s2 x y H2 I2 rx ry q => hr a b pins s2 σ H2 x y v u Q I2 rx ry q (hs _ _))
def rIxL (K : PySem.W.Frag) : R2 := fun x y H Q => ∃ p xs i v, x = .ref p ∧ y = .int i ∧ SqL K H p xs ∧ atI xs i = some v ∧ Q v H
def rIxT (K : PySem.W.Frag) : R2 := fun x y H Q => ∃ p xs i v, x = .ref p ∧ y = .int i ∧ SqT K H p xs ∧ atI xs i = some v ∧ Q v H
theorem ix_list : IxR X (rIxL X.K) := by
  intro value slice pins s σ H x y v u Q I rx ry h hs
  obtain ⟨p, xs, i, z, rfl, rfl, hq, he, q⟩ := h
  cases rx
  obtain ⟨t, rfl⟩ := ry
  obtain ⟨its, r, pl, hz⟩ := I.list hq
  obtain ⟨j, h1, h2, h3, h4, h5⟩ := atI_get he
  obtain ⟨w, ew, rw'⟩ := r.get h2
  have hl := r.length
  have hn := line63
  have fin : EP X pins σ Q w s := ⟨z, H, I, rw', q⟩
  by_cases h0 : 0 ≤ i
  · have hj : i.toNat = j := by
      rw [seqIndex_of h0 h5] at h1
      exact Option.some.inj h1
    exact item_listR pl.isList h0 (by omega) (by rw [hj]; simpa using ew) fin hs
  · have hj : (i + (its.toArray.size : Int)).toNat = j := by
      rw [seqIndex_neg (by omega) h4] at h1
      rw [List.size_toArray, ← hl]
      exact Option.some.inj h1
    exact subscriptTail_builtinR (x := w) pl.isList.typeIs slot_list_getitem.lookup
      (wpAny_getItem_list_neg (Q := fun r s' => r = w ∧ EP X pins σ Q r s') pl.isList (by omega) (by rw [List.size_toArray] <;> omega) (by omega) (by rw [hj]; simpa using ew) ⟨rfl, fin⟩) hs
theorem ix_tup : IxR X (rIxT X.K) := by
  intro value slice pins s σ H x y v u Q I rx ry h hs
  obtain ⟨p, xs, i, z, rfl, rfl, hq, he, q⟩ := h
  cases rx
  obtain ⟨t, rfl⟩ := ry
  obtain ⟨its, r, pl, hz⟩ := I.tuple hq
  obtain ⟨j, h1, h2, h3, h4, h5⟩ := atI_get he
  obtain ⟨w, ew, rw'⟩ := r.get h2
  have hl := r.length
  have hn := line63
  have fin : EP X pins σ Q w s := ⟨z, H, I, rw', q⟩
  exact subscriptTail_builtinR (x := w) pl.typeIs slot_tuple_getitem.lookup
    (getItem_tuple (j := j) (Q := fun r s' => r = w ∧ EP X pins σ Q r s') pl (by omega) (by omega) (by rw [List.size_toArray, ← hl]; exact h1) (by simpa using ew) ⟨rfl, fin⟩) hs
theorem slice_bounds (lo hi : Option Int) (n : Nat) : (sliceBounds lo hi none n).1 = ((HT.sIx n 0 lo : Nat) : Int) ∧ (sliceBounds lo hi none n).2.1 = ((HT.sIx n n hi : Nat) : Int) ∧ (sliceBounds lo hi none n).2.2 = 1 := by
  refine ⟨?_, ?_, rfl⟩
  · cases lo with
    | none => simp [sliceBounds, HT.sIx]
    | some i =>
      simp only [sliceBounds, HT.sIx, Option.getD_none, show (1 : Int) > 0 by decide, if_true]
      by_cases h : i < 0
      · simp only [h, if_true] <;> omega
      · simp only [h, if_false] <;> omega
  · cases hi with
    | none => simp [sliceBounds, HT.sIx]
    | some i =>
      simp only [sliceBounds, HT.sIx, Option.getD_none, show (1 : Int) > 0 by decide, if_true]
      by_cases h : i < 0
      · simp only [h, if_true] <;> omega
      · simp only [h, if_false] <;> omega
theorem slicePick_cut (its : List Value) (lo hi : Option Int) : slicePick its.toArray lo hi none = ((its.drop (HT.sIx its.length 0 lo)).take (HT.sIx its.length its.length hi - HT.sIx its.length 0 lo)).toArray := by
  obtain ⟨h1, h2, h3⟩ := slice_bounds lo hi its.toArray.size
  unfold slicePick
  rw [h1, h2, h3]
  simp only [sliceRange_one, pick_run, List.size_toArray] <;> rfl
/-- xs[lo:hi] of a list: a new list -/
def rSlL (K : PySem.W.Frag) : V → Option Int → Option Int → Hp → VK → Prop := fun x lo hi H Q => ∃ a xs, x = .ref a ∧ SqL K H a xs ∧ ∀ p, H p = none → Q (.ref p) (upd H p (.lst (cutV xs lo hi)))
theorem sl_list : SlR X (rSlL X.K) := by
  intro pins s σ H x v vl vu lo hi sl Q I rx hs pl pu h
  obtain ⟨a, xs, rfl, hx, q⟩ := h
  cases rx
  obtain ⟨its, r, ht, hz⟩ := I.list hx
  have hlen := r.length
  refine ⟨"list", _, slot_list_getitem.lookup, ht.isList.typeIs, ?_⟩
  refine wpAny_getItem_list_slice ht.isList hs pl pu .none (by simp) ?_ (by rw [List.size_toArray] <;> omega)
  rw [slicePick_cut, ← hlen]
  refine ⟨.ref s.heap.objs.size, _, I.laid (t' := s.toks) (o := .lst (cutV xs lo hi)) (fun b ob q => Heap.get?_push_of_some _ q) (Nat.le_refl _) ?_, rfl, q _ (I.hok.fresh (Nat.le_refl _))⟩
  exact ⟨Nat.le_trans (cutV_length xs lo hi) hz, _, 0, (r.drop (HT.sIx xs.length 0 lo)).take (HT.sIx xs.length xs.length hi - HT.sIx xs.length 0 lo), Heap.get?_push_size _ rfl⟩
def flatV : V → Bool
  | .non => true
  | .bl _ => true
  | .int _ => true
  | .str _ => true
  | _ => false
/-- == of flat values -/
def eqV : V → V → Bool
  | .non, .non => true
  | .bl a, .bl b => a == b
  | .bl a, .int b => (if a then 1 else 0) == b
  | .int a, .bl b => a == (if b then 1 else 0)
  | .int a, .int b => a == b
  | .str a, .str b => a == b
  | _, _ => false
theorem eqAt_V {A : Around} {s : Shared} {y x : V} {u v : Value} (ry : RelV y u) (rx : RelV x v) (fy : flatV y = true) (fx : flatV x = true) : SeqAt.EqAt A s u v (eqV y x) := by
  cases y with
  | non =>
    cases ry
    cases x with
    | non => cases rx; exact SeqAt.EqAt.same _
    | bl b => cases rx; exact SeqAt.EqAt.none_bool b
    | int b => obtain ⟨t, rfl⟩ := rx; exact SeqAt.EqAt.none_int b t
    | str b => obtain ⟨t, rfl⟩ := rx; exact SeqAt.EqAt.none_str b t
    | _ => exact absurd (show false = true from fx) Bool.false_ne_true
  | bl a =>
    cases ry
    cases x with
    | non => cases rx; exact SeqAt.EqAt.bool_none a
    | bl b => cases rx; exact SeqAt.EqAt.bool_bool a b
    | int b => obtain ⟨t, rfl⟩ := rx; exact SeqAt.EqAt.bool_int a b t
    | str b => obtain ⟨t, rfl⟩ := rx; exact SeqAt.EqAt.bool_str a b t
    | _ => exact absurd (show false = true from fx) Bool.false_ne_true
  | int a =>
    obtain ⟨t', rfl⟩ := ry
    cases x with
    | non => cases rx; exact SeqAt.EqAt.int_none a t'
    | bl b => cases rx; exact SeqAt.EqAt.int_bool a t' b
    | int b => obtain ⟨t, rfl⟩ := rx; exact SeqAt.EqAt.int_int a t' b t
    | str b => obtain ⟨t, rfl⟩ := rx; exact SeqAt.EqAt.int_str a t' b t
    | _ => exact absurd (show false = true from fx) Bool.false_ne_true
  | str a =>
    obtain ⟨t', rfl⟩ := ry
    cases x with
    | non => cases rx; exact SeqAt.EqAt.str_none a t'
    | bl b => cases rx; exact SeqAt.EqAt.str_bool a t' b
    | int b => obtain ⟨t, rfl⟩ := rx; exact SeqAt.EqAt.str_int a t' b t
    | str b => obtain ⟨t, rfl⟩ := rx; exact SeqAt.EqAt.str_str a t' b t
    | _ => exact absurd (show false = true from fx) Bool.false_ne_true
  | _ => exact absurd (show false = true from fy) Bool.false_ne_true
/-- the items' answers, read off the values (a value's own answer does not lean on its token) -/
def eqU (x : V) (u : Value) : Bool := match u with
  | .none => eqV .non x
  | .bool b => eqV (.bl b) x
  | .int i _ => eqV (.int i) x
  | .str z _ => eqV (.str z) x
  | _ => false
theorem eqU_of {x y : V} {u : Value} (r : RelV y u) (f : flatV y = true) : eqU x u = eqV y x := by
  cases y with
  | non => cases r; rfl
  | bl b => cases r; rfl
  | int i => obtain ⟨t, rfl⟩ := r; rfl
  | str z => obtain ⟨t, rfl⟩ := r; rfl
  | _ => exact absurd (show false = true from f) Bool.false_ne_true
theorem any_eqU {x : V} : ∀ {xs : List V} {us : List Value}, Vals xs us → xs.all flatV = true → us.any (eqU x) = xs.any fun y => eqV y x
  | _, _, .nil, _ => rfl
  | y :: xs, u :: us, .cons r t, f => by
    rw [List.all_cons, Bool.and_eq_true] at f
    rw [List.any_cons, List.any_cons, eqU_of r f.1, any_eqU t f.2]
theorem mem_eqAt {A : Around} {s : Shared} {x : V} {v : Value} (rx : RelV x v) (fx : flatV x = true) : ∀ {xs : List V} {us : List Value}, Vals xs us → xs.all flatV = true → ∀ u ∈ us, SeqAt.EqAt A s u v (eqU x u)
  | _, _, .nil, _ => fun u hu => by cases hu
  | y :: xs, u :: us, .cons r t, f => fun u' hu => by
    rw [List.all_cons, Bool.and_eq_true] at f
    rcases List.mem_cons.mp hu with rfl | hu
    · rw [eqU_of r f.1]; exact eqAt_V r rx f.1 fx
    · exact mem_eqAt rx fx t f.2 u' hu
def inV (x : V) (xs : List V) : Bool := xs.any fun y => eqV y x
/-- x in a list or tuple of flat items -/
def rIn (K : PySem.W.Frag) (neg : Bool) : R2 := fun x y H Q => ∃ p xs, y = .ref p ∧ (SqL K H p xs ∨ SqT K H p xs) ∧ flatV x = true ∧ xs.all flatV = true ∧ Q (.bl (if neg then !inV x xs else inV x xs)) H
theorem op_in_seq : OpR X (compareOp .In) (rIn X.K false) := by
  intro pins s σ H x y v u Q I rx ry h
  obtain ⟨p, xs, rfl, hq, fx, fs, q⟩ := h
  cases ry
  rcases hq with hq | hq
  · obtain ⟨its, r, pl, hz⟩ := I.list hq
    refine SeqAt.in_listAt (eqU x) pl.isList (fun w hw => mem_eqAt rx fx r fs w (by simpa using hw)) ⟨.bl _, H, I, rfl, ?_⟩
    rw [show its.toArray.any (eqU x) = its.any (eqU x) by simp, any_eqU r fs]
    exact q
  · obtain ⟨its, r, pl, hz⟩ := I.tuple hq
    refine SeqAt.in_tupleAt (eqU x) pl (fun w hw => mem_eqAt rx fx r fs w (by simpa using hw)) ⟨.bl _, H, I, rfl, ?_⟩
    rw [show its.toArray.any (eqU x) = its.any (eqU x) by simp, any_eqU r fs]
    exact q
theorem op_notIn_seq : OpR X (compareOp .NotIn) (rIn X.K true) := by
  intro pins s σ H x y v u Q I rx ry h
  obtain ⟨p, xs, rfl, hq, fx, fs, q⟩ := h
  cases ry
  rcases hq with hq | hq
  · obtain ⟨its, r, pl, hz⟩ := I.list hq
    refine SeqAt.notIn_listAt (eqU x) pl.isList (fun w hw => mem_eqAt rx fx r fs w (by simpa using hw)) ⟨.bl _, H, I, rfl, ?_⟩
    rw [show its.toArray.any (eqU x) = its.any (eqU x) by simp, any_eqU r fs]
    exact q
  · obtain ⟨its, r, pl, hz⟩ := I.tuple hq
    refine SeqAt.notIn_tupleAt (eqU x) pl (fun w hw => mem_eqAt rx fx r fs w (by simpa using hw)) ⟨.bl _, H, I, rfl, ?_⟩
    rw [show its.toArray.any (eqU x) = its.any (eqU x) by simp, any_eqU r fs]
    exact q
theorem call_len_seq : CallR X (.builtin "len") (fun xs H Q => ∃ p ys, xs = [.ref p] ∧ (SqL X.K H p ys ∨ SqT X.K H p ys) ∧ Q (.int ys.length) H) := by
  intro pins s σ H xs us Q I r h
  obtain ⟨p, ys, rfl, hq, q⟩ := h
  obtain ⟨u, rfl, rx⟩ := vals1 r
  cases rx
  have hn := line63
  rcases hq with hq | hq
  · obtain ⟨its, r', pl, hz⟩ := I.list hq
    have hlen := r'.length
    exact Calls.call_len_list pl.isList (by simp only [List.size_toArray] <;> omega) ⟨.int ys.length, H, I.tok _, ⟨s.toks + 1, by rw [List.size_toArray, hlen]⟩, q⟩
  · obtain ⟨its, r', pl, hz⟩ := I.tuple hq
    have hlen := r'.length
    exact len_tuple pl (by simp only [List.size_toArray] <;> omega) ⟨.int ys.length, H, I.tok _, ⟨s.toks + 1, by rw [List.size_toArray, hlen]⟩, q⟩
theorem call_list_of : CallR X (.type "list") (fun xs H Q => ∃ p ys, xs = [.ref p] ∧ (SqL X.K H p ys ∨ SqT X.K H p ys) ∧ ∀ l, H l = none → Q (.ref l) (upd H l (.lst ys))) := by
  intro pins s σ H xs us Q I r h
  obtain ⟨p, ys, rfl, hq, q⟩ := h
  obtain ⟨u, rfl, rx⟩ := vals1 r
  cases rx
  have fin : ∀ (its : List Value), Vals ys its → ys.length ≤ sizeLine → ∀ (h' : Heap) (c' : Nat), (∀ b o', s.heap.get? b = some o' → h'.get? b = some o') →
      h'.get? s.heap.objs.size = some { cls := .type "list", dict := none, data := .seq its.toArray c', slots := #[] } → EP X pins σ Q (.ref s.heap.objs.size) { s with heap := h' } := fun its r' hz h' c' kp e =>
    ⟨.ref s.heap.objs.size, _, I.laid (t' := s.toks) kp (Nat.le_refl _) (show ObjOk X.prog X.w _ h' _ (.lst ys) from ⟨hz, its, c', r', e⟩), rfl, q _ (I.hok.fresh (Nat.le_refl _))⟩
  rcases hq with hq | hq
  · obtain ⟨its, r', pl, hz⟩ := I.list hq
    have hlen := r'.length
    obtain ⟨o, ho, hc, n, hd⟩ := pl.isList
    exact call_list_seq p (.inl rfl) ho hc hd (fun h' c' kp e => fin its r' hz h' c' kp e) (by simp only [List.size_toArray] <;> omega)
  · obtain ⟨its, r', pl, hz⟩ := I.tuple hq
    have hlen := r'.length
    obtain ⟨o, ho, hc, n, hd⟩ := pl
    exact call_list_seq p (.inr rfl) ho hc hd (fun h' c' kp e => fin its r' hz h' c' kp e) (by simp only [List.size_toArray] <;> omega)
theorem call_tuple_of : CallR X (.type "tuple") (fun xs H Q => ∃ p ys, xs = [.ref p] ∧ ((SqL X.K H p ys ∧ ∀ l, H l = none → Q (.ref l) (upd H l (.tup ys))) ∨ (SqT X.K H p ys ∧ Q (.ref p) H))) := by
  intro pins s σ H xs us Q I r h
  obtain ⟨p, ys, rfl, h⟩ := h
  obtain ⟨u, rfl, rx⟩ := vals1 r
  cases rx
  rcases h with ⟨hq, q⟩ | ⟨hq, q⟩
  · obtain ⟨its, r', pl, hz⟩ := I.list hq
    have hlen := r'.length
    refine call_tuple_list pl.isList (fun h' kp => ?_) (by simp only [List.size_toArray] <;> omega)
    have I1 : Inv X pins σ H { s with heap := h' } := I.kept (t' := s.toks) kp
    have I2 : Inv X pins σ (upd H h'.objs.size (.tup ys)) { s with heap := h'.push { cls := .type "tuple", data := .seq its.toArray } } :=
      I1.laid (t' := s.toks) (fun b o e => Heap.get?_push_of_some _ e) (Nat.le_refl _) (show ObjOk X.prog X.w _ _ _ (.tup ys) from ⟨hz, its, r', TupX.new _ _⟩)
    exact ⟨.ref h'.objs.size, _, I2, rfl, q _ (I1.hok.fresh (Nat.le_refl _))⟩
  · obtain ⟨its, r', pl, hz⟩ := I.tuple hq
    exact call_tuple_same pl ⟨.ref p, H, I, rfl, q⟩
/-- the value is of that builtin type -/
def tyV (K : PySem.W.Frag) (T : String) (x : V) (H : Hp) : Prop := match x with
  | .str _ => T = "str"
  | .int _ => T = "int"
  | .ref p => (T = "list" ∧ ∃ xs, SqL K H p xs) ∨ (T = "tuple" ∧ ∃ o, K.lookup p = some o ∧ o.cls = .type "tuple" ∧ o.dict = none) ∨
      (T = "dict" ∧ ((∃ kvs, H p = some (.dK kvs)) ∨ ∃ kvs, H p = some (.dT kvs))) ∨ (T = "set" ∧ ∃ S n, H p = some (.set S n))
  | _ => False
theorem tyV_is {pins : List (Addr × Obj)} {σ : St} {H : Hp} {s : Shared} {T : String} {x : V} {v : Value} (I : Inv X pins σ H s) (r : RelV x v) (ty : tyV X.K T x H) :
    s.TypeIs v T ∧ ∀ a, v = .ref a → ∃ ob, s.heap.get? a = some ob ∧ ob.dict = none := by
  cases x with
  | str z =>
    obtain ⟨t, rfl⟩ := r
    cases (show T = "str" from ty)
    exact ⟨typeIs_str s z t, fun _ e => nomatch e⟩
  | int i =>
    obtain ⟨t, rfl⟩ := r
    cases (show T = "int" from ty)
    exact ⟨typeIs_int s i t, fun _ e => nomatch e⟩
  | ref p =>
    cases r
    rcases ty with ⟨rfl, xs, hq⟩ | ⟨rfl, o, hk, hc, hd⟩ | ⟨rfl, hk⟩ | ⟨rfl, S, n, hk⟩
    · obtain ⟨its, _, pl, _⟩ := I.list hq
      refine ⟨pl.isList.typeIs, fun a e => ?_⟩
      cases e
      obtain ⟨o, n, e, c, hd, _⟩ := pl
      exact ⟨o, e, hd⟩
    · refine ⟨⟨o, I.kIn p o hk, hc⟩, fun a e => ?_⟩
      cases e
      exact ⟨o, I.kIn _ o hk, hd⟩
    · have z : ∃ o, s.heap.get? p = some o ∧ o.ExactDict := by
        rcases hk with ⟨kvs, hk⟩ | ⟨kvs, hk⟩
        · obtain ⟨_, _, _, _, o, _, _, e, ex, _⟩ := I.hok p _ hk
          exact ⟨o, e, ex⟩
        · obtain ⟨_, _, _, _, o, _, _, e, ex, _⟩ := I.hok p _ hk
          exact ⟨o, e, ex⟩
      obtain ⟨o, e, ex⟩ := z
      refine ⟨⟨o, e, ex.1⟩, fun a e2 => ?_⟩
      cases e2
      exact ⟨o, e, ex.2.1⟩
    · obtain ⟨o, _, _, _, e, ex, _⟩ := I.hok p _ hk
      refine ⟨⟨o, e, ex.1⟩, fun a e2 => ?_⟩
      cases e2
      exact ⟨o, e, ex.2.1⟩
  | _ => exact False.elim ty
def tBM (K : PySem.W.Frag) (T : String) (r : V → List V → Hp → VK → Prop) (to : TE) (t : TA) : TE := fun σ H Q => to σ H fun x H1 => tyV K T x H1 ∧ t σ H1 fun xs H2 => r x xs H2 Q
variable {o e : Expr} {es : List Expr} {to : TE} {t : TA} {name : Str} {apos cpos : Pos} {T id : String} {r : V → List V → Hp → VK → Prop}
theorem pe_bm (pa : PlainAttrs T) (slot : Slot T name id) (hty : typeOf (.builtin id) = pure (.type "method_descriptor")) (hm : MtR X id r) (ho : PE X o to) (ha : PA X (e :: es) t)
    (hbase : attributeBase o name X.env (eval o X.env) = eval o X.env := by rfl)
    (hfew : ((backTo cpos (starEach (e :: es) X.env)).all (fun x => !x.1) && (backToKw cpos (keywordEach [] X.env)).all (fun x => x.1.isSome)
      && decide ((e :: es).length + ([] : List Keyword).length + (if ([] : List Keyword).isEmpty then 0 else 1) < 30)) = true := by rfl)
    (hline : (apos.endLine == cpos.line) = true := by rfl) (hs : starEach (e :: es) X.env = (false, eval e X.env) :: starEach es X.env := by rfl) (hplain : (backTo cpos (starEach es X.env)).any (·.1) = false := by rfl) :
    PE X (.Call (.Attribute o name apos) (e :: es) [] cpos) (tBM X.K T r to t) := by
  intro pins s σ H Q I h
  refine wpAny_Call_method_late hbase hfew hline rfl (thn (ho pins s σ H _ I h) fun v s1 ⟨x, H1, I1, r1, ty, q1⟩ => ?_)
  obtain ⟨h1, h2⟩ := tyV_is I1 r1 ty
  refine ⟨T, id, pa, slot, hty, h1, h2, ?_⟩
  have hA := ha cpos pins s1 σ H1 _ I1 q1
  rw [hs] at hA ⊢
  refine Calls.callWith_builtin (by show (false || (backTo cpos (starEach es X.env)).any (·.1)) = false; rw [hplain] <;> rfl) (Calls.evalArgs_plain ?_)
  exact thn hA fun us s2 ⟨vs, H2, I2, r2, q2⟩ => hm pins s2 σ H2 x vs v us Q I2 r1 r2 q2
end
end L2
namespace L2
open PySem PySem.Spec PyProof.Rows
def MtM (X : Cx) (id : String) (r : V → List V → Hp → VK → Prop) : Prop :=
  ∀ (pins : List (Addr × Obj)) (s : Shared) (σ : St) (H : Hp) (x : V) (xs : List V) (v : Value) (us : List Value) (Q : VK), Inv X pins σ H s → RelV x v → Vals xs us → r x xs H Q →
    wpAny (model X.prog X.w) X.A (call (.builtin id) (v :: us)) (EP X pins σ Q) X.xe s
theorem Vals.one : ∀ {x : V} {us : List Value}, Vals [x] us → ∃ u, us = [u] ∧ RelV x u
  | _, _, .cons r .nil => ⟨_, rfl, r⟩
section
variable {X : Cx} {pins : List (Addr × Obj)} {σ : St} {H : Hp} {s : Shared} {l b : Addr} {xs ys zs : List V}
theorem Inv.lset {its its' : List Value} {n : Nat} {f : Array Value → Array Value} {t' : Nat} (I : Inv X pins σ H s) (hH : H l = some (.lst xs))
    (e : s.heap.get? l = some { cls := .type "list", data := .seq its.toArray n }) (hf : f its.toArray = its'.toArray) (hv : Vals ys its') (hz : ys.length ≤ sizeLine) :
    Inv X pins σ (upd H l (.lst ys)) { s with heap := s.heap.update l (Obj.mapSeq f), toks := t' } := by
  have q := PySem.IsL.update e f
  rw [hf] at q
  refine I.write (x := l) (e := l) (by rw [hH]; exact trivial) (.inl rfl) (fun b' u hb hu => (Heap.get?_update_other s.heap (Obj.mapSeq f) (Ne.symm hb)).trans hu) ⟨_, q⟩ ?_
  exact ⟨hz, its', _, hv, q⟩
theorem Inv.lnew {its : List Value} {t' : Nat} (I : Inv X pins σ H s) (hv : Vals ys its) (hz : ys.length ≤ sizeLine) :
    Inv X pins σ (upd H s.heap.objs.size (.lst ys)) { s with heap := s.heap.push { cls := .type "list", data := .seq its.toArray }, toks := t' } :=
  I.laid (fun _ _ q => Heap.get?_push_of_some _ q) (Nat.le_refl _) ⟨hz, its, 0, hv, Heap.get?_push_size _ rfl⟩
theorem Inv.fresh (I : Inv X pins σ H s) : H s.heap.objs.size = none := I.hok.fresh (Nat.le_refl _)
theorem Inv.lstM (I : Inv X pins σ H s) (hH : H l = some (.lst xs)) : xs.length ≤ sizeLine ∧ ∃ (its : List Value) (n : Nat), Vals xs its ∧ xs.length = its.length ∧ s.heap.get? l = some { cls := .type "list", data := .seq its.toArray n } := by
  obtain ⟨z, its, n, r, e⟩ := I.hok l _ hH
  exact ⟨z, its, n, r, r.length, e⟩
theorem notLongL {n : Nat} (h : n ≤ sizeLine) : Builtin.List.listTooLong n = false := by
  unfold Builtin.List.listTooLong
  exact decide_eq_false (by omega)
end
section
variable {X : Cx}
def rAppend : V → List V → Hp → VK → Prop := fun x vs H Q => ∃ l xs y, x = .ref l ∧ vs = [y] ∧ H l = some (.lst xs) ∧ xs.length < sizeLine ∧ Q .non (upd H l (.lst (xs ++ [y])))
theorem mt_append : MtM X "list.append" rAppend := by
  intro pins s σ H x vs v us Q I rx rv h
  obtain ⟨l, xs, y, rfl, rfl, hH, hz, q⟩ := h
  cases rx
  obtain ⟨u, rfl, ru⟩ := rv.one
  obtain ⟨z, its, n, r, hl, e⟩ := I.lstM hH
  refine call_meets F.slot_list_append ⟨_, e, rfl⟩ F.entry_list_append (F.args_list_append_2 _ _) (PySem.list_append l its.toArray n u (by rw [List.size_toArray]; omega)) ⟨e, ?_⟩
  refine ⟨.non, _, I.lset (its' := its ++ [u]) hH e (by simp) (r.append (.cons ru .nil)) ?_, rfl, q⟩
  rw [List.length_append, List.length_singleton]
  omega
def rExtend : V → List V → Hp → VK → Prop := fun x vs H Q => ∃ l b xs zs, x = .ref l ∧ vs = [.ref b] ∧ H l = some (.lst xs) ∧ H b = some (.lst zs) ∧ xs.length + zs.length ≤ sizeLine ∧ Q .non (upd H l (.lst (xs ++ zs)))
theorem mt_extend : MtM X "list.extend" rExtend := by
  intro pins s σ H x vs v us Q I rx rv h
  obtain ⟨l, b, xs, zs, rfl, rfl, hH, hB, hz, q⟩ := h
  cases rx
  obtain ⟨u, rfl, ru⟩ := rv.one
  cases ru
  obtain ⟨z, its, n, r, hl, e⟩ := I.lstM hH
  obtain ⟨z2, its2, n2, r2, hl2, e2⟩ := I.lstM hB
  have hsz : its.toArray.size + its2.toArray.size ≤ sizeLine := by rw [List.size_toArray, List.size_toArray]; omega
  have hlong : ¬ (!its.toArray.isEmpty && Builtin.List.listTooLong (its.toArray.size + its2.toArray.size)) = true := by
    rw [notLongL hsz, Bool.and_false]
    exact Bool.false_ne_true
  refine call_meets F.slot_list_extend ⟨_, e, rfl⟩ F.entry_list_extend (F.args_list_extend_2 _ _)
    (AutoSeq1.list_extend_list_list_0 l its.toArray n b its2.toArray n2 hlong (by rw [List.size_toArray]; omega) (by omega)) ⟨e, e2, ?_⟩
  refine ⟨.non, _, I.lset (its' := its ++ its2) hH e (by simp) (r.append r2) ?_, rfl, q⟩
  rw [List.length_append]
  omega
def rCat : R2 := fun x y H Q => ∃ l b xs zs, x = .ref l ∧ y = .ref b ∧ H l = some (.lst xs) ∧ H b = some (.lst zs) ∧ xs.length + zs.length ≤ sizeLine ∧ ∀ p, H p = none → Q (.ref p) (upd H p (.lst (xs ++ zs)))
theorem op_cat : OpR X (binaryOp .Add) rCat := by
  intro pins s σ H x y v u Q I rx ry h
  obtain ⟨l, b, xs, zs, rfl, rfl, hH, hB, hz, q⟩ := h
  cases rx
  cases ry
  obtain ⟨z, its, n, r, hl, e⟩ := I.lstM hH
  obtain ⟨z2, its2, n2, r2, hl2, e2⟩ := I.lstM hB
  refine PySem.P.add_list e e2 ?_ (by rw [List.size_toArray, List.size_toArray]; omega)
  have ea : its.toArray ++ its2.toArray = (its ++ its2).toArray := by simp
  rw [ea]
  exact ⟨.ref _, _, I.lnew (t' := s.toks) (r.append r2) (by rw [List.length_append]; omega), rfl, q _ I.fresh⟩
end
section
variable {prog : Program} {w : World} {A : Around} {E : Value → Shared → Prop} {s : Shared}
set_option maxRecDepth 100000 in
end
section
variable {X : Cx}
end
end L2
namespace L2
open PySem PySem.Spec PyProof.Rows
theorem Vals.ints : ∀ {ns : List Int} {us : List Value}, Vals (ns.map V.int) us → IntsAre us ns
  | [], us, h => by
    rw [List.map_nil] at h
    cases h
    exact IntsAre.nil
  | n :: ns, us, h => by
    rw [List.map_cons] at h
    cases h with
    | cons r t =>
      obtain ⟨k, rfl⟩ := r
      exact IntsAre.cons n k (Vals.ints t)
theorem Vals.bls : ∀ {bs : List Bool} {us : List Value}, Vals (bs.map V.bl) us → us = bs.map Value.bool
  | [], us, h => by
    rw [List.map_nil] at h
    cases h
    rfl
  | b :: bs, us, h => by
    rw [List.map_cons] at h
    cases h with
    | cons r t =>
      cases r
      rw [Vals.bls t, List.map_cons]
theorem Vals.ref1 {a : Addr} {us : List Value} (r : Vals [V.ref a] us) : us = [Value.ref a] := by
  cases r with
  | cons r t =>
    cases t
    cases r
    rfl
section
variable {prog : Program} {w : World} {A : Around} {E : Value → Shared → Prop} {s : Shared} {l : Addr} {its : List Value} {ns : List Int} {Q : Value → Shared → Prop}
theorem sum_raw (hh : A.handled = none) (hl : s.heap.IsList l its.toArray) (hi : IntsAre its ns)
    (h : ∀ h' tk t', (∀ b o, s.heap.get? b = some o → h'.get? b = some o) → Q (.int ns.sum t') { s with heap := h', toks := tk }) : wpAny (model prog w) A (call (.builtin "sum") [.ref l]) Q E s := by
  obtain ⟨xs, e⟩ := hi.allInts.items
  have hn : numsOf (intItems xs).toList = ns := by rw [← e]; exact hi.numsOf
  rw [nums_intItems] at hn
  rw [e] at hl
  refine PySem.sum_intListG hh hl fun h' tk t' hk => ?_
  have := h h' tk t' hk
  rw [preSum_eq, List.take_of_length_le (by simp), hn]; exact this
end
section
variable {X : Cx}
/-- sum(xs) of a list of ints -/
def rSum (K : PySem.W.Frag) : List V → Hp → VK → Prop := fun vs H Q => ∃ (a : Addr) (ns : List Int), vs = [V.ref a] ∧ SqL K H a (ns.map V.int) ∧ Q (.int ns.sum) H
theorem cr_sum (hc : X.calm = true) : CallR X (.builtin "sum") (rSum X.K) := by
  intro pins s σ H vs us Q I r h
  obtain ⟨a, ns, rfl, hs, q⟩ := h
  obtain ⟨its, rv, hl, _⟩ := I.list hs
  rw [Vals.ref1 r]
  exact sum_raw (I.ok.hd hc) hl.isList rv.ints fun h' tk t' hk => ⟨.int _, H, I.kept hk, ⟨_, rfl⟩, q⟩
end
section
variable {X : Cx}
theorem flat_at {ys : List V} (f : ys.all flatV = true) {j : Nat} {z : V} (h : ys[j]? = some z) : flatV z = true := List.all_eq_true.mp f z (List.mem_of_getElem? h)
end
section
variable {X : Cx}
end
theorem iter_any {prog : Program} {w : World} {A : Around} {E : Value → Shared → Prop} {s : Shared} {l : Addr} {items : Array Value} {Q : Value → Shared → Prop} (hl : s.heap.IsList l items)
    (h : ∀ s₂ : Shared, s₂ = { s with heap := s.heap.push { cls := .type "list_iterator", data := .fields #[.ref l, .int 0 0] } } →
      (s₂.heap.IsListIter s.heap.objs.size l 0 ∧ s₂.heap.IsList l items) → l ≠ s.heap.objs.size → Q (.ref s.heap.objs.size) s₂) : wpAny (model prog w) A (pyIter (.ref l)) Q E s := by
  have hlt : l < s.heap.objs.size := by obtain ⟨_, e, _⟩ := hl; exact Heap.lt_size e
  exact wpAny_pyIter_list hl (h _ rfl ⟨⟨_, Heap.get?_push_size _ rfl, rfl, rfl⟩, hl.push _⟩ (Nat.ne_of_lt hlt))
theorem truth_bools {prog : Program} {w : World} {A : Around} {bs : List Bool} {its : List Value} (e : its = bs.map Value.bool) :
    TruthOf prog w A (fun i v => its.toArray[i]? = some v) (fun i => bs.getD i false) := fun i v s Q E hv hq => by
  have hv' : its[i]? = some v := by simpa using hv
  rw [e, List.getElem?_map] at hv'
  obtain ⟨b, hb, rfl⟩ := Option.map_eq_some_iff.mp hv'
  have hg : bs.getD i false = b := by rw [List.getD_eq_getElem?_getD, hb] <;> rfl
  have hq' : Q (bs.getD i false) s := hq
  rw [hg] at hq'
  exact wpAny_truthy_bool hq'
theorem all_range : ∀ bs : List Bool, (List.range bs.length).all (fun i => bs.getD i false) = bs.all id
  | [] => rfl
  | b :: bs => by
    rw [List.length_cons, List.range_succ_eq_map, List.all_cons, List.all_map, List.all_cons, ← all_range bs]
    all_goals rfl
section
variable {X : Cx}
def rAll (K : PySem.W.Frag) : List V → Hp → VK → Prop := fun vs H Q => ∃ (a : Addr) (bs : List Bool), vs = [V.ref a] ∧ SqL K H a (bs.map V.bl) ∧ Q (.bl (bs.all id)) H
theorem cr_all (hc : X.calm = true) : CallR X (.builtin "all") (rAll X.K) := by
  intro pins s σ H vs us Q I r h
  obtain ⟨a, bs, rfl, hs, q⟩ := h
  obtain ⟨its, rv, hl, _⟩ := I.list hs
  rw [Vals.ref1 r]
  have hb := rv.bls
  refine call_all_walk (iter_any hl.isList fun s₂ e2 st hne => ?_)
  subst e2
  refine ⟨_, _, _, _, _, _, _, rfl, Walks.list (A := X.A.in1) (I.ok.hd hc) _ a hne its.toArray, st, truth_bools hb, fun h' tk hk => ?_⟩
  refine ⟨.bl _, H, I.kept fun b o eo => hk b o (fun hmem => ?_) (Heap.get?_push_of_some _ eo), ?_, q⟩
  · rcases List.mem_cons.mp hmem with e1 | hmem
    · exact absurd (e1 ▸ Heap.lt_size eo) (Nat.lt_irrefl _)
    · cases hmem
  · show Value.bool _ = Value.bool _
    rw [← all_range, hb, List.size_toArray, List.length_map]
end
mutual
inductive Dp (K : PySem.W.Frag) (H : Hp) : V → PyData → Prop
  | non : Dp K H .non .none
  | bl (b : Bool) : Dp K H (.bl b) (.bool b)
  | int (i : Int) : Dp K H (.int i) (.int i)
  | str (x : Str) : Dp K H (.str x) (.str x)
  | lst {a : Addr} {xs : List V} {ds : List PyData} : SqL K H a xs → DpAll K H xs ds → Dp K H (.ref a) (.list ds)
  | tup {a : Addr} {xs : List V} {ds : List PyData} : SqT K H a xs → DpAll K H xs ds → Dp K H (.ref a) (.tuple ds)
inductive DpAll (K : PySem.W.Frag) (H : Hp) : List V → List PyData → Prop
  | nil : DpAll K H [] []
  | cons {v : V} {vs : List V} {d : PyData} {ds : List PyData} : Dp K H v d → DpAll K H vs ds → DpAll K H (v :: vs) (d :: ds)
end
section
variable {X : Cx} {pins : List (Addr × Obj)} {σ : St} {H : Hp} {s : Shared}
mutual
theorem Dp.reads (I : Inv X pins σ H s) : ∀ (d : PyData) (v : V) (u : Value), Dp X.K H v d → RelV v u → ∃ as, Reads s.heap u d as
  | .none, _, _, h, r => by
    cases h
    cases r
    exact ⟨_, Reads.none⟩
  | .bool b, _, _, h, r => by
    cases h
    cases r
    exact ⟨_, Reads.bool b⟩
  | .int i, _, _, h, r => by
    cases h
    obtain ⟨t, rfl⟩ := r
    exact ⟨_, Reads.int i t⟩
  | .str x, _, _, h, r => by
    cases h
    obtain ⟨t, rfl⟩ := r
    exact ⟨_, Reads.str x t⟩
  | .list ds, _, _, h, r => by
    cases h with
    | lst hs ha =>
      cases r
      obtain ⟨its, rv, ⟨o, n, ho, hc, _, hd⟩, _⟩ := I.list hs
      obtain ⟨as, hr⟩ := Dp.readsAll I ds _ its ha rv
      exact ⟨_, Reads.list ho hc hd hr⟩
  | .tuple ds, _, _, h, r => by
    cases h with
    | tup hs ha =>
      cases r
      obtain ⟨its, rv, ⟨o, ho, hc, n, hd⟩, _⟩ := I.tuple hs
      obtain ⟨as, hr⟩ := Dp.readsAll I ds _ its ha rv
      exact ⟨_, Reads.tuple ho hc hd hr⟩
  | .dict _, _, _, h, _ => by cases h
theorem Dp.readsAll (I : Inv X pins σ H s) : ∀ (ds : List PyData) (vs : List V) (us : List Value), DpAll X.K H vs ds → Vals vs us → ∃ as, ReadsAll s.heap us ds as
  | [], _, _, h, r => by
    cases h
    cases r
    exact ⟨_, ReadsAll.nil⟩
  | d :: ds, _, _, h, r => by
    cases h with
    | cons h1 h2 =>
      cases r with
      | cons r1 r2 =>
        obtain ⟨as, q1⟩ := Dp.reads I d _ _ h1 r1
        obtain ⟨bs, q2⟩ := Dp.readsAll I ds _ _ h2 r2
        exact ⟨_, ReadsAll.cons q1 q2⟩
end
end
section
variable {X : Cx}
def rEqD (K : PySem.W.Frag) : R2 := fun x y H Q => ∃ d e, Dp K H x d ∧ Dp K H y e ∧ SeqAt.shaped d = true ∧ SeqAt.shaped e = true ∧ Q (.bl (PyData.eqv d e)) H
theorem op_eqD (hu : X.A.units + 64 < cLine) : OpR X (compareOp .Eq) (rEqD X.K) := by
  intro pins s σ H x y v u Q I rx ry h
  obtain ⟨d, e, hd, he, sd, se, q⟩ := h
  obtain ⟨as, r1⟩ := Dp.reads I d x v hd rx
  obtain ⟨bs, r2⟩ := Dp.reads I e y u he ry
  exact SeqAt.compareEq_shaped r1 r2 sd se hu ⟨.bl _, H, I, rfl, q⟩
end
end L2
namespace L2
open PySem PySem.Spec PyProof.Rows
abbrev CellAt (h : Heap) (c : Addr) (v : Option Value) : Prop := h.IsCell c v
def relS (scope sc : Scope) : Scope :=
  { scope with names := scope.names.map fun (n, k) => if (k == .free && sc.kind == .function && sc.names.lookup n == some .cell) then (n, .cell) else (n, k) }
def cloFrom (cells : List (Str × Addr)) : List (Str × NameKind) → List (Str × Addr) → List (Str × Addr)
  | [], acc => acc
  | (n, k) :: r, acc => if k == .free then cloFrom cells r ((n, (cells.lookup n).getD 0) :: acc) else cloFrom cells r acc
theorem closure_loop (env : Env) (f : Str × NameKind → List (Str × Addr) → Sem (ForInStep (List (Str × Addr))))
    (hf : ∀ n k c, f (n, k) c = if k == .free then (do let a ← cellOf env n; pure (.yield ((n, a) :: c))) else pure (.yield c)) :
    ∀ (names : List (Str × NameKind)) (acc : List (Str × Addr)), (∀ y ∈ names, y.2 = .free → ∃ c, env.cells.lookup y.1 = some c) → forIn names acc f = pure (cloFrom env.cells names acc)
  | [], acc, _ => by rw [List.forIn_nil]; rfl
  | (n, k) :: r, acc, h => by
    rw [List.forIn_cons, hf]
    have ih := fun acc => closure_loop env f hf r acc fun y hy => h y (List.mem_cons_of_mem _ hy)
    unfold cloFrom
    by_cases hk : (k == NameKind.free) = true
    · rw [if_pos hk, if_pos hk]
      obtain ⟨c, hc⟩ := h (n, k) List.mem_cons_self (by simpa using hk)
      have e : cellOf env n = pure c := by unfold cellOf; rw [hc]
      rw [e]
      have e2 : (env.cells.lookup n).getD 0 = c := by rw [hc]; rfl
      rw [e2]
      exact ih _
    · rw [if_neg hk, if_neg hk]
      exact ih _
theorem closure_ok {scope : Scope} {env : Env} (h : ∀ y ∈ scope.names, y.2 = .free → ∃ c, env.cells.lookup y.1 = some c) : closureFor scope env = pure (cloFrom env.cells scope.names []) := by
  simp only [closureFor]
  rw [closure_loop env _ (fun n k c => rfl) scope.names [] h]
  rfl
theorem mem_lookup {α : Type} : ∀ {l : List (Str × α)} {n : Str} {c : α}, (n, c) ∈ l → ∃ c', l.lookup n = some c'
  | (k, v) :: r, n, c, h => by
    rw [List.lookup_cons]
    cases hb : n == k with
    | true => exact ⟨_, rfl⟩
    | false =>
      rcases List.mem_cons.mp h with e | h
      · cases e; simp at hb
      · exact mem_lookup h
theorem cloFrom_mem {cells : List (Str × Addr)} : ∀ {names : List (Str × NameKind)} {acc : List (Str × Addr)} {n : Str} {c : Addr}, (n, c) ∈ cloFrom cells names acc → (n, c) ∈ acc ∨ ((n, .free) ∈ names ∧ c = (cells.lookup n).getD 0)
  | [], _, _, _, h => .inl h
  | (m, k) :: r, acc, n, c, h => by
    unfold cloFrom at h
    split at h
    · rename_i hk
      have hk : k = .free := by simpa using hk
      rcases cloFrom_mem h with h | ⟨h1, h2⟩
      · rcases List.mem_cons.mp h with e | h
        · cases e; exact .inr ⟨hk ▸ List.mem_cons_self, rfl⟩
        · exact .inl h
      · exact .inr ⟨List.mem_cons_of_mem _ h1, h2⟩
    · rcases cloFrom_mem h with h | ⟨h1, h2⟩
      · exact .inl h
      · exact .inr ⟨List.mem_cons_of_mem _ h1, h2⟩
theorem cloFrom_acc {cells : List (Str × Addr)} : ∀ {names : List (Str × NameKind)} {acc : List (Str × Addr)} {p : Str × Addr}, p ∈ acc → p ∈ cloFrom cells names acc
  | [], _, _, h => h
  | (m, k) :: r, acc, p, h => by
    unfold cloFrom
    split
    · exact cloFrom_acc (List.mem_cons_of_mem _ h)
    · exact cloFrom_acc h
theorem cloFrom_has {cells : List (Str × Addr)} : ∀ {names : List (Str × NameKind)} {acc : List (Str × Addr)} {n : Str}, (n, .free) ∈ names → (n, (cells.lookup n).getD 0) ∈ cloFrom cells names acc
  | (m, k) :: r, acc, n, h => by
    unfold cloFrom
    rcases List.mem_cons.mp h with e | h
    · cases e
      exact cloFrom_acc List.mem_cons_self
    · split
      · exact cloFrom_has h
      · exact cloFrom_has h
theorem cells_mem : ∀ {names : List (Str × NameKind)} {h : Heap} {acc : List (Str × Addr)} {x : Str} {c : Addr}, (x, c) ∈ cellsFrom h.objs.size names acc →
    (x, c) ∈ acc ∨ ((x, .cell) ∈ names ∧ h.objs.size ≤ c ∧ CellAt (pushCells h names) c none)
  | [], _, _, _, _, h => .inl h
  | (n, k) :: r, h, acc, x, c, hm => by
    unfold cellsFrom at hm
    unfold pushCells
    split at hm
    · rename_i hk
      rw [if_pos hk]
      have hk : k = .cell := by simpa using hk
      rw [← Heap.size_push h { cls := .type "cell", data := .cell none }] at hm
      rcases cells_mem hm with hm | ⟨h1, h2, h3⟩
      · rcases List.mem_cons.mp hm with e | hm
        · cases e
          exact .inr ⟨hk ▸ List.mem_cons_self, Nat.le_refl _, _, pushCells_keeps r _ _ _ (Heap.get?_push_size _ rfl), rfl⟩
        · exact .inl hm
      · rw [Heap.size_push] at h2
        exact .inr ⟨List.mem_cons_of_mem _ h1, Nat.le_of_succ_le h2, h3⟩
    · rename_i hk
      rw [if_neg hk]
      rcases cells_mem hm with hm | ⟨h1, h2, h3⟩
      · exact .inl hm
      · exact .inr ⟨List.mem_cons_of_mem _ h1, h2, h3⟩
theorem cells_acc : ∀ {names : List (Str × NameKind)} {n : Nat} {acc : List (Str × Addr)} {p : Str × Addr}, p ∈ acc → p ∈ cellsFrom n names acc
  | [], _, _, _, h => h
  | (m, k) :: r, n, acc, p, h => by
    unfold cellsFrom
    split
    · exact cells_acc (List.mem_cons_of_mem _ h)
    · exact cells_acc h
theorem cells_has : ∀ {names : List (Str × NameKind)} {n : Nat} {acc : List (Str × Addr)} {x : Str}, (x, .cell) ∈ names → ∃ c, (x, c) ∈ cellsFrom n names acc
  | (m, k) :: r, n, acc, x, h => by
    unfold cellsFrom
    rcases List.mem_cons.mp h with e | h
    · cases e
      exact ⟨n, cells_acc List.mem_cons_self⟩
    · split
      · exact cells_has h
      · exact cells_has h
theorem cells_inj : ∀ {names : List (Str × NameKind)} {h : Heap} {acc : List (Str × Addr)} {x y : Str} {c : Addr}, (∀ p ∈ acc, p.2 < h.objs.size) → (∀ x y c, (x, c) ∈ acc → (y, c) ∈ acc → x = y) →
    (x, c) ∈ cellsFrom h.objs.size names acc → (y, c) ∈ cellsFrom h.objs.size names acc → x = y
  | [], _, _, _, _, _, _, hi, h1, h2 => hi _ _ _ h1 h2
  | (n, k) :: r, h, acc, x, y, c, hl, hi, h1, h2 => by
    unfold cellsFrom at h1 h2
    split at h1
    · rename_i hk
      rw [if_pos hk] at h2
      rw [← Heap.size_push h { cls := .type "cell", data := .cell none }] at h1 h2
      refine cells_inj (h := h.push _) (fun p hp => ?_) (fun x y c a b => ?_) h1 h2
      · rw [Heap.size_push]
        rcases List.mem_cons.mp hp with rfl | hp
        · exact Nat.lt_succ_self _
        · exact Nat.lt_succ_of_lt (hl p hp)
      · rcases List.mem_cons.mp a with e | a <;> rcases List.mem_cons.mp b with e' | b
        · cases e; cases e'; rfl
        · cases e; exact absurd (hl _ b) (Nat.lt_irrefl _)
        · cases e'; exact absurd (hl _ a) (Nat.lt_irrefl _)
        · exact hi _ _ _ a b
    · rename_i hk
      rw [if_neg hk] at h2
      exact cells_inj hl hi h1 h2
theorem newEnv_comp {M : Model} {A : Around} {E : Value → Shared → Prop} {s : Shared} {scope : Scope} {globals : Addr} {closure : List (Str × Addr)} {qual : Str} {func : Option Addr} {code : Value} {around : Env} {builtins : Addr} {Q : Env → Shared → Prop}
    (h : Q (newEnv scope s.heap.objs.size globals (cellsFrom (s.heap.objs.size + 1) scope.names closure) qual func code (some around) builtins)
      { s with heap := pushCells (s.heap.push { cls := .type "dict", data := .dict #[] }) scope.names }) :
    wpAny M A (newFunctionEnv scope globals closure [] qual func code (some around) builtins) Q E s := by
  simp only [newFunctionEnv, Option.isSome_some, if_true]
  refine wpAny_bind (wpAny_alloc ?_)
  refine wpAny_bind (wpAny_layCells _ (fun n k c => rfl) scope.names closure _ _ ?_)
  rw [show ({ s with heap := s.heap.push { cls := .type "dict", data := .dict #[] } } : Shared).heap.objs.size = s.heap.objs.size + 1 from Heap.size_push ..]
  rw [List.forIn_nil]
  exact wpAny_bind (wpAny_pure (wpAny_pure h))
/-- every name of the written scope, in the scope that runs -/
theorem lookup_relS {sc : Scope} : ∀ {names : List (Str × NameKind)} {x : Str} {k : NameKind},
    (names.map fun (n, k) => if (k == NameKind.free && sc.kind == .function && sc.names.lookup n == some .cell) then (n, NameKind.cell) else (n, k)).lookup x = some k →
    ∃ k', names.lookup x = some k' ∧ (k = k' ∨ (k' = .free ∧ k = .cell))
  | [], _, _, h => by simp at h
  | (n, k₀) :: r, x, k, h => by
    have ih := @lookup_relS sc r x k
    have h' : List.lookup x ((if (k₀ == NameKind.free && sc.kind == .function && sc.names.lookup n == some .cell) = true then (n, NameKind.cell) else (n, k₀)) :: (r.map _)) = some k := h
    cases hx : x == n with
    | true =>
      simp only [List.lookup_cons, hx]
      by_cases hc : (k₀ == NameKind.free && sc.kind == .function && sc.names.lookup n == some .cell) = true
      · rw [if_pos hc] at h'
        simp only [List.lookup_cons, hx] at h'
        cases h'
        simp only [Bool.and_eq_true, beq_iff_eq] at hc
        exact ⟨k₀, rfl, .inr ⟨hc.1.1, rfl⟩⟩
      · rw [if_neg hc] at h'
        simp only [List.lookup_cons, hx] at h'
        cases h'
        exact ⟨_, rfl, .inl rfl⟩
    | false =>
      simp only [List.lookup_cons, hx]
      by_cases hc : (k₀ == NameKind.free && sc.kind == .function && sc.names.lookup n == some .cell) = true
      · rw [if_pos hc] at h'
        simp only [List.lookup_cons, hx] at h'
        exact ih h'
      · rw [if_neg hc] at h'
        simp only [List.lookup_cons, hx] at h'
        exact ih h'
/-- the names of a comprehension's block: its own (with their places in N), or captured -/
structure BlkOk (N : List Str) (sc scope : Scope) (own : List (Str × Nat)) : Prop where
  kind : scope.kind = .function
  uniq : ∀ y ∈ scope.names, scope.names.lookup y.1 = some y.2
  ix : ∀ p ∈ own, N[p.2]? = some p.1
  free : ∀ y ∈ scope.names, y.2 = .free → sc.names.lookup y.1 = some .cell ∨ sc.names.lookup y.1 = some .free
  own : ∀ y ∈ scope.names, y.2 = .local ∨ y.2 = .cell → y.1 ∈ own.map (·.1) ∨ y.1 ∉ N
/-- the slots of the block's own names forgotten -/
def wipe (σ : St) : List Nat → St
  | [] => σ
  | v :: vs => (wipe σ vs).set v none
theorem wipe_length (σ : St) : ∀ vs : List Nat, (wipe σ vs).length = σ.length
  | [] => rfl
  | v :: vs => by unfold wipe; rw [List.length_set, wipe_length σ vs]
theorem wipe_some {σ : St} {i : Nat} {x : V} : ∀ {vs : List Nat}, (wipe σ vs)[i]? = some (some x) → σ[i]? = some (some x) ∧ i ∉ vs
  | [], h => ⟨h, by simp⟩
  | v :: vs, h => by
    unfold wipe at h
    by_cases hi : v = i
    · subst hi
      by_cases hv : v < (wipe σ vs).length
      · rw [List.getElem?_set_self hv] at h; cases h
      · rw [List.getElem?_eq_none (by simpa using hv)] at h; cases h
    · rw [List.getElem?_set_ne hi] at h
      obtain ⟨h1, h2⟩ := wipe_some h
      exact ⟨h1, by simp only [List.mem_cons, not_or]; exact ⟨fun e => hi e.symm, h2⟩⟩
/-- the context of a block that starts at s, its iterator's objects at fp -/
abbrev Cx.blk (X : Cx) (s : Shared) (H : Hp) (scope : Scope) (cenv : Env) (fp : List Addr) : Cx := { X with s_0 := s, H_0 := H, env := cenv, outer := X.stack, ex := fp, fn := fun x => scope.names.lookup x == some .cell, pn := [], xe := fun _ _ => False }
section
variable {X : Cx} {pins : List (Addr × Obj)} {σ : St} {H : Hp} {s : Shared}
theorem block_start {scope : Scope} {own : List (Str × Nat)} {fp : List Addr} (I : Inv X pins σ H s) (ok : BlkOk X.N X.env.scope scope own) (hN : X.N.Nodup) (hfp : ∀ b ∈ fp, FpOk X pins H b ∧ b < s.heap.objs.size) :
    Inv (X.blk s H scope (compEnvC scope (cellsFrom (s.heap.objs.size + 1) scope.names (cloFrom X.env.cells scope.names [])) s.heap.objs.size X.env) fp) [] (wipe σ (own.map (·.2))) H { s with heap := pushCells (s.heap.push { cls := .type "dict", data := .dict #[] }) scope.names } := by
  have hfree : ∀ y ∈ scope.names, y.2 = .free → ∃ c, X.env.cells.lookup y.1 = some c := fun y hy e => by
    rcases ok.free y hy e with k | k
    · exact I.ok.has _ (.inl k)
    · exact I.ok.has _ (.inr k)
  generalize hcenv : compEnvC scope (cellsFrom (s.heap.objs.size + 1) scope.names (cloFrom X.env.cells scope.names [])) s.heap.objs.size X.env = cenv
  have kp : ∀ b o, s.heap.get? b = some o → (pushCells (s.heap.push { cls := .type "dict", data := .dict #[] }) scope.names).get? b = some o := fun b o e => pushCells_keeps _ _ _ _ (Heap.get?_push_of_some _ e)
  have hL : cenv.locals = s.heap.objs.size := by rw [← hcenv]; rfl
  have hcl : cenv.cells = cellsFrom (s.heap.objs.size + 1) scope.names (cloFrom X.env.cells scope.names []) := by rw [← hcenv]; rfl
  have hsc : cenv.scope = relS scope X.env.scope := by rw [← hcenv]; rfl
  rw [← Heap.size_push s.heap { cls := .type "dict", data := .dict #[] }] at hcl
  have cm : ∀ {y c}, (y, c) ∈ cloFrom X.env.cells scope.names [] → X.env.cells.lookup y = some c ∧ c < s.heap.objs.size := fun {y c} hm => by
    rcases cloFrom_mem hm with hm | ⟨h1, rfl⟩
    · cases hm
    · obtain ⟨c, hc⟩ := hfree _ h1 rfl
      rw [hc]
      obtain ⟨w, z⟩ := I.cell _ _ hc
      exact ⟨rfl, z.lt⟩
  have mem : ∀ {y c}, cenv.cells.lookup y = some c → (X.env.cells.lookup y = some c ∧ c < s.heap.objs.size) ∨ (s.heap.objs.size + 1 ≤ c ∧ CellAt (pushCells (s.heap.push { cls := .type "dict", data := .dict #[] }) scope.names) c none) := fun {y c} e => by
    rw [hcl] at e
    rcases cells_mem (PySem.mem_of_lookup e) with hm | ⟨_, h2, h3⟩
    · exact .inl (cm hm)
    · rw [Heap.size_push] at h2; exact .inr ⟨h2, h3⟩
  have look : ∀ {y}, scope.names.lookup y = some .free → ∃ c, cenv.cells.lookup y = some c ∧ X.env.cells.lookup y = some c := fun {y} hl => by
    have hy : (y, NameKind.free) ∈ scope.names := PySem.mem_of_lookup hl
    obtain ⟨c', e'⟩ := mem_lookup (cells_acc (names := scope.names) (n := (s.heap.push { cls := .type "dict", data := .dict #[] }).objs.size) (cloFrom_has (cells := X.env.cells) (acc := []) hy))
    rw [← hcl] at e'
    refine ⟨c', e', ?_⟩
    rw [hcl] at e'
    rcases cells_mem (PySem.mem_of_lookup e') with hm | ⟨h1, _, _⟩
    · exact (cm hm).1
    · have := ok.uniq _ h1
      rw [hl] at this; cases this
  have okB : (X.blk s H scope cenv fp).Ok := by
    refine ⟨I.ok.mod, by show cenv.scope.kind = _; rw [hsc]; exact ok.kind, by show cenv.globals = _; rw [← hcenv]; exact I.ok.glob, by show cenv.builtins = _; rw [← hcenv]; exact I.ok.blt, by show s.heap.objs.size ≤ cenv.locals; rw [hL]; exact Nat.le_refl _,
      fun y z c e1 e2 => ?_, fun y hy => ?_, fun y c z e => ?_, I.ok.hd, I.ok.frames, .inl rfl, fun b hb => ⟨?_, fun y c e z => ?_⟩, I.bs, Nat.le_trans I.ok.bsz I.sz, fun b o e hb => ?_, fun b hb z => ?_, I.stack, I.stkFree⟩
    · have e1 : cenv.cells.lookup y = some c := e1
      have e2 : cenv.cells.lookup z = some c := e2
      rw [hcl] at e1 e2
      refine cells_inj (fun p hp => ?_) (fun y z c a b => I.ok.inj y z c (cm a).1 (cm b).1) (PySem.mem_of_lookup e1) (PySem.mem_of_lookup e2)
      rw [Heap.size_push]
      exact Nat.lt_succ_of_lt (cm (y := p.1) (c := p.2) hp).2
    · show ∃ c, cenv.cells.lookup y = some c
      have key : ∀ k, cenv.kindOf y = some k → (k = .cell ∨ k = .free) → ∃ c, cenv.cells.lookup y = some c := fun k hk hk' => by
        unfold Env.kindOf at hk
        rw [hsc] at hk
        obtain ⟨k', e, r⟩ := lookup_relS hk
        have : k' = .cell ∨ k' = .free := by
          rcases r with rfl | ⟨rfl, _⟩
          · exact hk'
          · exact .inr rfl
        rcases this with rfl | rfl
        · obtain ⟨c, hm⟩ := cells_has (n := (s.heap.push { cls := .type "dict", data := .dict #[] }).objs.size) (acc := cloFrom X.env.cells scope.names []) (PySem.mem_of_lookup e)
          obtain ⟨c', e'⟩ := mem_lookup hm
          exact ⟨c', by rw [hcl]; exact e'⟩
        · obtain ⟨c, h1, _⟩ := look e
          exact ⟨c, h1⟩
      rcases hy with hy | hy
      · exact key _ hy (.inl rfl)
      · exact key _ hy (.inr rfl)
    · have z : (scope.names.lookup y == some NameKind.cell) = true := z
      have z : scope.names.lookup y = some .cell := by simpa using z
      have e : cenv.cells.lookup y = some c := e
      rw [hcl] at e
      rcases cells_mem (PySem.mem_of_lookup e) with hm | ⟨_, h2, _⟩
      · rcases cloFrom_mem hm with hm | ⟨h1, _⟩
        · cases hm
        · have q := ok.uniq _ h1
          rw [z] at q; cases q
      · rw [Heap.size_push] at h2
        exact Nat.le_of_succ_le h2
    · show b ≠ cenv.locals
      rw [hL]; exact Nat.ne_of_lt (hfp b hb).2
    · have e : cenv.cells.lookup y = some c := e
      rcases mem e with ⟨h1, _⟩ | ⟨h1, _⟩
      · exact (hfp b hb).1.2.2.2.2.1 y c h1 z
      · have h2 : s.heap.objs.size + 1 ≤ b := by rw [← z]; exact h1
        exact absurd (Nat.lt_of_lt_of_le (hfp b hb).2 (Nat.le_of_succ_le h2)) (Nat.lt_irrefl _)
    · rcases (hfp b hb).1.2.2.2.1 with z | z
      · exact I.ok.noex b o e z
      · exact absurd (Nat.lt_of_lt_of_le (Heap.lt_size e) (Nat.le_trans I.ok.bsz z)) (Nat.lt_irrefl _)
    · rcases List.mem_cons.mp (I.stkSub b z) with z | z
      · exact (hfp b hb).1.2.1 z
      · exact (hfp b hb).1.2.2.1 z
  refine ⟨okB, rfl, I.bare, Un.kept kp, ⟨fun _ => none, ?_, fun i y av e1 e2 e3 => ?_⟩, fun y c e => ?_, ?_, fun y c e => ?_, fun p hp => ?_, I.hok.kept kp, by rw [wipe_length]; exact I.len⟩
  · show Heap.Ns _ cenv.locals _
    rw [hL]
    exact Heap.Ns.keeps (Heap.Ns.new ..) fun b o e => pushCells_keeps _ _ _ _ e
  · obtain ⟨e2, hne⟩ := wipe_some e2
    have hfr : scope.names.lookup y = some .free ∧ (cenv.kindOf y = some .cell ∨ cenv.kindOf y = some .free) := by
      have key : ∀ k, cenv.scope.names.lookup y = some k → k = .local ∨ k = .cell ∨ k = .free → scope.names.lookup y = some .free ∧ (cenv.kindOf y = some .cell ∨ cenv.kindOf y = some .free) := fun k hk hk' => by
        have hk0 := hk
        rw [hsc] at hk
        obtain ⟨k', e, r⟩ := lookup_relS hk
        have no : ¬ (k' = .local ∨ k' = .cell) := fun hh => by
          rcases ok.own _ (PySem.mem_of_lookup e) hh with e' | e'
          · obtain ⟨p, hp, hpy⟩ := List.mem_map.mp e'
            have e3 := ok.ix p hp
            have : p.1 = y := hpy
            rw [this] at e3
            exact hne (List.mem_map.mpr ⟨p, hp, nodup_ix hN e3 e1⟩)
          · exact e' (List.mem_of_getElem? e1)
        rcases r with rfl | ⟨rfl, rfl⟩
        · rcases hk' with rfl | rfl | rfl
          · exact absurd (.inl rfl) no
          · exact absurd (.inr rfl) no
          · exact ⟨e, .inr hk0⟩
        · exact ⟨e, .inl hk0⟩
      have e3 : Vis cenv.scope y := e3
      rcases e3 with e3 | e3 | e3
      · exact key _ e3 (.inl rfl)
      · exact key _ e3 (.inr (.inl rfl))
      · exact key _ e3 (.inr (.inr rfl))
    obtain ⟨m, hn, hl⟩ := I.loc
    have hvis : Vis X.env.scope y := (ok.free _ (PySem.mem_of_lookup hfr.1) rfl).elim (fun k => .inr (.inl k)) (fun k => .inr (.inr k))
    obtain ⟨w, r, q⟩ := hl i y av e1 e2 hvis
    refine ⟨w, r, .inr ⟨hfr.2, ?_⟩⟩
    obtain ⟨c, h1, h2⟩ := look hfr.1
    rcases q with ⟨k, _⟩ | ⟨_, c', e', z⟩
    · have k : X.env.scope.names.lookup y = some .local := k
      rcases ok.free _ (PySem.mem_of_lookup hfr.1) rfl with k' | k' <;> rw [show X.env.scope.names.lookup y = _ from k'] at k <;> cases k
    · rw [h2] at e'; cases e'
      exact ⟨c, h1, z.keeps kp⟩
  · have e : cenv.cells.lookup y = some c := e
    rcases mem e with ⟨h1, _⟩ | ⟨_, z⟩
    · obtain ⟨w, z⟩ := I.cell y c h1
      exact ⟨w, z.keeps kp⟩
    · exact ⟨_, z⟩
  · show H cenv.locals = none
    rw [hL]; exact I.hok.fresh (Nat.le_refl _)
  · have e : cenv.cells.lookup y = some c := e
    rcases mem e with ⟨h1, _⟩ | ⟨h1, _⟩
    · exact I.freeC y c h1
    · exact I.hok.fresh (Nat.le_of_succ_le h1)
  · exact absurd (show p ∈ ([] : List (Addr × Obj)) ++ [] from hp) (by simp)
/-- an item appended to a tracked list -/
theorem app_ok {E : Value → Shared → Prop} {D : Addr} {xs : List V} {y : V} {v : Value} {Q : Value → Shared → Prop} (I : Inv X pins σ H s) (hD : H D = some (.lst xs)) (hz : xs.length < sizeLine) (r : RelV y v)
    (h : ∀ s', Inv X pins σ (upd H D (.lst (xs ++ [y]))) s' → Q .none s') : wpAny (model X.prog X.w) X.A (call (.builtin "list.append") [.ref D, v]) Q E s := by
  obtain ⟨hz', its, n, ri, e⟩ := I.hok D _ hD
  have hl := ri.length
  refine append_at (hsz := by rw [List.size_toArray]; omega) e fun h' sb ho' => ?_
  refine h { s with heap := h' } (I.write (t' := s.toks) (by rw [hD]; trivial) (.inl rfl) (fun b u hb q => (sb.2 b hb).trans q) ⟨_, ho'⟩ ⟨by rw [List.length_append]; exact hz, its ++ [v], n + 1, ri.append (.cons r .nil), ?_⟩)
  rw [ho']
  simp
/-- a clause's tests -/
def PTs (X : Cx) (ifs : List Expr) (t : TT) : Prop :=
  ∀ (pins : List (Addr × Obj)) (s : Shared) (σ : St) (H : Hp) (Q : Bool → Hp → Prop), Inv X pins σ H s → t σ H Q →
    wpAny (model X.prog X.w) X.A (forIn ifs true fun c r => if r = true then do let ok ← isTrue c X.env (eval c X.env); pure (ForInStep.yield ok) else pure (ForInStep.yield r)) (TP X pins σ Q) X.xe s
def tYes : TT := fun _ H Q => Q true H
theorem pts_nil : PTs X [] tYes := fun _ _ _ H _ I h => wpAny_tests_nil ⟨H, I, h⟩
theorem pts_one {c : Expr} {t : TT} (h : PT X c t) : PTs X [c] t := fun pins s σ H Q I hw => wpAny_tests_one (h pins s σ H Q I hw)
end
theorem thnF {α : Type} {t : Sem α} {Q Q' : α → Shared → Prop} {M : Model} {A : Around} {E : Value → Shared → Prop} {s : Shared} (h : wpAny M A t Q (fun _ _ => False) s) (hQ : ∀ a s, Q a s → Q' a s) : wpAny M A t Q' E s := wpAny_mono h hQ fun _ _ z => False.elim z
/-- the loop of a list comprehension's block, the target of any form (codeAny_compLoop_tests asks a target that no tuple goes to; statement and proof follow it, PyProof/CompMap.lean:41-61, with the step letOwnedTupleGo kept) -/
theorem compLoop_any {prog : Program} {w : World} {A : Around} {R : Result → Shared → Prop} {s : Shared} {elt target iter : Expr} {ifs : List Expr} {scope : Scope} {pos : Pos} {it acc : Value} {env : Env} (I : Nat → Shared → Prop)
    (turn : ∀ n s, I n s → wpAny (model prog w) A (pyNext it) (fun r s₁ => match r with
      | none => R (.ok .next) s₁
      | some v => wpAny (model prog w) A (letOwnedTupleGo target it v) (fun _ s₁' => wpAny (model prog w) A (assign target env v) (fun _ s₂ =>
          wpAny (model prog w) A (forIn ifs true fun c r => if r = true then do let ok ← isTrue c env (eval c env); pure (ForInStep.yield ok) else pure (ForInStep.yield r)) (fun ok s₃ =>
            if ok = true then wpAny (model prog w) A (eval elt env) (fun x s₄ =>
              wpAny (model prog w) A (call (.builtin "list.append") [acc, x]) (fun _ s₅ => ∃ m, m < n ∧ I m s₅) (notedBy (model prog w) A env fun e s' => R (.error e) s') s₄) (notedBy (model prog w) A env fun e s' => R (.error e) s') s₃
            else ∃ m, m < n ∧ I m s₃) (notedBy (model prog w) A env fun e s' => R (.error e) s') s₂) (notedBy (model prog w) A env fun e s' => R (.error e) s') s₁') (notedBy (model prog w) A env fun e s' => R (.error e) s') s₁) (notedBy (model prog w) A env fun e s' => R (.error e) s') s)
    (n : Nat) (h : I n s) :
    codeAny (model prog w) A (.compLoop (.ListComp elt [⟨target, iter, ifs, 0⟩] scope pos) 0 it acc env) R s := by
  refine codeAny_loop rfl I (fun n s hI => ?_) n h
  show wpAny _ A ((compTurn (.ListComp elt [⟨target, iter, ifs, 0⟩] scope pos) 0 it acc env).onRaise (fun x => do noteFrame x env; theTreesLotGoes x)) _ _ s
  refine wpAny_noted ?_
  rw [compTurn_list]
  refine wpAny_bind (wpAny_standAt (wpAny_bind (wpAny_mono (turn n s hI) (fun r s₁ h₁ => ?_) fun _ _ h' => h')))
  cases r with
  | none => exact wpAny_pure h₁
  | some v =>
    refine wpAny_bind (wpAny_mono h₁ (fun _ s₁' h₁' => ?_) fun _ _ h' => h')
    refine wpAny_bind (wpAny_mono h₁' (fun _ s₂ h₂ => wpAny_bind (wpAny_mono h₂ (fun ok s₃ h₃ => ?_) fun _ _ h' => h')) fun _ _ h' => h')
    cases ok with
    | false => exact wpAny_pure ⟨rfl, h₃⟩
    | true =>
      exact wpAny_bind (wpAny_bind (wpAny_mono h₃ (fun x s₄ h₄ => wpAny_bind (wpAny_mono h₄ (fun _ s₅ h₅ => wpAny_pure (wpAny_pure ⟨rfl, h₅⟩)) fun _ _ h' => h')) fun _ _ h' => h'))
section
variable {X : Cx}
/-- [elt for target in iter if ..]: D the new list; W by the turn and a measure, Nx what a turn is to reach -/
def tLc (wi : TI) (g : TG) (tt : TT) (te : TE) (vs : List Nat) : TE := fun σ H Q => wi σ H fun J H1 => ∀ D, H1 D = none → ∃ W : Nat → Nat → Hp → Prop, (∃ m, W 0 m (upd H1 D (.lst []))) ∧ ∀ i m H, W i m H →
  (J.stop i H ∧ Q (.ref D) H) ∨ (J.go i H ∧ ∃ Nx : Hp → Prop, (∀ H', Nx H' → ∃ m', m' < m ∧ W (i + 1) m' H') ∧ ∀ x H', J.yld i H x H' → g x (wipe σ vs) H' fun σ2 H2 => wipe σ2 vs = wipe σ vs ∧ tt σ2 H2 fun b H3 =>
    if b = true then te σ2 H3 fun y H4 => ∃ acc, H4 D = some (.lst acc) ∧ acc.length < sizeLine ∧ Nx (upd H4 D (.lst (acc ++ [y]))) else Nx H3)
theorem lc_core {pins : List (Addr × Obj)} {s : Shared} {σ : St} {H : Hp} {Q : VK} {elt tg iter : Expr} {ifs : List Expr} {scope : Scope} {own : List (Str × Nat)} {pos pos' : Pos} {wi : TI} {g : TG} {tt : TT} {te : TE} {use : Option (Value → Sem Unit)} {Qf : Value → Shared → Prop}
    (hc : X.calm = true) (hN : X.N.Nodup) (I : Inv X pins σ H s) (hi : PI X tg iter wi) (ok : BlkOk X.N X.env.scope scope own)
    (hg : ∀ (s : Shared) (H : Hp) (C : Addr) (cl : List (Str × Addr)) (fp : List Addr), PG (X.blk s H scope (compEnvC scope cl C X.env) fp) tg g) (ht : ∀ (s : Shared) (H : Hp) (C : Addr) (cl : List (Str × Addr)) (fp : List Addr), PTs (X.blk s H scope (compEnvC scope cl C X.env) fp) ifs tt)
    (he : ∀ (s : Shared) (H : Hp) (C : Addr) (cl : List (Str × Addr)) (fp : List Addr), PE (X.blk s H scope (compEnvC scope cl C X.env) fp) elt te) (hs : ∀ x, foldedSetIterable iter X.env x = pure x)
    (h : tLc wi g tt te (own.map (·.2)) σ H Q)
    (hRR : ∀ D C s' m H', Inv X pins σ H' s' → Q (.ref D) H' → s'.heap.Ns C m → FpOk X pins H' C → compPost (model X.prog X.w) X.A X.xe use Qf (.ref D) C (.ok .next) s') :
    wpAny (model X.prog X.w) X.A (comprehension (.ListComp elt [⟨tg, iter, ifs, 0⟩] scope pos) scope X.env pos' (newList []) false (eval iter X.env) use) Qf X.xe s := by
  have hfree : ∀ y ∈ scope.names, y.2 = .free → ∃ c, X.env.cells.lookup y.1 = some c := fun y hy e => by
    rcases ok.free y hy e with k | k
    · exact I.ok.has _ (.inl k)
    · exact I.ok.has _ (.inr k)
  refine wpAny_comprehension_free (use := use) rfl hs (closure_ok hfree) ok.kind (fun y hy e => by rw [ok.uniq y hy, e])
    (thn (hi pins s σ H _ I h) fun xv s1 hx => thn hx fun itv s2 h2 => ?_)
  obtain ⟨it, fp, tn, J, H2, e, I2, T, st2, f2, q⟩ := h2
  subst e
  refine wpAny_newObj_type (newEnv_comp ?_) (by show 0 ≤ sizeLine; decide)
  generalize hD : s2.heap.objs.size = D
  have hDn : H2 D = none := I2.hok.fresh (Nat.le_of_eq hD)
  obtain ⟨W, ⟨m0, w0⟩, turn⟩ := q D hDn
  -- the new list
  generalize hs3 : ({ s2 with heap := s2.heap.push { cls := .type "list", data := .seq ([] : List Value).toArray } } : Shared) = s3
  have I3 : Inv X pins σ (upd H2 D (.lst [])) s3 := by
    rw [← hs3]
    refine I2.laid (t' := s2.toks) (fun b o e => Heap.get?_push_of_some _ e) (Nat.le_of_eq hD) ⟨Nat.zero_le _, [], 0, .nil, ?_⟩
    rw [← hD]
    exact Heap.get?_push_size _ rfl
  have h3 : s3.heap = s2.heap.push { cls := .type "list", data := .seq ([] : List Value).toArray } := by rw [← hs3]
  have sz : ∀ b ∈ fp, b < s2.heap.objs.size := fun b hb => by
    obtain ⟨o, e, _⟩ := T.obj _ _ st2 b hb
    exact Heap.lt_size e
  have f3 : ∀ b ∈ fp, FpOk X pins (upd H2 D (.lst [])) b ∧ b < s3.heap.objs.size := fun b hb => by
    have hlt := sz b hb
    refine ⟨⟨?_, (f2 b hb).2⟩, by rw [h3, Heap.size_push]; exact Nat.lt_succ_of_lt hlt⟩
    rw [upd_ne (by rw [← hD]; exact Nat.ne_of_lt hlt)]
    exact (f2 b hb).1
  have st3 : tn 0 s3.heap := T.keep _ _ _ st2 fun b _ o e => by rw [h3]; exact Heap.get?_push_of_some _ e
  have I4 := block_start I3 ok hN f3
  have pg := hg s3 (upd H2 D (.lst [])) s3.heap.objs.size (cellsFrom (s3.heap.objs.size + 1) scope.names (cloFrom X.env.cells scope.names [])) fp
  have pt := ht s3 (upd H2 D (.lst [])) s3.heap.objs.size (cellsFrom (s3.heap.objs.size + 1) scope.names (cloFrom X.env.cells scope.names [])) fp
  have pe := he s3 (upd H2 D (.lst [])) s3.heap.objs.size (cellsFrom (s3.heap.objs.size + 1) scope.names (cloFrom X.env.cells scope.names [])) fp
  show codeAny _ _ (.compStart (.ListComp elt [⟨tg, iter, ifs, 0⟩] scope pos) 0 (.ref it) (.ref D) (compEnvC scope (cellsFrom (s3.heap.objs.size + 1) scope.names (cloFrom X.env.cells scope.names [])) s3.heap.objs.size X.env)) (compPost (model X.prog X.w) X.A X.xe use Qf (.ref D) s3.heap.objs.size) { s3 with heap := pushCells (s3.heap.push { cls := .type "dict", data := .dict #[] }) scope.names }
  have nfp : ∀ b ∈ fp, (upd H2 D (.lst [])) b = none := fun b hb => (f3 b hb).1.1
  generalize hce : compEnvC scope (cellsFrom (s3.heap.objs.size + 1) scope.names (cloFrom X.env.cells scope.names [])) s3.heap.objs.size X.env = ce at I4 pg pt pe ⊢
  have cL : ce.locals = s3.heap.objs.size := by subst hce; rfl
  generalize hH3 : upd H2 D (.lst []) = H3 at I3 I4 pg pt pe w0 nfp f3
  generalize hs4 : ({ s3 with heap := pushCells (s3.heap.push { cls := .type "dict", data := .dict #[] }) scope.names } : Shared) = s4 at I4 ⊢
  have st4 : tn 0 s4.heap := T.keep _ _ _ st3 fun b _ o e => by rw [← hs4]; exact pushCells_keeps _ _ _ _ (Heap.get?_push_of_some _ e)
  have stat : ∀ {σ' : St} {H' : Hp} {s' : Shared}, Inv (X.blk s3 H3 scope ce fp) [] σ' H' s' → (∀ b ∈ fp, H' b = none) → ∀ b ∈ fp, FpOk (X.blk s3 H3 scope ce fp) [] H' b := fun {σ' H' s'} I' hn b hb =>
    ⟨hn b hb, (I'.ok.exf b hb).1, I'.ok.exfs b hb, .inl hb, fun x c e => (I'.ok.exf b hb).2 x c e, fun p hp => absurd (show p ∈ ([] : List (Addr × Obj)) ++ [] from hp) (by simp)⟩
  have loop : codeAny (model X.prog X.w) X.A (.compLoop (.ListComp elt [⟨tg, iter, ifs, 0⟩] scope pos) 0 (.ref it) (.ref D) ce) (compPost (model X.prog X.w) X.A X.xe use Qf (.ref D) s3.heap.objs.size) s4 := by
    refine compLoop_any (fun n s' => ∃ i H', Inv (X.blk s3 H3 scope ce fp) [] (wipe σ (own.map (·.2))) H' s' ∧ tn i s'.heap ∧ (∀ b ∈ fp, H' b = none) ∧ W i n H') ?_ m0 ⟨0, H3, I4, st4, nfp, w0⟩
    rintro n s5 ⟨i, H5, I5, st5, n5, w5⟩
    rcases turn i n H5 w5 with ⟨stop, qq⟩ | ⟨go, Nx, hNx, step⟩
    · have td := T.done (X.blk s3 H3 scope ce fp) rfl rfl rfl hc i [] s5 _ H5 (fun _ _ => False) I5 (stat I5 n5) st5 stop
      refine thnF td fun r s6 ⟨hr, I6⟩ => ?_
      subst hr
      -- back in the def's context
      have I7 : Inv X pins σ H5 s6 := I3.call' (ch := fp) I6.os I6.base I6.hok I6.bare fun b hb => ⟨(f3 b hb).1.2.2.2.1, (f3 b hb).1.2.1, (f3 b hb).1.2.2.2.2.1, (f3 b hb).1.2.2.2.2.2⟩
      have nC : H5 s3.heap.objs.size = none := by
        have z : H5 ce.locals = none := I6.free
        rw [cL] at z
        exact z
      obtain ⟨m, hn, _⟩ := I6.loc
      have hn : s6.heap.Ns ce.locals m := hn
      rw [cL] at hn
      exact hRR D s3.heap.objs.size s6 m H5 I7 qq hn (I3.fpOk (Nat.le_refl _) nC)
    · have ti := T.item (X.blk s3 H3 scope ce fp) rfl rfl rfl hc i [] s5 _ H5 (fun _ _ => False) I5 (stat I5 n5) st5 go
      refine thnF ti fun r s6 ⟨u, hr, h6⟩ => ?_
      subst hr
      refine thnF h6 fun _ s7 ⟨x, H7, I7, r7, y7, st7, n7⟩ => ?_
      have I7' := I7.pinned (stat I7 n7) (T.obj _ _ st7)
      refine thnF (pg _ s7 _ H7 x u _ I7' r7 (step x H7 y7)) fun _ s8 ⟨σ8, H8, I8, hw8, q8⟩ => ?_
      refine thnF (pt _ s8 σ8 H8 _ I8 q8) fun b s9 ⟨H9, I9, q9⟩ => ?_
      -- the turn's end
      have fin : ∀ {s' : Shared} {H' : Hp}, Inv (X.blk s3 H3 scope ce fp) ([] ++ pinsAt fp s7.heap) σ8 H' s' → Nx H' → ∃ m, m < n ∧ ∃ i H', Inv (X.blk s3 H3 scope ce fp) [] (wipe σ (own.map (·.2))) H' s' ∧ tn i s'.heap ∧ (∀ b ∈ fp, H' b = none) ∧ W i m H' := fun {s' H'} I' nx => by
        obtain ⟨m', hm, w'⟩ := hNx H' nx
        have pin' : ∀ b ∈ fp, ∀ o, s7.heap.get? b = some o → s'.heap.get? b = some o ∧ H' b = none := fun b hb o e =>
          let z := I'.pin (b, o) (List.mem_append_right _ (List.mem_append_right _ (mem_pinsAt hb e)))
          ⟨z.1, z.2.1⟩
        have hl : (wipe σ (own.map (·.2))).length = σ8.length := by rw [← hw8, wipe_length]
        refine ⟨m', hm, i + 1, H', (I'.unpinned (pins := [])).weak hl (fun j v e => ?_), T.keep _ _ _ st7 fun b hb o e => (pin' b hb o e).1, fun b hb => ?_, w'⟩
        · rw [← hw8] at e
          exact (wipe_some e).1
        · obtain ⟨o, e, _⟩ := T.obj _ _ st7 b hb
          exact (pin' b hb o e).2
      cases b with
      | false =>
        simp only [Bool.false_eq_true, if_false] at q9 ⊢
        exact fin I9 q9
      | true =>
        simp only [if_true] at q9 ⊢
        refine thnF (pe _ s9 σ8 H9 _ I9 q9) fun z s10 ⟨yv, H10, I10, r10, acc, hD10, hz10, nx⟩ => ?_
        exact app_ok (X := X.blk s3 H3 scope ce fp) I10 hD10 hz10 r10 fun s11 I11 => fin I11 nx
  exact codeAny_compStart_list loop (T.self X.A 0 _ _ _ st4 loop)
/-- as a value -/
theorem pe_lc {elt tg iter : Expr} {ifs : List Expr} {scope : Scope} {own : List (Str × Nat)} {pos : Pos} {wi : TI} {g : TG} {tt : TT} {te : TE} (hc : X.calm = true) (hN : X.N.Nodup) (hi : PI X tg iter wi) (ok : BlkOk X.N X.env.scope scope own)
    (hg : ∀ (s : Shared) (H : Hp) (C : Addr) (cl : List (Str × Addr)) (fp : List Addr), PG (X.blk s H scope (compEnvC scope cl C X.env) fp) tg g) (ht : ∀ (s : Shared) (H : Hp) (C : Addr) (cl : List (Str × Addr)) (fp : List Addr), PTs (X.blk s H scope (compEnvC scope cl C X.env) fp) ifs tt)
    (he : ∀ (s : Shared) (H : Hp) (C : Addr) (cl : List (Str × Addr)) (fp : List Addr), PE (X.blk s H scope (compEnvC scope cl C X.env) fp) elt te) (hs : ∀ x, foldedSetIterable iter X.env x = pure x := by intro _; rfl) :
    PE X (.ListComp elt [⟨tg, iter, ifs, 0⟩] scope pos) (tLc wi g tt te (own.map (·.2))) := by
  intro pins s σ H Q I h
  rw [eval_ListComp]
  refine lc_core hc hN I hi ok hg ht he hs h fun D C s' m H' I' q hn f => ⟨m, hn, fun h'' sb => ?_⟩
  obtain ⟨f0, f1, f2, f3, f4, f5⟩ := f
  exact ⟨.ref D, H', I'.turned (t' := s'.toks) (fun b o hb e => (sb.2 b hb).trans e) f0 f1 f3 f4 f5, rfl, q⟩
/-- name = [..] on one line, the name a local -/
theorem ps_setLc {i : Nat} {y : Str} {py : Pos} {elt tg iter : Expr} {ifs : List Expr} {scope : Scope} {own : List (Str × Nat)} {pos spos : Pos} {wi : TI} {g : TG} {tt : TT} {te : TE} (hc : X.calm = true) (hN : X.N.Nodup) (hy : X.N[i]? = some y) (hyl : X.env.scope.names.lookup y = some .local)
    (hsw : swapsWith (.ListComp elt [⟨tg, iter, ifs, 0⟩] scope pos) (some (.Name y py)) spos.line X.env = pure true) (hi : PI X tg iter wi) (ok : BlkOk X.N X.env.scope scope own)
    (hg : ∀ (s : Shared) (H : Hp) (C : Addr) (cl : List (Str × Addr)) (fp : List Addr), PG (X.blk s H scope (compEnvC scope cl C X.env) fp) tg g) (ht : ∀ (s : Shared) (H : Hp) (C : Addr) (cl : List (Str × Addr)) (fp : List Addr), PTs (X.blk s H scope (compEnvC scope cl C X.env) fp) ifs tt)
    (he : ∀ (s : Shared) (H : Hp) (C : Addr) (cl : List (Str × Addr)) (fp : List Addr), PE (X.blk s H scope (compEnvC scope cl C X.env) fp) elt te) (hs : ∀ x, foldedSetIterable iter X.env x = pure x := by intro _; rfl) :
    PS X (.Assign [.Name y py] (.ListComp elt [⟨tg, iter, ifs, 0⟩] scope pos) spos) (tAsg (tLc wi g tt te (own.map (·.2))) (gName i)) := by
  intro pins s σ H D I h
  rw [exec_Assign_Name_used _ _ _ _ hsw]
  refine wpAny_bind (wpAny_standAt (wpAny_bind ?_))
  show wpAny _ X.A (do let _ ← comprehension (.ListComp elt [⟨tg, iter, ifs, 0⟩] scope pos) scope X.env (firstIterPos [⟨tg, iter, ifs, 0⟩] pos) (newList []) false (eval iter X.env) (some (assign (.Name y py) X.env))) _ _ s
  have h : tLc wi g tt te (own.map (·.2)) σ H (fun x H1 => gName i x σ H1 D.nx) := h
  refine wpAny_bind (thn (lc_core (Qf := fun _ s' => SP X pins D .next s') hc hN I hi ok hg ht he hs h fun L C s' m H' I' q hn f => ?_) fun _ s' hq => wpAny_pure (wpAny_pure hq))
  show wpAny _ _ (assign (.Name y py) X.env (.ref L)) _ _ _
  refine wpAny_assign_Name (store_ok2 (v := V.ref L) I' hN hy (.inl hyl) rfl (fun s2 I2 ⟨a, sb, ha⟩ => ?_) (.inr hyl))
  obtain ⟨f0, f1, f2, f3, f4, f5⟩ := f
  have haC : C ≠ a := by
    rcases ha with z | z
    · rw [z]; exact f1
    · exact fun e => f4 y a z e.symm
  refine ⟨m, hn.sameBut sb haC, fun h3 sb3 => ?_⟩
  exact ⟨_, H', I2.turned (t' := s2.toks) (fun b o hb e => (sb3.2 b hb).trans e) f0 f1 f3 f4 f5, q⟩
theorem sw_true {elt : Expr} {gs : List Comprehension} {scope : Scope} {pos py : Pos} {y : Str} {l : Nat} {env : Env} (hk : env.scope.kind = .function) (hy : env.scope.names.lookup y = some .local) (hl : (py.line == pos.line) = true)
    (ha : (scope.names.any fun (n, k) => n == y && (k == .local || k == .cell)) = false) : swapsWith (.ListComp elt gs scope pos) (some (.Name y py)) l env = pure true := by
  have ky : env.kindOf y = some .local := hy
  have hb : env.blockKind = .function := by unfold Env.blockKind; rw [hk]; rfl
  unfold swapsWith
  simp only [hb, ky, ha, Expr.pos, hl]
  rfl
end
/-- over a range: Pv by the turn and the heap (the new list at D within) -/
theorem lc_range {lo : Int} {n : Nat} {g : TG} {tt : TT} {te : TE} {vs : List Nat} {σ : St} {H1 : Hp} {D : Addr} {Qd : Hp → Prop} (Pv : Nat → Hp → Prop) (h0 : Pv 0 (upd H1 D (.lst [])))
    (hs : ∀ i H, i < n → Pv i H → g (.int (lo + i)) (wipe σ vs) H fun σ2 H2 => wipe σ2 vs = wipe σ vs ∧ tt σ2 H2 fun b H3 =>
      if b = true then te σ2 H3 fun y H4 => ∃ acc, H4 D = some (.lst acc) ∧ acc.length < sizeLine ∧ Pv (i + 1) (upd H4 D (.lst (acc ++ [y]))) else Pv (i + 1) H3) (hd : ∀ H, Pv n H → Qd H) :
    ∃ W : Nat → Nat → Hp → Prop, (∃ m, W 0 m (upd H1 D (.lst []))) ∧ ∀ i m H, W i m H →
      ((Itr lo n).stop i H ∧ Qd H) ∨ ((Itr lo n).go i H ∧ ∃ Nx : Hp → Prop, (∀ H', Nx H' → ∃ m', m' < m ∧ W (i + 1) m' H') ∧ ∀ x H', (Itr lo n).yld i H x H' → g x (wipe σ vs) H' fun σ2 H2 => wipe σ2 vs = wipe σ vs ∧ tt σ2 H2 fun b H3 =>
        if b = true then te σ2 H3 fun y H4 => ∃ acc, H4 D = some (.lst acc) ∧ acc.length < sizeLine ∧ Nx (upd H4 D (.lst (acc ++ [y]))) else Nx H3) := by
  refine ⟨fun i m H => m = n - i ∧ i ≤ n ∧ Pv i H, ⟨n, by simp, Nat.zero_le _, h0⟩, ?_⟩
  rintro i m H ⟨rfl, hi, p⟩
  by_cases hlt : i < n
  · refine .inr ⟨hlt, Pv (i + 1), fun H' p' => ⟨n - (i + 1), by omega, rfl, hlt, p'⟩, fun x H' y => ?_⟩
    obtain ⟨e, y⟩ := y
    subst e y
    exact hs i _ hlt p
  · have e : i = n := by omega
    subst e
    exact .inl ⟨Nat.le_refl _, hd H p⟩
/-- over a list that the block leaves as it is -/
theorem lc_list {K : PySem.W.Frag} {a : Addr} {xs : List V} {g : TG} {tt : TT} {te : TE} {vs : List Nat} {σ : St} {H1 : Hp} {D : Addr} {Qd : Hp → Prop} (Pv : Nat → Hp → Prop) (h0 : Pv 0 (upd H1 D (.lst []))) (hl : ∀ i H, i ≤ xs.length → Pv i H → SqL K H a xs)
    (hs : ∀ i x H, xs[i]? = some x → Pv i H → g x (wipe σ vs) H fun σ2 H2 => wipe σ2 vs = wipe σ vs ∧ tt σ2 H2 fun b H3 =>
      if b = true then te σ2 H3 fun y H4 => ∃ acc, H4 D = some (.lst acc) ∧ acc.length < sizeLine ∧ Pv (i + 1) (upd H4 D (.lst (acc ++ [y]))) else Pv (i + 1) H3) (hd : ∀ H, Pv xs.length H → Qd H) :
    ∃ W : Nat → Nat → Hp → Prop, (∃ m, W 0 m (upd H1 D (.lst []))) ∧ ∀ i m H, W i m H →
      ((Itl K a).stop i H ∧ Qd H) ∨ ((Itl K a).go i H ∧ ∃ Nx : Hp → Prop, (∀ H', Nx H' → ∃ m', m' < m ∧ W (i + 1) m' H') ∧ ∀ x H', (Itl K a).yld i H x H' → g x (wipe σ vs) H' fun σ2 H2 => wipe σ2 vs = wipe σ vs ∧ tt σ2 H2 fun b H3 =>
        if b = true then te σ2 H3 fun y H4 => ∃ acc, H4 D = some (.lst acc) ∧ acc.length < sizeLine ∧ Nx (upd H4 D (.lst (acc ++ [y]))) else Nx H3) := by
  refine ⟨fun i m H => m = xs.length - i ∧ i ≤ xs.length ∧ Pv i H, ⟨xs.length, by simp, Nat.zero_le _, h0⟩, ?_⟩
  rintro i m H ⟨rfl, hi, p⟩
  have q := hl i H hi p
  by_cases hlt : i < xs.length
  · refine .inr ⟨⟨xs, xs[i], q, by simp [hlt]⟩, Pv (i + 1), fun H' p' => ⟨xs.length - (i + 1), by omega, rfl, hlt, p'⟩, fun x H' y => ?_⟩
    obtain ⟨e, y⟩ := y
    subst e
    exact hs i x _ (y xs q) p
  · have e : i = xs.length := by omega
    subst e
    exact .inl ⟨⟨xs, q, Nat.le_refl _⟩, hd H p⟩
/-- over a tuple -/
theorem lc_tup {K : PySem.W.Frag} {a : Addr} {xs : List V} {g : TG} {tt : TT} {te : TE} {vs : List Nat} {σ : St} {H1 : Hp} {D : Addr} {Qd : Hp → Prop} (Pv : Nat → Hp → Prop) (h0 : Pv 0 (upd H1 D (.lst []))) (hl : ∀ i H, i ≤ xs.length → Pv i H → SqT K H a xs)
    (hs : ∀ i x H, xs[i]? = some x → Pv i H → g x (wipe σ vs) H fun σ2 H2 => wipe σ2 vs = wipe σ vs ∧ tt σ2 H2 fun b H3 =>
      if b = true then te σ2 H3 fun y H4 => ∃ acc, H4 D = some (.lst acc) ∧ acc.length < sizeLine ∧ Pv (i + 1) (upd H4 D (.lst (acc ++ [y]))) else Pv (i + 1) H3) (hd : ∀ H, Pv xs.length H → Qd H) :
    ∃ W : Nat → Nat → Hp → Prop, (∃ m, W 0 m (upd H1 D (.lst []))) ∧ ∀ i m H, W i m H →
      ((Itt K a).stop i H ∧ Qd H) ∨ ((Itt K a).go i H ∧ ∃ Nx : Hp → Prop, (∀ H', Nx H' → ∃ m', m' < m ∧ W (i + 1) m' H') ∧ ∀ x H', (Itt K a).yld i H x H' → g x (wipe σ vs) H' fun σ2 H2 => wipe σ2 vs = wipe σ vs ∧ tt σ2 H2 fun b H3 =>
        if b = true then te σ2 H3 fun y H4 => ∃ acc, H4 D = some (.lst acc) ∧ acc.length < sizeLine ∧ Nx (upd H4 D (.lst (acc ++ [y]))) else Nx H3) := by
  refine ⟨fun i m H => m = xs.length - i ∧ i ≤ xs.length ∧ Pv i H, ⟨xs.length, by simp, Nat.zero_le _, h0⟩, ?_⟩
  rintro i m H ⟨rfl, hi, p⟩
  have q := hl i H hi p
  by_cases hlt : i < xs.length
  · refine .inr ⟨⟨xs, xs[i], q, by simp [hlt]⟩, Pv (i + 1), fun H' p' => ⟨xs.length - (i + 1), by omega, rfl, hlt, p'⟩, fun x H' y => ?_⟩
    obtain ⟨e, y⟩ := y
    subst e
    exact hs i x _ (y xs q) p
  · have e : i = xs.length := by omega
    subst e
    exact .inl ⟨⟨xs, q, Nat.le_refl _⟩, hd H p⟩
def blkC (N : List Str) (sc scope : Scope) (own : List (Str × Nat)) : Bool :=
  (match scope.kind with | .function => true | _ => false) && (scope.names.all fun y => decide (scope.names.lookup y.1 = some y.2)) && (own.all fun p => decide (N[p.2]? = some p.1)) &&
    (scope.names.all fun y => match y.2 with
      | .free => (match sc.names.lookup y.1 with | some .cell => true | some .free => true | _ => false)
      | .local => decide (y.1 ∈ own.map (·.1)) || decide (y.1 ∉ N)
      | .cell => decide (y.1 ∈ own.map (·.1)) || decide (y.1 ∉ N)
      | _ => true)
theorem blkOk_by {N : List Str} {sc scope : Scope} {own : List (Str × Nat)} (h : blkC N sc scope own = true) : BlkOk N sc scope own := by
  unfold blkC at h
  simp only [Bool.and_eq_true, List.all_eq_true, decide_eq_true_eq] at h
  obtain ⟨⟨⟨h1, h2⟩, h3⟩, h4⟩ := h
  refine ⟨?_, h2, h3, fun y hy e => ?_, fun y hy e => ?_⟩
  · split at h1
    · assumption
    · cases h1
  · have q := h4 y hy
    simp only [e] at q
    split at q <;> first | exact .inl (by assumption) | exact .inr (by assumption) | cases q
  · have q := h4 y hy
    rcases e with e | e <;> (simp only [e, Bool.or_eq_true, decide_eq_true_eq] at q; exact q)
end L2
namespace L2
open PySem PySem.Spec PyProof.Rows
section
variable {prog : Program} {w : World} {A : Around} {R : Result → Shared → Prop} {s : Shared} {elt t0 i0 t1 i1 : Expr} {ifs0 ifs1 : List Expr} {scope : Scope} {pos : Pos} {it acc : Value} {env : Env}
end
section
variable {X : Cx}
end
end L2
namespace L2
open PySem PySem.Spec PyProof.Rows
section
variable {κ : Type} [DecidableEq κ]
def valV (kvs : List (κ × V)) (k : κ) : Option V := (kvs.find? fun kv => decide (kv.1 = k)).map (·.2)
theorem valV_pos {p : κ × V} {r : List (κ × V)} {k : κ} (e : p.1 = k) : valV (p :: r) k = some p.2 := by simp [valV, List.find?_cons, e]
theorem valV_neg {p : κ × V} {r : List (κ × V)} {k : κ} (e : ¬ p.1 = k) : valV (p :: r) k = valV r k := by simp [valV, List.find?_cons, e]
end
theorem kV_is {P : Program} {w : World} {k : Key} {u : Value} (r : RelV (kV k) u) : (mixKind P w).is k u = true := by
  cases k with
  | inl i => obtain ⟨t, e⟩ := (show ∃ t, u = Value.int i t from r); subst e; exact mixKind_int P w i t
  | inr x => obtain ⟨t, e⟩ := (show ∃ t, u = Value.str x t from r); subst e; exact mixKind_str P w x t
theorem items_are {P : Program} {w : World} : ∀ {ks : List Key} {us : List Value}, Vals (ks.map kV) us → ItemsAre (mixKind P w) ks us
  | [], _, r => by rw [List.map_nil] at r; cases r; exact .nil
  | k :: ks, _, r => by
    rw [List.map_cons] at r
    cases r with
    | cons h t => exact .cons (kV_is h) (items_are t)
/-- raw entries of a dict with tuple keys -/
abbrev KT (H : Hp) : List (List Key × V) → List (List Key × Addr × Value) → Prop := Paired fun p q => p.1 = q.1 ∧ H q.2.1 = some (.tup (p.1.map kV)) ∧ RelV p.2 q.2.2
theorem KT.val {H : Hp} {kvs : List (List Key × V)} {xs : List (List Key × Addr × Value)} (r : KT H kvs xs) (k : List Key) : RelO (valV kvs k) ((atKey xs k).map (·.2)) := by
  induction r with
  | nil => exact True.intro
  | @cons p q ps qs h t ih =>
    obtain ⟨h1, _, h2⟩ := h
    by_cases e : p.1 = k
    · have e' : q.1 = k := h1.symm.trans e
      have b : atKey (q :: qs) k = some q.2 := by simp [atKey, List.find?_cons, e']
      rw [valV_pos e, b]; exact h2
    · have e' : ¬ q.1 = k := fun z => e (h1.trans z)
      have b : atKey (q :: qs) k = atKey qs k := by simp [atKey, List.find?_cons, e']
      rw [valV_neg e, b]; exact ih
theorem KT.keeps {H H' : Hp} {kvs : List (List Key × V)} {xs : List (List Key × Addr × Value)} (r : KT H kvs xs) (ht : ∀ b ys, H b = some (.tup ys) → H' b = some (.tup ys)) : KT H' kvs xs :=
  Paired.mapP r fun _ _ z => ⟨z.1, ht _ _ z.2.1, z.2.2⟩
section
variable {P : Program} {w : World} {H : Hp} {h : Heap} {a : Addr}
theorem rd_of {u : HO} (ok : HOk P w H h) (e : Rd H a u) : ObjOk P w H h a u := e.ok ok
theorem dk_rd {kvs : List (Key × V)} (ok : HOk P w H h) (e : Rd H a (.dK kvs)) : kvs.length ≤ sizeLine ∧ (a == sysModules) = false ∧ ∃ vs, KV kvs vs ∧ h.DictOf (mixKind P w) a vs :=
  show ObjOk P w H h a (.dK kvs) from rd_of ok e
/-- a tracked tuple of ints and texts is a key -/
theorem key_of {ks : List Key} (ok : HOk P w H h) (e : H a = some (.tup (ks.map kV))) : (tupleKind (mixKind P w)).is h ks a := by
  obtain ⟨_, its, r, o, h1, h2, n, h3⟩ := (show ObjOk P w H h a (.tup (ks.map kV)) from ok a _ e)
  exact ⟨o, its.toArray, n, h1, (Prod.mk.inj h2).1, h3, by simpa using items_are r⟩
theorem dt_rd {kvs : List (List Key × V)} (ok : HOk P w H h) (e : Rd H a (.dT kvs)) : kvs.length ≤ sizeLine ∧ (a == sysModules) = false ∧
    ∃ xs, KT H kvs xs ∧ h.DictOfH (tupleKind (mixKind P w)) a xs := by
  obtain ⟨z, y, xs, r, o, es, ep, h1, h2, h3, h4, h5⟩ := (show ObjOk P w H h a (.dT kvs) from rd_of ok e)
  refine ⟨z, y, xs, r, o, es, ep, h1, h2, h3, h4, fun x hx => ?_, h5⟩
  have all : ∀ {l : List (List Key × V)} {m : List (List Key × Addr × Value)}, KT H l m → ∀ x ∈ m, (tupleKind (mixKind P w)).is h x.1 x.2.1 := by
    intro l m q
    induction q with
    | nil => intro x hx; exact nomatch hx
    | @cons p q ps qs hq t ih =>
      intro x hx
      rcases List.mem_cons.mp hx with e | hx
      · subst e
        exact key_of ok (by rw [← hq.1]; exact hq.2.1)
      · exact ih x hx
  exact all r x hx
theorem dt_of {kvs : List (List Key × V)} (ok : HOk P w H h) (e : H a = some (.dT kvs)) : kvs.length ≤ sizeLine ∧ (a == sysModules) = false ∧
    ∃ xs, KT H kvs xs ∧ h.DictOfH (tupleKind (mixKind P w)) a xs := dt_rd ok (.inl e)
end
section
variable {X : Cx} {pins : List (Addr × Obj)} {σ : St} {H : Hp} {s : Shared} {a : Addr} {y v : V} {u r : Value} {o : Option V} {A : Around} {E : Value → Shared → Prop}
theorem Inv.big (I : Inv X pins σ H s) : sysModules < s.heap.objs.size := by
  have h : mainGlobals < s.heap.objs.size := (I.mod.glob.keeps I.bk).lt
  exact Nat.lt_trans (by decide) h
/-- a dict's object is replaced -/
theorem d_write {h' : Heap} {t' : Nat} {ob : HO} (I : Inv X pins σ H s) (mu : Mut (H a)) (hs : Heap.SameBut a s.heap h') (he : ∃ q, h'.get? a = some q) (new : ObjOk X.prog X.w (upd H a ob) h' a ob) :
    Inv X pins σ (upd H a ob) { s with heap := h', toks := t' } :=
  I.write (x := a) (e := a) mu (.inl rfl) (fun b q hb z => (hs.2 b hb).trans z) he new
end
section
variable {X : Cx} {pins : List (Addr × Obj)} {σ : St} {H : Hp} {s : Shared} {a : Addr} {kvs : List (Key × V)} {k : Key} {u : Value} {A : Around} {E : Value → Shared → Prop}
end
/-- the element of a subscription, not a slice -/
def NoSl (i : Expr) : Prop := ∀ ov iv, subscripted i false ov iv = operate [ov, iv] (getItem ov iv)
theorem subD_of {prog : Program} {w : World} {A : Around} {E : Value → Shared → Prop} {s : Shared} {env : Env} {value slice : Expr} {pos : Pos} {T id : String} {Q : Value → Shared → Prop}
    (hl : typeLookup (.type T) "__getitem__" = pure (some (.builtin id))) (hs : NoSl slice)
    (h : wpAny (model prog w) A (eval value env) (fun o s₁ => wpAny (model prog w) A (eval slice env) (fun i s₂ => s₂.TypeIs o T ∧ wpAny (model prog w) A (getItem o i) Q E s₂) E s₁) E s) :
    wpAny (model prog w) A (eval (.Subscript value slice pos) env) Q E s := by
  refine Subscript_ (wpAny_mono h (fun o s₁ h₁ => wpAny_mono h₁ (fun i s₂ h₂ => ?_) fun _ _ x => x) fun _ _ x => x)
  obtain ⟨hT, h₂⟩ := h₂
  unfold subscriptTail
  refine wpAny_bind ?_
  rw [getitemInPython_of_ne hT.not_modules]
  refine wpAny_bind (wpAny_specialOf hT hl ?_)
  have fin : wpAny (model prog w) A (subscripted slice false o i) (fun r s₃ => wpAny (model prog w) A (letTemporaryGo value o r >>= fun _ => pure r) Q E s₃) E s₂ := by
    rw [hs o i]
    exact wpAny_operating (wpAny_mono h₂ (fun r s₃ h₃ => wpAny_bind (wpAny_letTemporaryGo (wpAny_pure h₃))) fun _ _ x => x)
  first
    | exact wpAny_pure (wpAny_bind fin)
    | exact wpAny_bind (wpAny_pure (wpAny_bind fin))
    | exact wpAny_bind fin
section
variable {X : Cx} {o i e value : Expr} {pos pos' tpos : Pos} {td ty tv : TE}
end
theorem dt_empty {P : Program} {w : World} {H : Hp} (h : Heap) (hb : sysModules < h.objs.size) : ObjOk P w H (h.push { cls := .type "dict", data := .dict #[] }) h.objs.size (.dT []) :=
  ⟨Nat.zero_le _, beq_eq_false_iff_ne.mpr (Ne.symm (Nat.ne_of_lt hb)), [], .nil, _, #[], 0, Heap.get?_push_size _ rfl, ⟨rfl, rfl, rfl⟩, rfl, rfl, List.nodup_nil⟩
def tDNewT : TE := fun _ H Q => ∀ p, H p = none → Q (.ref p) (upd H p (.dT []))
section
variable {X : Cx} {pos : Pos}
theorem pe_dnewT : PE X (.Dict [] [] pos) tDNewT := fun pins s σ H Q I h =>
  wpAny_Dict_empty ⟨.ref s.heap.objs.size, _, I.laid (a := s.heap.objs.size) (o := .dT []) (t' := s.toks) (fun _ _ q => Heap.get?_push_of_some _ q) (Nat.le_refl _) (dt_empty s.heap I.big), rfl, h _ (I.hok.fresh (Nat.le_refl _))⟩
end
/-- a method call o.m(e) of a built-in, with one argument: what must be seen of the text -/
structure M1 (X : Cx) (o : Expr) (m : Str) (apos : Pos) (e : Expr) (cpos : Pos) : Prop where
  base : attributeBase o m X.env (eval o X.env) = eval o X.env
  few : ((backTo cpos (starEach [e] X.env)).all (fun x => !x.1) && (backToKw cpos (keywordEach [] X.env)).all (fun x => x.1.isSome)
    && decide (([e] : List Expr).length + ([] : List Keyword).length + (if ([] : List Keyword).isEmpty then 0 else 1) < 30)) = true
  line : (apos.endLine == cpos.line) = true
  trees : backTo cpos (starEach [e] X.env) = [(false, eval e X.env)]
structure M2 (X : Cx) (o : Expr) (m : Str) (apos : Pos) (e f : Expr) (cpos : Pos) : Prop where
  base : attributeBase o m X.env (eval o X.env) = eval o X.env
  few : ((backTo cpos (starEach [e, f] X.env)).all (fun x => !x.1) && (backToKw cpos (keywordEach [] X.env)).all (fun x => x.1.isSome)
    && decide (([e, f] : List Expr).length + ([] : List Keyword).length + (if ([] : List Keyword).isEmpty then 0 else 1) < 30)) = true
  line : (apos.endLine == cpos.line) = true
  trees : backTo cpos (starEach [e, f] X.env) = [(false, eval e X.env), (false, eval f X.env)]
/-- a is a dict, whatever its keys -/
def IsD (H : Hp) (a : Addr) : Prop := (∃ kvs, Rd H a (.dK kvs)) ∨ ∃ kvs, Rd H a (.dT kvs)
theorem isD_at {X : Cx} {pins : List (Addr × Obj)} {σ : St} {H : Hp} {s : Shared} {a : Addr} (I : Inv X pins σ H s) (d : IsD H a) :
    s.TypeIs (.ref a) "dict" ∧ (∀ b, Value.ref a = .ref b → ∃ ob, s.heap.get? b = some ob ∧ ob.dict = none) ∧ (a == sysModules) = false := by
  rcases d with ⟨kvs, e⟩ | ⟨kvs, e⟩
  · obtain ⟨_, hd, vs, _, dd⟩ := dk_rd I.hok e
    refine ⟨dd.typeIs, fun b q => ?_, hd⟩
    cases q
    obtain ⟨ob, _, _, h1, h2, _⟩ := dd
    exact ⟨ob, h1, h2.2.1⟩
  · obtain ⟨_, hd, xs, _, dd⟩ := dt_rd I.hok e
    refine ⟨dd.typeIs, fun b q => ?_, hd⟩
    cases q
    obtain ⟨ob, _, _, h1, h2, _⟩ := dd
    exact ⟨ob, h1, h2.2.1⟩
section
variable {X : Cx} {pins : List (Addr × Obj)} {σ : St} {H : Hp} {s : Shared} {a : Addr} {y d : V} {u r : Value} {o : Option V} {A : Around} {E : Value → Shared → Prop}
end
section
variable {X : Cx} {o e f : Expr} {apos cpos : Pos} {td ty tx : TE}
end
section
variable {X : Cx} {pins : List (Addr × Obj)} {σ : St} {H : Hp} {s : Shared} {a : Addr} {kvs : List (Key × V)} {A : Around} {E : Value → Shared → Prop}
end
section
variable {X : Cx} {pins : List (Addr × Obj)} {σ : St} {H : Hp} {s : Shared} {a : Addr} {y : V} {u : Value} {A : Around} {E : Value → Shared → Prop}
end
end L2
namespace L2
open PySem PySem.Spec PyProof.Rows
section
variable {prog : Program} {w : World} {A : Around} {E : Value → Shared → Prop}
end
section
variable {X : Cx}
end
end L2
namespace L2
open PySem PySem.Spec PyProof.Rows
section
variable {X : Cx} {pins : List (Addr × Obj)} {σ : St} {H : Hp} {s : Shared} {h' : Heap}
/-- .. and one new object is laid -/
theorem Inv.turnedNew {t' : Nat} {ch : List Addr} {T : Addr} {ob : HO} (I : Inv X pins σ H s) (k : ∀ b o, b ∉ ch → s.heap.get? b = some o → h'.get? b = some o) (hf : ∀ b ∈ ch, FpOk X pins H b) (hT : s.heap.objs.size ≤ T)
    (new : ObjOk X.prog X.w (upd H T ob) h' T ob) : Inv X pins σ (upd H T ob) { s with heap := h', toks := t' } := by
  have hn : H T = none := I.hok.fresh hT
  have nit : ∀ b u, H b = some u → b ∉ ch := fun b u e z => by
    have q := (hf b z).1
    rw [q] at e; cases e
  refine I.step (g' := s.gens) (d' := s.drawn) (ch := ch) (fun b hb => ⟨(hf b hb).2.2.2.1, (hf b hb).2.1, (hf b hb).2.2.2.2.1, (hf b hb).2.2.2.2.2⟩) (fun b o _ _ hc e _ => k b o hc e) (fun b o _ _ hc e _ => ⟨o.slots, k b o hc e⟩)
    (fun b o _ e n => ?_) (fun b o hc e => ⟨o, k b o hc e⟩) (fun b xs e => ?_) (fun b o u e => ?_) (fun b ps e => ⟨#[], ?_⟩) (fun m hm => ?_) (fun b u e => ?_) I.bare
  · rw [upd_ne (Nat.ne_of_lt (Nat.lt_of_lt_of_le (Heap.lt_size e) hT))]; exact n
  · rw [upd_ne (ne_of_none e hn)]; exact e
  · rw [upd_ne (ne_of_none e hn)]; exact e
  · rw [upd_ne (ne_of_none e hn), e]; simp
  · obtain ⟨o, es, ep, ho, r⟩ := hm
    exact ⟨o, es, ep, k _ o (fun z => (hf _ z).2.1 rfl) ho, r⟩
  · by_cases hb : b = T
    · subst hb
      rw [upd_same] at e
      cases e
      exact new
    · rw [upd_ne hb] at e
      refine (I.hok b u e).stay (fun c v hc q => k c v ?_ q) (fun c q => by rw [upd_ne (ne_of_none q hn)]; exact q) fun c xs q => by rw [upd_ne (ne_of_none q hn)]; exact q
      rcases hc with z | z
      · rw [z]; exact nit b u e
      · exact nit c _ z
theorem Inv.lock {d : Addr} {u : HO} (I : Inv X pins σ H s) (h : H d = some u) (mu : Mut (some u)) : ∃ od, Inv X pins σ (upd H d (.frz od u)) s := by
  have x := I.hok d u h
  have ex : ∃ od, s.heap.get? d = some od := by
    cases u with
    | lst xs => obtain ⟨_, _, _, _, e⟩ := x; exact ⟨_, e⟩
    | dK kvs => obtain ⟨_, _, _, _, o, _, _, e, _⟩ := x; exact ⟨o, e⟩
    | dT kvs => obtain ⟨_, _, _, _, o, _, _, e, _⟩ := x; exact ⟨o, e⟩
    | set S n => obtain ⟨o, _, _, _, e, _⟩ := x; exact ⟨o, e⟩
    | ins C dx fs => obtain ⟨_, _, _, e, _⟩ := x; exact ⟨_, e⟩
    | ext φ => obtain ⟨_, ⟨_, e⟩, _⟩ := x; exact ⟨_, e⟩
    | _ => exact False.elim mu
  obtain ⟨od, e⟩ := ex
  have new : ObjOk X.prog X.w (upd H d (.frz od u)) s.heap d (.frz od u) := by
    refine ⟨e, x.stay (fun b v _ q => q) (fun b q => ?_) fun b xs q => ?_⟩
    · rw [upd_ne (fun z => by rw [z, h] at q; cases q; exact mu)]; exact q
    · rw [upd_ne (fun z => by rw [z, h] at q; cases q; exact mu)]; exact q
  exact ⟨od, I.write (x := d) (e := d) (t' := s.toks) (h' := s.heap) (by rw [h]; exact mu) (.inl rfl) (fun b v _ q => q) ⟨od, e⟩ new⟩
theorem Inv.nofrz {d : Addr} {u : HO} (I : Inv X pins σ H s) (h : H d = some u) (mu : Mut (some u)) : ∀ o' u', X.H_0 d ≠ some (.frz o' u') := fun o' u' e => by
  have q := I.base.frzs d o' u' e
  rw [h] at q
  cases q
  exact mu
theorem Inv.unlock {d : Addr} {od : Obj} {u : HO} (I : Inv X pins σ H s) (h : H d = some (.frz od u)) (hn : ∀ o' u', X.H_0 d ≠ some (.frz o' u')) : Inv X pins σ (upd H d u) s := by
  have neH : ∀ b o, H b = some o → (∀ o' u', o ≠ .frz o' u') → b ≠ d := fun b o e hne z => by
    rw [z, h] at e
    cases e
    exact hne _ _ rfl
  have neN : ∀ b, H b = none → b ≠ d := fun b e z => by rw [z, h] at e; cases e
  refine ⟨I.ok, I.os, I.bare, ⟨I.base.keep, I.base.slot, fun b o e n hx => ?_, I.base.there, fun b xs e => ?_, fun b o x e => ?_, fun b ps e => ?_⟩, I.loc, I.cell, ?_, fun x c e => ?_, fun p hp => ?_, fun b o e => ?_, I.len⟩
  · rw [upd_ne (neN b (I.base.free b o e n hx))]; exact I.base.free b o e n hx
  · have q := I.base.tups b xs e
    rw [upd_ne (neH b _ q (fun _ _ z => nomatch z))]; exact q
  · have q := I.base.frzs b o x e
    rw [upd_ne (fun z => by rw [z] at e; exact hn _ _ e)]; exact q
  · obtain ⟨m, q⟩ := I.base.tbls b ps e
    exact ⟨m, by rw [upd_ne (neH b _ q (fun _ _ z => nomatch z))]; exact q⟩
  · rw [upd_ne (neN _ I.free)]; exact I.free
  · rw [upd_ne (neN c (I.freeC x c e))]; exact I.freeC x c e
  · obtain ⟨e, n, r⟩ := I.pin p hp
    exact ⟨e, by rw [upd_ne (neN _ n)]; exact n, r⟩
  · by_cases hb : b = d
    · rw [hb, upd_same] at e
      cases e
      rw [hb]
      obtain ⟨_, x⟩ := I.hok d _ h
      exact x.stay (fun c v _ q => q) (fun c q => by rw [upd_ne (neH c _ q (fun _ _ z => nomatch z))]; exact q) fun c xs q => by rw [upd_ne (neH c _ q (fun _ _ z => nomatch z))]; exact q
    · rw [upd_ne hb] at e
      exact (I.hok b o e).stay (fun c v _ q => q) (fun c q => by rw [upd_ne (neH c _ q (fun _ _ z => nomatch z))]; exact q) fun c xs q => by rw [upd_ne (neH c _ q (fun _ _ z => nomatch z))]; exact q
end
/-- the statement runs while the thing at d is locked (read, not written); d and what stands there are the reading's choice -/
def tLock (t : TS) : TS := fun D σ H => ∃ d u, H d = some u ∧ Mut (some u) ∧ ∀ od, t ⟨fun σ' H' => H' d = some (.frz od u) ∧ D.nx σ' (upd H' d u), fun v H' => H' d = some (.frz od u) ∧ D.rt v (upd H' d u), fun σ' H' => H' d = some (.frz od u) ∧ D.bk σ' (upd H' d u), fun σ' H' => H' d = some (.frz od u) ∧ D.ct σ' (upd H' d u)⟩ σ (upd H d (.frz od u))
section
variable {X : Cx}
theorem ps_lock {st : Stmt} {t : TS} (h : PS X st t) : PS X st (tLock t) := by
  intro pins s σ H D I hw
  obtain ⟨d, u, hd, mu, hw⟩ := hw
  obtain ⟨od, I1⟩ := I.lock hd mu
  refine thn (h pins s σ _ _ I1 (hw od)) fun f s1 q => ?_
  cases f with
  | next => obtain ⟨σ', H', I2, e, q⟩ := q; exact ⟨σ', _, I2.unlock e (I.nofrz hd mu), q⟩
  | brk => obtain ⟨σ', H', I2, e, q⟩ := q; exact ⟨σ', _, I2.unlock e (I.nofrz hd mu), q⟩
  | cont => obtain ⟨σ', H', I2, e, q⟩ := q; exact ⟨σ', _, I2.unlock e (I.nofrz hd mu), q⟩
  | ret v => obtain ⟨x, σ', H', I2, r, e, q⟩ := q; exact ⟨x, σ', _, I2.unlock e (I.nofrz hd mu), r, q⟩
theorem pi_one {tg : Expr} {pins : List (Addr × Obj)} {σ : St} {H : Hp} {s : Shared} {R : It → Hp → Prop} {J : It} {tn : Nat → Heap → Prop} {tk : Nat} (I : Inv X pins σ H s) (o : Obj)
    (T : Turn X.prog X.w X.K tg J [s.heap.objs.size] s.heap.objs.size tn) (st : tn 0 (s.heap.push o)) (q : R J H) : PIE X pins σ tg R (.ref s.heap.objs.size) { s with heap := s.heap.push o, toks := tk } := by
  refine ⟨s.heap.objs.size, [s.heap.objs.size], tn, J, H, rfl, I.kept fun b ob e => Heap.get?_push_of_some _ e, T, st, fun b hb => ?_, q⟩
  have e : b = s.heap.objs.size := by simpa using hb
  subst e
  exact I.fpOk (Nat.le_refl _) (I.hok.fresh (Nat.le_refl _))
end
section
variable {X : Cx} {tg : Expr}
end
section
variable {X : Cx} {tg : Expr}
end
section
variable {prog : Program} {w : World} {A : Around} {E : Value → Shared → Prop} {s : Shared}
theorem iter_keys {d : Addr} {o : Obj} {es : Array DictEntry} {ep : Nat} {Q : Value → Shared → Prop} (hd : (d == sysModules) = false) (ho : s.heap.get? d = some o) (hc : o.ExactDict) (hdat : o.data = .dict es ep)
    (hQ : Q (.ref s.heap.objs.size) { s with heap := s.heap.push { cls := .type "dict_keyiterator", data := .fields #[.ref d, .int 0 0, .int es.size 0, .int ep 0] } }) :
    wpAny (model prog w) A (pyIter (.ref d)) Q E s := by
  have hT : s.TypeIs (.ref d) "dict" := ⟨o, ho, hc.1⟩
  refine wpAny_pyIter_slot hT F.slot_dict_iter (wpAny_call_entry F.slot_dict_iter hT F.entry_dict_iter ?_ (F.args_dict_iter_1 _))
  unfold Builtin.«dict.__iter__»
  refine wpAny_bind ?_
  unfold Builtin.Dict.dictSlotNone
  refine wpAny_bind (wpAny_notOrdered_dict hT ?_)
  show wpAny _ _ (pure (Value.ref d)) _ _ s
  refine wpAny_pure ?_
  show wpAny _ _ (Builtin.Dict.showsAll d >>= _) _ _ s
  unfold Builtin.Dict.showsAll
  rw [if_neg (by rw [hd]; exact Bool.false_ne_true)]
  refine wpAny_bind (wpAny_pure ?_)
  refine wpAny_bind (wpAny_dictEntries ho hdat ?_)
  refine wpAny_bind (wpAny_dictEpoch ho hdat ?_)
  refine wpAny_bind (wpAny_newObj_type (wpAny_pure ⟨_, rfl, "dict_keyiterator", _, ⟨_, Heap.get?_push_size _ rfl, rfl⟩, F.slot_dict_keyiterator_next.lookup, ?_⟩))
  simpa [rawInt] using hQ
theorem next_key_item {it d : Addr} {i n ep : Nat} {od : Obj} {es : Array DictEntry} {en : DictEntry} {Q : Option Value → Shared → Prop} (hit : s.heap.IsKeyIter it d i n ep) (hod : s.heap.get? d = some od) (hdd : od.data = .dict es ep)
    (hsz : es.size = n) (hx : es[i]? = some en) (hQ : ∀ h', h'.IsKeyIter it d (i + 1) n ep → Heap.SameBut it s.heap h' → Q (some en.key) { s with heap := h' }) : wpAny (model prog w) A (pyNext (.ref it)) Q E s := by
  obtain ⟨o, ho, hc, hd⟩ := id hit
  unfold pyNext
  refine wpAny_bind (wpAny_attempt (wpAny_callSpecial?_slot (name := Str.ofString "__next__") hit.typeIs F.slot_dict_keyiterator_next
    (wpAny_call_entry F.slot_dict_keyiterator_next hit.typeIs F.entry_dict_keyiterator_next ?_ (F.args_dict_keyiterator_next_1 _))))
  refine wpAny_bind (wpAny_pure ?_)
  refine wpAny_bind ?_
  refine wpAny_bind ?_
  first | refine wpAny_bind (wpAny_typeNameOfWhole_keyiter hit.typeIs (wpAny_pure ?_)) | refine wpAny_bind (wpAny_typeNameOf_keyiter hit.typeIs (wpAny_pure ?_))
  refine wpAny_bind (wpAny_fieldsOf ho hd ?_)
  have hown : Builtin.Dict_items.ownsTuple "dict_keyiterator" = false := by decide
  simp only [hown, Bool.false_eq_true, if_false]
  show wpAny _ _ (if (Value.ref d == Value.none) = true then _ else _) _ _ s
  rw [if_neg (show ¬ ((Value.ref d == Value.none) = true) from Bool.false_ne_true)]
  refine wpAny_bind (wpAny_pure ?_)
  refine wpAny_bind (wpAny_dictEntries hod hdd ?_)
  rw [if_neg (by rw [hsz]; simp)]
  refine wpAny_bind (wpAny_pure ?_)
  refine wpAny_bind (wpAny_dictEpoch hod hdd ?_)
  rw [if_neg (by simp)]
  refine wpAny_pure ?_
  obtain ⟨hlt', hen⟩ := Array.getElem?_eq_some_iff.mp hx
  simp only [show ¬ ((i : Int) < 0) from by omega, if_false, Int.toNat_natCast, Array.getElem?_eq_getElem hlt']
  refine wpAny_bind ?_
  first | refine wpAny_bind (wpAny_typeNameOfWhole_keyiter hit.typeIs (wpAny_pure ?_)) | refine wpAny_bind (wpAny_typeNameOf_keyiter hit.typeIs (wpAny_pure ?_))
  refine wpAny_bind (wpAny_isOneOf_keyiter hit.typeIs ?_)
  show wpAny _ _ (setField (.ref it) 1 (rawInt ((i : Int) + 1)) >>= _) _ _ s
  refine wpAny_bind (wpAny_setField ho hd (by simp) ?_)
  have hit' : (s.heap.update it (Obj.mapFields (·.setIfInBounds 1 (rawInt ((i : Int) + 1))))).IsKeyIter it d (i + 1) n ep :=
    ⟨_, Heap.get?_update_self _ ho (Obj.isFreed_of_fields (Obj.data_mapFields hd _)), (Obj.cls_mapFields ..).trans hc, by rw [Obj.data_mapFields hd]; simp [rawInt]⟩
  refine wpAny_bind (wpAny_holding ?_)
  refine wpAny_bind (wpAny_isOneOf_keyiter (s := { s with heap := s.heap.update it (Obj.mapFields (·.setIfInBounds 1 (rawInt ((i : Int) + 1)))) }) hit'.typeIs ?_)
  show wpAny _ _ (pure es[i].key) _ _ _
  rw [hen]
  exact wpAny_pure (wpAny_pure ⟨_, rfl, wpAny_pure (hQ _ hit' (Heap.SameBut.update ..))⟩)
theorem next_key_end {it d : Addr} {i n ep : Nat} {od : Obj} {es : Array DictEntry} {Q : Option Value → Shared → Prop} (hh : A.handled = none) (hit : s.heap.IsKeyIter it d i n ep) (hod : s.heap.get? d = some od) (hdd : od.data = .dict es ep)
    (hsz : es.size = n) (hge : n ≤ i) (hQ : ∀ h', Heap.ExtBut it s.heap h' → Q none { s with heap := h' }) : wpAny (model prog w) A (pyNext (.ref it)) Q E s := by
  obtain ⟨o, ho, hc, hd⟩ := id hit
  unfold pyNext
  refine wpAny_bind (wpAny_attempt (wpAny_callSpecial?_slot (name := Str.ofString "__next__") hit.typeIs F.slot_dict_keyiterator_next
    (wpAny_call_entry F.slot_dict_keyiterator_next hit.typeIs F.entry_dict_keyiterator_next ?_ (F.args_dict_keyiterator_next_1 _))))
  refine wpAny_bind (wpAny_pure ?_)
  refine wpAny_bind ?_
  refine wpAny_bind ?_
  first | refine wpAny_bind (wpAny_typeNameOfWhole_keyiter hit.typeIs (wpAny_pure ?_)) | refine wpAny_bind (wpAny_typeNameOf_keyiter hit.typeIs (wpAny_pure ?_))
  refine wpAny_bind (wpAny_fieldsOf ho hd ?_)
  have hown : Builtin.Dict_items.ownsTuple "dict_keyiterator" = false := by decide
  simp only [hown, Bool.false_eq_true, if_false]
  show wpAny _ _ (if (Value.ref d == Value.none) = true then _ else _) _ _ s
  rw [if_neg (show ¬ ((Value.ref d == Value.none) = true) from Bool.false_ne_true)]
  refine wpAny_bind (wpAny_pure ?_)
  refine wpAny_bind (wpAny_dictEntries hod hdd ?_)
  rw [if_neg (by rw [hsz]; simp)]
  refine wpAny_bind (wpAny_pure ?_)
  refine wpAny_bind (wpAny_dictEpoch hod hdd ?_)
  rw [if_neg (by simp)]
  refine wpAny_pure ?_
  have hge' : es.size ≤ i := by rw [hsz]; exact hge
  simp only [show ¬ ((i : Int) < 0) from by omega, if_false, Int.toNat_natCast, Array.getElem?_eq_none hge']
  refine wpAny_bind ?_
  first | refine wpAny_bind (wpAny_typeNameOfWhole_keyiter hit.typeIs (wpAny_pure ?_)) | refine wpAny_bind (wpAny_typeNameOf_keyiter hit.typeIs (wpAny_pure ?_))
  show wpAny _ _ (setField (.ref it) 0 .none >>= _) _ _ s
  refine wpAny_bind (wpAny_setField ho hd (by simp) ?_)
  show wpAny _ _ (newExc (.type "StopIteration") [] >>= _) _ _ _
  refine wpAny_bind ?_
  simp only [newExc, newTuple]
  refine wpAny_bind (wpAny_newObj_type ?_ (by size_fits))
  refine wpAny_bind (m := firstArgMember _ _) (wpAny_of_eq (a := Value.none) (by first | rfl | (simp only [firstArgMember]; rfl)) ?_)
  refine wpAny_newObj_type ?_ (by size_fits)
  simp only [raiseNew]
  refine wpAny_bind (wpAny_handled ?_)
  rw [show A.in1.handled = none from hh]
  refine wpAny_bind (wpAny_pure (wpAny_throw ?_))
  refine wpAny_bind (wpAny_isInstance (T := "StopIteration") (b := true) ⟨_, Heap.get?_push_size _ rfl, rfl⟩ isSubtype_stop ?_)
  exact wpAny_pure (hQ _ (((Heap.SameBut.update ..).extBut.push _).push _))
end
theorem paired_get {α β : Type} {G : α → β → Prop} {l₁ : List α} {l₂ : List β} (h : Paired G l₁ l₂) : ∀ {i : Nat} {a : α}, l₁[i]? = some a → ∃ b, l₂[i]? = some b ∧ G a b := by
  induction h with
  | nil => intro i a e; simp at e
  | @cons a b l₁ l₂ r t ih =>
    intro i a' e
    cases i with
    | zero =>
      simp only [List.getElem?_cons_zero, Option.some.injEq] at e
      subst e
      exact ⟨b, rfl, r⟩
    | succ j =>
      simp only [List.getElem?_cons_succ] at e ⊢
      exact ih e
section
variable {X : Cx} {pins : List (Addr × Obj)} {σ : St} {H : Hp} {s : Shared} {d : Addr} {o : Obj}
end
theorem dict_ep {o : Obj} {es es' : Array DictEntry} {ep ep' : Nat} (h : o.data = .dict es ep) (h' : o.data = .dict es' ep') : es' = es ∧ ep' = ep := by
  rw [h] at h'
  cases h'
  exact ⟨rfl, rfl⟩
section
variable {P : Program} {w : World} {K : PySem.W.Frag} {tg : Expr} {d : Addr} {o : Obj} {es : Array DictEntry} {ep : Nat}
end
section
variable {X : Cx} {tg e : Expr} {td : TE} {apos cpos : Pos}
end
/-- the list at a as it stands at each turn, each item in a new pair -/
def Ite (K : PySem.W.Frag) (a : Addr) : It :=
  ⟨fun i H => ∃ (xs : List V) (x : V), SqL K H a xs ∧ xs[i]? = some x, fun i H v H' => ∃ T x, v = .ref T ∧ H T = none ∧ H' = upd H T (.tup [.int (i : Nat), x]) ∧ ∀ xs, SqL K H a xs → xs[i]? = some x, fun i H => ∃ xs : List V, SqL K H a xs ∧ xs.length ≤ i⟩
theorem turn_enum {P : Program} {w : World} {K : PySem.W.Frag} {elts : List Expr} {kk : Nat} {tpos : Pos} (a e it : Addr) :
    Turn P w K (.Tuple elts kk tpos) (Ite K a) [e, it] e (fun i h => (∃ old, IsEnum h e it ((i : Nat) : Int) old) ∧ h.IsListIter it a i ∧ e ≠ it) where
  mem := by simp
  obj := fun i h st b hb => by
    obtain ⟨⟨old, he⟩, ⟨o, ho, hc, hd⟩, _⟩ := st
    have e' : b = e ∨ b = it := by simpa using hb
    rcases e' with z | z
    · rw [z]; exact ⟨_, he, fun v q => nomatch q⟩
    · rw [z]; exact ⟨o, ho, fun v q => by rw [hd] at q; cases q⟩
  keep := fun i h h' st k => let ⟨⟨old, he⟩, hi, hne⟩ := st; ⟨⟨old, k e (by simp) _ he⟩, hi.at fun o q => k it (by simp) o q, hne⟩
  item := by
    intro X hP hw hK hc i pins s σ H E I hf st hg
    subst hP hw hK
    obtain ⟨⟨old, he⟩, hit, hne⟩ := st
    obtain ⟨xs, x, hq, hx⟩ := hg
    obtain ⟨its, rv, p, hz⟩ := I.list hq
    obtain ⟨u, hu, ru⟩ := rv.get hx
    have hel : e < s.heap.objs.size := Heap.lt_size he
    have hil : it < s.heap.objs.size := by obtain ⟨_, q, _⟩ := hit; exact Heap.lt_size q
    refine wpAny_pyNext_enum_item he hit p.isList (x := u) (by simpa using hu) hne fun h' ho hit' hT hsz hk => ?_
    refine ⟨_, rfl, wpAny_letOwnedTupleGo_enum (s := { s with heap := h', toks := s.toks + 1 }) ho fun h'' he' sb => ?_⟩
    have hT2 : h''.get? s.heap.objs.size = some { cls := .type "tuple", data := .seq #[.int i s.toks, u] } := (sb.2 _ (Nat.ne_of_gt hel)).trans hT
    have new : ObjOk X.prog X.w (upd H s.heap.objs.size (.tup [.int (i : Nat), x])) h'' s.heap.objs.size (.tup [.int (i : Nat), x]) :=
      ⟨by show 2 ≤ sizeLine; decide, [.int i s.toks, u], .cons ⟨_, rfl⟩ (.cons ru .nil), ⟨_, hT2, rfl, _, rfl⟩⟩
    have I1 : Inv X pins σ (upd H s.heap.objs.size (.tup [.int (i : Nat), x])) { s with heap := h'', toks := s.toks + 1 } :=
      I.turnedNew (ch := [e, it]) (fun b ob hb q => (sb.2 b (fun z => hb (by simp [z]))).trans (hk b ob (fun z => hb (by simp [z])) (fun z => hb (by simp [z])) q)) hf (Nat.le_refl _) new
    refine ⟨.ref s.heap.objs.size, _, I1, rfl, ⟨_, x, rfl, I.hok.fresh (Nat.le_refl _), rfl, fun ys hy => by rw [I.list_inj hy hq]; exact hx⟩, ⟨⟨u, ?_⟩, hit'.at fun o q => (sb.2 it (Ne.symm hne)).trans q, hne⟩, fun b hb => ?_⟩
    · have e1 : ((i + 1 : Nat) : Int) = (i : Int) + 1 := by omega
      rw [e1]; exact he'
    · have hb' : b < s.heap.objs.size := by
        have e' : b = e ∨ b = it := by simpa using hb
        rcases e' with z | z
        · rw [z]; exact hel
        · rw [z]; exact hil
      rw [upd_ne (Nat.ne_of_lt hb')]
      exact (hf b hb).1
  done := by
    intro X hP hw hK hc i pins s σ H E I hf st hg
    subst hP hw hK
    obtain ⟨⟨old, he⟩, hit, hne⟩ := st
    obtain ⟨xs, hq, hx⟩ := hg
    obtain ⟨its, rv, p, hz⟩ := I.list hq
    obtain ⟨f0, f1, f2, f3, f4, f5⟩ := hf it (by simp)
    have hl := rv.length
    exact wpAny_pyNext_enum_end (I.ok.hd hc) he hit p.isList (by simp; omega) fun h' eb => ⟨rfl, I.turned (t' := s.toks) (fun b o hb q => eb b o hb q) f0 f1 f3 f4 f5⟩
  self := fun A i s Q E st h => let ⟨⟨_, he⟩, _⟩ := st; wpAny_pyIter_enum he h
def iEnum (K : PySem.W.Frag) (ta : TA) : TI := fun σ H R => ta σ H fun vs H1 => ∃ a xs, vs = [.ref a] ∧ SqL K H1 a xs ∧ R (Ite K a) H1
theorem pi_enum {X : Cx} {e : Expr} {ta : TA} {p pos tpos : Pos} {elts : List Expr} {kk : Nat} (hg : Gl X "enumerate") (hm : X.mg "enumerate" = none) (ha : PA X [e] ta) (hs : starEach [e] X.env = [(false, eval e X.env)] := by rfl) :
    PI X (.Tuple elts kk tpos) (.Call (.Name "enumerate" p) [e] [] pos) (iEnum X.K ta) := by
  intro pins s σ H R I h
  refine Call_ (ld_blt I hg hm boot_enumerate (PyProof.Rows.callWith_type1 (thn (ha pos pins s σ H _ I h) fun us s1 ⟨vs, H1, I1, r1, q1⟩ => ?_) hs rfl))
  obtain ⟨a, xs, ex, hq, q⟩ := q1
  subst ex
  cases r1 with
  | cons r rr =>
    cases rr
    cases r
    obtain ⟨its, rv, p', hz⟩ := I1.list hq
    refine call_enumerate_list p'.isList fun h' he hit hsz hk => wpAny_pyIter_enum he ?_
    have I2 : Inv X pins σ H1 { s1 with heap := h' } := I1.kept (t' := s1.toks) hk
    refine ⟨s1.heap.objs.size + 1, [s1.heap.objs.size + 1, s1.heap.objs.size], _, _, H1, rfl, I2, turn_enum a (s1.heap.objs.size + 1) s1.heap.objs.size, ⟨⟨.none, he⟩, hit, Nat.succ_ne_self _⟩, fun b hb => ?_, q⟩
    have e' : b = s1.heap.objs.size + 1 ∨ b = s1.heap.objs.size := by simpa using hb
    have hle : s1.heap.objs.size ≤ b := by
      rcases e' with z | z
      · rw [z]; exact Nat.le_add_right _ _
      · rw [z]; exact Nat.le_refl _
    exact I1.fpOk hle (I1.hok.fresh hle)
end L2
section 
namespace Bits
open PySem PyProof.Rows
end Bits
end 
section 
namespace TL
open PySem PySem.Builtin PySem.Builtin.Str PySem.StrLaws
end TL
end 
namespace L2
open PySem PySem.Spec PyProof.Rows
section
variable {X : Cx} {pins : List (Addr × Obj)} {σ : St} {H : Hp} {s : Shared} {Q : VK}
end
section
variable {X : Cx}
end
section
variable {X : Cx} {o e : Expr} {to te : TE}
end
end L2
namespace L2
open PySem PySem.Spec PyProof.Rows
section
variable {X : Cx}
end
end L2
namespace Att
open PySem PySem.W PySem.Calls PyProof.Rows
section
variable {prog : Program} {w : World} {A : Around} {E : Value → Shared → Prop} {s : Shared} {K : Frag}
end
end Att
namespace L2
open PySem PySem.Spec PyProof.Rows
end L2
namespace L2
open PySem PySem.Spec PyProof.Rows
abbrev KOf {K : PySem.W.Frag} {h : Heap} (_ : K.In h) : PySem.W.Frag := K
end L2
namespace L2
open PySem PySem.Spec PyProof.Rows
/-- the j-th statement of a class's body -/
def inClass (s : Stmt) (j : Nat) : Stmt := match s with
  | .ClassDef _ _ _ body _ _ _ _ _ _ _ => body.getD j (.Pass ⟨0, 0, 0, 0⟩)
  | _ => .Pass ⟨0, 0, 0, 0⟩
def defArgs (s : Stmt) : Arguments := match s with
  | .FunctionDef _ a _ _ _ _ _ _ _ _ => a
  | _ => { posonlyargs := [], args := [], vararg := none, kwonlyargs := [], kw_defaults := [], kwarg := none, defaults := [] }
def defBody (s : Stmt) : List Stmt := match s with
  | .FunctionDef _ _ b _ _ _ _ _ _ _ => b
  | _ => []
def defScope (s : Stmt) : Scope := match s with
  | .FunctionDef _ _ _ _ _ _ sc _ _ _ => sc
  | _ => { kind := .function, names := [], isGenerator := false, isCoroutine := false }
abbrev CX0 : CXT := fun _ _ _ _ _ _ => False
abbrev E0 : XK := fun _ _ _ => False
theorem pass0 {X : Cx} : Passes CX0 X E0 := fun _ _ _ _ _ _ _ h => h.elim
structure Fun (K : PySem.W.Frag) (x qual : Str) (st : Stmt) (f : Addr) (fd : FuncData) : Prop where
  ex : ∃ (oc : Value) (od : Option Addr) (kV doc pm : Value) (an : Option Addr) (cdv ct : Value) (osl : Array (Option Value)),
    fd = PySem.W.fnOf x qual (defArgs st) (defBody st) (defScope st) .none kV doc pm an cdv ct ∧ K.lookup f = some ⟨oc, od, .func fd, osl⟩ ∧ PySem.W.codeIn K cdv qual = true
  kp : PySem.W.keepIn K (.ref f) = true
section
variable {P : Program} {w : World} {K : PySem.W.Frag} {mg : Str → Option Value} {base : Heap}
/-- THE RULE for a def: its body as a term of rules, and the reading of that term -/
theorem Fun.ok {x qual : Str} {st : Stmt} {f : Addr} {fd : FuncData} {N ps : List Str} {k : Nat} {sp : Sp} (F : Fun K x qual st f fd) (S : FnScope N ps (defScope st)) (len : ∀ vs H Q E, sp vs H Q E → vs.length = ps.length)
    (hbody : ∀ (cdv : Value) (A : Around) (outer : List Env) (s : Shared) (H : Hp) (vs : List V) (Q : VK) (E : XK), Room k (A.deeper (envOfC qual (defScope st) s.heap.objs.size f cdv)) → sp vs H Q E →
      ∃ t, PSs (cxOf CX0 P w K mg base N qual (defScope st) f cdv A outer s H E).nox (defBody st) t ∧ t { nx := fun _ H' => Q .non H', rt := Q } (start N vs) H) : FnOk P w K mg base CX0 (k + 1) f fd ps sp := by
  obtain ⟨oc, od, kV, doc, pm, an, cdv, ct, osl, rfl, lk, hcd⟩ := F.ex
  refine fn_of lk hcd S len fun A outer s H vs Q E hr hsp => ?_
  obtain ⟨t, h, q⟩ := hbody cdv A outer s H vs Q E hr hsp
  exact ⟨t, h.nox, q⟩
/-- how its arguments bind (no defaults): h is «fun _ _ _ _ _ _ us hl => match us, hl with | [_, _], _ => rfl», one _ a parameter -/
theorem Fun.binds {x qual : Str} {st : Stmt} {f : Addr} {fd : FuncData} {ps : List Str} (F : Fun K x qual st f fd)
    (h : ∀ (kV doc pm : Value) (an : Option Addr) (cdv ct : Value) (us : List Value), us.length = ps.length → bindArgs (PySem.W.fnOf x qual (defArgs st) (defBody st) (defScope st) .none kV doc pm an cdv ct) ⟨us, []⟩ = pure (ps.zip us)) : Binds K fd ps [] := by
  obtain ⟨oc, od, kV, doc, pm, an, cdv, ct, osl, rfl, lk, hcd⟩ := F.ex
  exact .all (h kV doc pm an cdv ct)
theorem fun_mk {x qual : Str} {st : Stmt} {f : Addr} {oc : Value} {od an : Option Addr} {osl : Array (Option Value)} {kV doc pm cdv ct : Value} (l : K.lookup f = some ⟨oc, od, .func (PySem.W.fnOf x qual (defArgs st) (defBody st) (defScope st) .none kV doc pm an cdv ct), osl⟩)
    (c : PySem.W.codeIn K cdv qual = true) (k : PySem.W.keepIn K (.ref f) = true) : Fun K x qual st f (PySem.W.fnOf x qual (defArgs st) (defBody st) (defScope st) .none kV doc pm an cdv ct) := ⟨⟨oc, od, kV, doc, pm, an, cdv, ct, osl, rfl, l, c⟩, k⟩
end
theorem hu_of {A : Around} {k : Nat} (hr : Room k A) : A.units + 1 < cLine := Nat.lt_of_le_of_lt (Nat.add_le_add_left (by decide : 1 ≤ 64) _) hr.units
section
variable {X : Cx}
theorem pv (i : Nat) {x : Str} {pos : Pos} (hN : X.N[i]? = some x := by rfl) (hv : Vis X.env.scope x := by first | exact Or.inl rfl | exact Or.inr (Or.inl rfl) | exact Or.inr (Or.inr rfl)) (hd : (x == ("__debug__" : Str)) = false := by decide)
    (hcd : (x == ("__classdict__" : Str)) = false := by decide) : PE X (.Name x pos) (tVar i) := pe_var hN hv hd hcd
end
theorem ite2 {c A B : Prop} [Decidable c] (h1 : c → A) (h2 : ¬ c → B) : if c then A else B := by
  by_cases h : c
  · rw [if_pos h]
    exact h1 h
  · rw [if_neg h]
    exact h2 h
/-- all that was tracked is as it was -/
def Same (H H' : Hp) : Prop := ∀ b o, H b = some o → H' b = some o
theorem Same.trans {H H1 H2 : Hp} (a : Same H H1) (b : Same H1 H2) : Same H H2 := fun c o h => b c o (a c o h)
theorem Same.free {H H' : Hp} (e : Same H H') {l : Addr} (h : H' l = Option.none) : H l = Option.none := by
  cases q : H l with
  | none => rfl
  | some o =>
    rw [e l o q] at h
    cases h
theorem Same.seq {K : PySem.W.Frag} {H H' : Hp} {a : Addr} {xs : List V} (e : Same H H') (h : SqL K H a xs) : SqL K H' a xs := by
  rcases h with (h | ⟨o, h⟩) | h
  · exact .inl (.inl (e _ _ h))
  · exact .inl (.inr ⟨o, e _ _ h⟩)
  · exact .inr h
section
variable {κ : Type} [DecidableEq κ]
end
theorem at_of {xs : List V} {z : Int} {j : Nat} {v : V} (e : z = (j : Int)) (h : xs[j]? = some v) : atI xs z = some v := by
  rw [e]
  exact atI_nat h
/-- a new instance and its __init__ leave all that was tracked as it was -/
theorem Same.made {H H1 : Hp} {x dx C : Addr} (nx : H x = Option.none) (nd : H dx = Option.none) (k : ∀ b o, (upd (upd H dx (.own x)) x (.ins C dx [])) b = some o → b ≠ x → H1 b = some o) : Same H H1 := fun b o e =>
  k b o (by rw [upd_ne (ne_of_none e nx), upd_ne (ne_of_none e nd)]; exact e) (ne_of_none e nx)
end L2
end
section
set_option Elab.async false
set_option linter.all false
set_option maxRecDepth 100000
set_option maxHeartbeats 2000000
namespace L2
open PySem PySem.Spec PyProof.Rows
open PySem.W (WData Codec OpenSpec Well WellAll ReadsW ReadsAllW)
mutual
/-- x stands for the datum d, lists and tuples all the way -/
inductive Dw (K : PySem.W.Frag) (H : Hp) : V → WData → Prop
  | non : Dw K H .non .none
  | bl (b : Bool) : Dw K H (.bl b) (.bool b)
  | int (i : Int) : Dw K H (.int i) (.int i)
  | str (x : Str) : Dw K H (.str x) (.str x)
  | byt (b : Array UInt8) : Dw K H (.byt b) (.bytes b.toList)
  | lst {a : Addr} {xs : List V} {ds : List WData} : SqL K H a xs → DwAll K H xs ds → Dw K H (.ref a) (.list ds)
  | tup {a : Addr} {xs : List V} {ds : List WData} : SqT K H a xs → DwAll K H xs ds → Dw K H (.ref a) (.tuple ds)
inductive DwAll (K : PySem.W.Frag) (H : Hp) : List V → List WData → Prop
  | nil : DwAll K H [] []
  | cons {v : V} {vs : List V} {d : WData} {ds : List WData} : Dw K H v d → DwAll K H vs ds → DwAll K H (v :: vs) (d :: ds)
end
theorem dw_ints {K : PySem.W.Frag} {H : Hp} : ∀ ns : List Int, DwAll K H (ns.map V.int) (ns.map WData.int)
  | [] => .nil
  | n :: r => .cons (.int n) (dw_ints r)
theorem ints_dw {K : PySem.W.Frag} {H : Hp} : ∀ (ns : List Int) (xs : List V), DwAll K H xs (ns.map WData.int) → xs = ns.map V.int
  | [], xs, h => by
    cases h
    rfl
  | n :: r, xs, h => by
    cases h with
    | cons h1 h2 =>
      cases h1
      rw [ints_dw r _ h2] <;> rfl
section
variable {P : Program} {w : World} {K : PySem.W.Frag} {H : Hp} {h : Heap} {R : PySem.W.WRecords} {cl : Str → Option Addr}
theorem sqL_at {a : Addr} {xs : List V} (hok : HOk P w H h) (KX : K.In h) (q : SqL K H a xs) : ∃ (its : List Value) (o : Obj) (n : Nat), Vals xs its ∧ h.get? a = some o ∧ o.cls = .type "list" ∧ o.data = .seq its.toArray n := by
  rcases q with q | ⟨o, its, n, e, hc, _, hd, _, hv⟩
  · obtain ⟨_, its, n, hv, e⟩ := (show ObjOk P w H h a (.lst xs) from q.ok hok)
    exact ⟨its, _, n, hv, e, rfl, rfl⟩
  · exact ⟨its.toList, o, n, hv, KX _ _ e, hc, by simp [hd]⟩
theorem sqT_at {a : Addr} {xs : List V} (hok : HOk P w H h) (KX : K.In h) (q : SqT K H a xs) : ∃ (its : List Value) (o : Obj) (n : Nat), Vals xs its ∧ h.get? a = some o ∧ o.cls = .type "tuple" ∧ o.data = .seq its.toArray n := by
  rcases q with q | ⟨o, its, n, e, hc, hd, _, hv⟩
  · obtain ⟨_, its, hv, o, e, hc, n, hd⟩ := (show ObjOk P w H h a (.tup xs) from q.ok hok)
    exact ⟨its, o, n, hv, e, (Prod.mk.inj hc).1, hd⟩
  · exact ⟨its.toList, o, n, hv, KX _ _ e, hc, by simp [hd]⟩
mutual
theorem Dw.reads (hok : HOk P w H h) (KX : K.In h) : ∀ (d : WData) (v : V) (u : Value), Dw K H v d → RelV v u → ∃ as, ReadsW R cl h u d as
  | .none, _, _, x, r => by
    cases x
    cases r
    exact ⟨_, ReadsW.none⟩
  | .bool b, _, _, x, r => by
    cases x
    cases r
    exact ⟨_, ReadsW.bool b⟩
  | .int i, _, _, x, r => by
    cases x
    obtain ⟨t, rfl⟩ := r
    exact ⟨_, ReadsW.int i t⟩
  | .str s, _, _, x, r => by
    cases x
    obtain ⟨t, rfl⟩ := r
    exact ⟨_, ReadsW.str s t⟩
  | .bytes b, _, _, x, r => by
    cases x
    obtain ⟨t, rfl⟩ := r
    exact ⟨_, ReadsW.bytes _ t⟩
  | .list ds, _, _, x, r => by
    cases x with
    | lst hs ha =>
      cases r
      obtain ⟨its, o, n, rv, ho, hc, hd⟩ := sqL_at hok KX hs
      obtain ⟨as, hr⟩ := Dw.readsAll hok KX ds _ its ha rv
      exact ⟨_, ReadsW.list ho hc hd hr⟩
  | .tuple ds, _, _, x, r => by
    cases x with
    | tup hs ha =>
      cases r
      obtain ⟨its, o, n, rv, ho, hc, hd⟩ := sqT_at hok KX hs
      obtain ⟨as, hr⟩ := Dw.readsAll hok KX ds _ its ha rv
      exact ⟨_, ReadsW.tuple ho hc hd hr⟩
  | .float _, _, _, x, _ => by cases x
  | .dict _, _, _, x, _ => by cases x
  | .bytearray _, _, _, x, _ => by cases x
  | .set _, _, _, x, _ => by cases x
  | .frozenset _, _, _, x, _ => by cases x
  | .obj _ _, _, _, x, _ => by cases x
theorem Dw.readsAll (hok : HOk P w H h) (KX : K.In h) : ∀ (ds : List WData) (vs : List V) (us : List Value), DwAll K H vs ds → Vals vs us → ∃ as, ReadsAllW R cl h us ds as
  | [], _, _, x, r => by
    cases x
    cases r
    exact ⟨_, ReadsAllW.nil⟩
  | d :: ds, _, _, x, r => by
    cases x with
    | cons h1 h2 =>
      cases r with
      | cons r1 r2 =>
        obtain ⟨as, q1⟩ := Dw.reads hok KX d _ _ h1 r1
        obtain ⟨bs, q2⟩ := Dw.readsAll hok KX ds _ _ h2 r2
        exact ⟨_, ReadsAllW.cons q1 q2⟩
end
end
mutual
/-- data that a codec tells -/
def plW : WData → Bool
  | .none => true
  | .bool _ => true
  | .int _ => true
  | .str _ => true
  | .bytes _ => true
  | .list xs => plWs xs
  | .tuple xs => plWs xs
  | _ => false
def plWs : List WData → Bool
  | [] => true
  | x :: r => plW x && plWs r
end
theorem plWs_map {α : Type} {f : α → WData} (h : ∀ a, plW (f a) = true) : ∀ l : List α, plWs (l.map f) = true
  | [] => rfl
  | x :: r => by
    show (plW (f x) && plWs (r.map f)) = true
    rw [h x, plWs_map h r] <;> rfl
theorem pl_enc : ∀ (c : Codec) (a : c.denote), plW (c.enc a) = true
  | .unit, _ => rfl
  | .bool, _ => rfl
  | .int _ _, _ => rfl
  | .nat _ _, _ => rfl
  | .u8, _ => rfl
  | .bytes _ _, _ => rfl
  | .text _ _ _ _, _ => rfl
  | .list _ _ c, a => plWs_map (fun x => pl_enc c x) a
  | .pair c d, a => by
    show (plW (c.enc a.1) && (plW (d.enc a.2) && true)) = true
    rw [pl_enc c a.1, pl_enc d a.2] <;> rfl
  | .triple c d e, a => by
    show (plW (c.enc a.1) && (plW (d.enc a.2.1) && (plW (e.enc a.2.2) && true))) = true
    rw [pl_enc c a.1, pl_enc d a.2.1, pl_enc e a.2.2] <;> rfl
  | .option c, none => rfl
  | .option c, some x => pl_enc c x
theorem pl_encAll : ∀ (cs : List Codec) (a : Codec.denoteAll cs), plWs (Codec.encAll cs a) = true
  | [], _ => rfl
  | c :: cs, a => by
    show (plW (c.enc a.1) && plWs (Codec.encAll cs a.2)) = true
    rw [pl_enc c a.1, pl_encAll cs a.2] <;> rfl
theorem weight_mem : ∀ {xs : List WData} {d : WData}, d ∈ xs → d.weight ≤ WData.weightAll xs
  | [], d, h => absurd h (by simp)
  | x :: r, d, h => by
    show d.weight ≤ x.weight + 1 + WData.weightAll r
    rcases List.mem_cons.mp h with e | m
    · rw [e]
      omega
    · have z := weight_mem m
      omega
def toV : Value → V
  | .none => .non
  | .bool b => .bl b
  | .int i _ => .int i
  | .str x _ => .str x
  | .bytes b _ => .byt b
  | .ref a => .ref a
  | _ => .non
/-- a value of the arguments, its objects among A -/
def OkU (A : List Addr) : Value → Prop
  | .none => True
  | .bool _ => True
  | .int _ _ => True
  | .str _ _ => True
  | .bytes _ _ => True
  | .ref a => a ∈ A
  | _ => False
theorem OkU.mono {A B : List Addr} (h : ∀ a ∈ A, a ∈ B) : ∀ {u : Value}, OkU A u → OkU B u := fun {u} x => by
  cases u with
  | ref a => exact h a x
  | none => trivial
  | bool b => trivial
  | int i t => trivial
  | str s t => trivial
  | bytes b t => trivial
  | _ => exact False.elim x
theorem relV_toV {A : List Addr} {u : Value} (x : OkU A u) : RelV (toV u) u := by
  cases u with
  | ref a => rfl
  | none => rfl
  | bool b => rfl
  | int i t => exact ⟨t, rfl⟩
  | str s t => exact ⟨t, rfl⟩
  | bytes b t => exact ⟨t, rfl⟩
  | _ => exact False.elim x
theorem vals_toV {A : List Addr} : ∀ {vs : List Value}, (∀ u ∈ vs, OkU A u) → Vals (vs.map toV) vs
  | [], _ => .nil
  | u :: r, h => .cons (relV_toV (h u (List.mem_cons_self ..))) (vals_toV fun x hx => h x (List.mem_cons_of_mem _ hx))
/-- an object of the arguments -/
def ArgOb (h : Heap) (A : List Addr) (a : Addr) : Prop := ∃ vs : List Value, vs.length ≤ sizeLine ∧ (∀ u ∈ vs, OkU A u) ∧
  (h.get? a = some { cls := .type "list", data := .seq vs.toArray } ∨ h.get? a = some { cls := .type "tuple", data := .seq vs.toArray })
theorem ArgOb.mono {h : Heap} {A B : List Addr} {a : Addr} (k : ∀ a ∈ A, a ∈ B) (x : ArgOb h A a) : ArgOb h B a := by
  obtain ⟨vs, h1, h2, h3⟩ := x
  exact ⟨vs, h1, fun u hu => (h2 u hu).mono k, h3⟩
theorem wellAll_len {P : Params} {h : Heap} : ∀ {vs : List Value} {ds : List WData}, WellAll P h vs ds → vs.length = ds.length
  | _, _, .nil => rfl
  | _, _, .cons _ b => by
    show _ + 1 = _ + 1
    rw [wellAll_len b]
theorem well_list {P : Params} {h : Heap} {v : Value} {ds : List WData} (x : Well P h v (.list ds)) : ∃ (a : Addr) (vs : List Value), v = .ref a ∧ h.get? a = some { cls := .type "list", data := .seq vs.toArray } ∧ WellAll P h vs ds := by
  cases x with
  | list ho hall => exact ⟨_, _, rfl, ho, hall⟩
theorem well_tuple {P : Params} {h : Heap} {v : Value} {ds : List WData} (x : Well P h v (.tuple ds)) : ∃ (a : Addr) (vs : List Value), v = .ref a ∧ h.get? a = some { cls := .type "tuple", data := .seq vs.toArray } ∧ WellAll P h vs ds := by
  cases x with
  | tuple ho hall => exact ⟨_, _, rfl, ho, hall⟩
theorem well_cons {P : Params} {h : Heap} {us : List Value} {d : WData} {ds : List WData} (x : WellAll P h us (d :: ds)) : ∃ (v : Value) (vs : List Value), us = v :: vs ∧ Well P h v d ∧ WellAll P h vs ds := by
  cases x with
  | cons a b => exact ⟨_, _, rfl, a, b⟩
theorem line_of {n : Nat} (h : n ≤ 1048576) : n ≤ sizeLine := Nat.le_trans h (by decide)
section
variable {P : Params} {h : Heap}
mutual
theorem area_one : ∀ (d : WData) (v : Value), Well P h v d → plW d = true → d.weight ≤ 1048576 → ∃ A : List Addr, OkU A v ∧ ∀ a ∈ A, ArgOb h A a
  | .none, _, x, _, _ => by
    cases x
    exact ⟨[], trivial, fun a m => absurd m (by simp)⟩
  | .bool b, _, x, _, _ => by
    cases x
    exact ⟨[], trivial, fun a m => absurd m (by simp)⟩
  | .int i, _, x, _, _ => by
    cases x
    exact ⟨[], trivial, fun a m => absurd m (by simp)⟩
  | .str s, _, x, _, _ => by
    cases x
    exact ⟨[], trivial, fun a m => absurd m (by simp)⟩
  | .bytes b, _, x, _, _ => by
    cases x
    exact ⟨[], trivial, fun a m => absurd m (by simp)⟩
  | .list ds, _, x, p, z => by
    obtain ⟨a, vs, rfl, ho, hall⟩ := well_list x
    have z2 : WData.weightAll ds ≤ 1048576 := z
    obtain ⟨A, h1, h2⟩ := area_all ds _ hall p fun d hd => Nat.le_trans (weight_mem hd) z2
    have k : ∀ b ∈ A, b ∈ a :: A := fun b hb => List.mem_cons_of_mem _ hb
    refine ⟨a :: A, List.mem_cons_self .., fun b hb => ?_⟩
    rcases List.mem_cons.mp hb with e | m
    · rw [e]
      exact ⟨vs, line_of (by rw [wellAll_len hall]; exact Nat.le_trans (PySem.W.length_le_weightAllW ds) z2), fun u hu => (h1 u hu).mono k, .inl ho⟩
    · exact (h2 b m).mono k
  | .tuple ds, _, x, p, z => by
    obtain ⟨a, vs, rfl, ho, hall⟩ := well_tuple x
    have z2 : WData.weightAll ds ≤ 1048576 := z
    obtain ⟨A, h1, h2⟩ := area_all ds _ hall p fun d hd => Nat.le_trans (weight_mem hd) z2
    have k : ∀ b ∈ A, b ∈ a :: A := fun b hb => List.mem_cons_of_mem _ hb
    refine ⟨a :: A, List.mem_cons_self .., fun b hb => ?_⟩
    rcases List.mem_cons.mp hb with e | m
    · rw [e]
      exact ⟨vs, line_of (by rw [wellAll_len hall]; exact Nat.le_trans (PySem.W.length_le_weightAllW ds) z2), fun u hu => (h1 u hu).mono k, .inr ho⟩
    · exact (h2 b m).mono k
  | .float _, _, _, p, _ => Bool.noConfusion (show false = true from p)
  | .dict _, _, _, p, _ => Bool.noConfusion (show false = true from p)
  | .bytearray _, _, _, p, _ => Bool.noConfusion (show false = true from p)
  | .set _, _, _, p, _ => Bool.noConfusion (show false = true from p)
  | .frozenset _, _, _, p, _ => Bool.noConfusion (show false = true from p)
  | .obj _ _, _, _, p, _ => Bool.noConfusion (show false = true from p)
theorem area_all : ∀ (ds : List WData) (vs : List Value), WellAll P h vs ds → plWs ds = true → (∀ d ∈ ds, d.weight ≤ 1048576) → ∃ A : List Addr, (∀ u ∈ vs, OkU A u) ∧ ∀ a ∈ A, ArgOb h A a
  | [], _, x, _, _ => by
    cases x
    exact ⟨[], fun u m => absurd m (by simp), fun a m => absurd m (by simp)⟩
  | d :: ds, _, x, p, z => by
    obtain ⟨v, vs, rfl, x1, x2⟩ := well_cons x
    have q : plW d = true ∧ plWs ds = true := Bool.and_eq_true_iff.mp p
    obtain ⟨A, a1, a2⟩ := area_one d v x1 q.1 (z d (List.mem_cons_self ..))
    obtain ⟨B, b1, b2⟩ := area_all ds vs x2 q.2 fun e he => z e (List.mem_cons_of_mem _ he)
    have kA : ∀ b ∈ A, b ∈ A ++ B := fun b hb => List.mem_append.mpr (.inl hb)
    have kB : ∀ b ∈ B, b ∈ A ++ B := fun b hb => List.mem_append.mpr (.inr hb)
    refine ⟨A ++ B, fun u hu => ?_, fun b hb => ?_⟩
    · rcases List.mem_cons.mp hu with e | m
      · rw [e]
        exact a1.mono kA
      · exact (b1 u m).mono kB
    · rcases List.mem_append.mp hb with m | m
      · exact (a2 b m).mono kA
      · exact (b2 b m).mono kB
end
end
/-- what is tracked of an argument's object -/
def hoOf (o : Obj) : Option HO := match o.data with
  | .seq vs _ => if (o.cls == Value.type "list") = true then some (.frz o (.lst (vs.toList.map toV))) else some (.frz o (.tup (vs.toList.map toV)))
  | _ => none
def argH (K : PySem.W.Frag) (h : Heap) (A : List Addr) : Hp := fun b => if b ∈ A then (if (K.lookup b).isNone = true then (h.get? b).bind hoOf else none) else none
/-- nothing is tracked but what is known to the object -/
def OnlyF (H : Hp) : Prop := ∀ b, H b = none ∨ ∃ o u, H b = some (.frz o u)
theorem hoOf_lst (vs : List Value) : hoOf { cls := .type "list", data := .seq vs.toArray } = some (.frz { cls := .type "list", data := .seq vs.toArray } (.lst (vs.map toV))) := by
  show (if (Value.type "list" == Value.type "list") = true then some (HO.frz { cls := .type "list", data := .seq vs.toArray } (.lst (vs.toArray.toList.map toV))) else some (HO.frz { cls := .type "list", data := .seq vs.toArray } (.tup (vs.toArray.toList.map toV)))) = _
  rw [if_pos (beq_self_eq_true _)]
theorem hoOf_tup (vs : List Value) : hoOf { cls := .type "tuple", data := .seq vs.toArray } = some (.frz { cls := .type "tuple", data := .seq vs.toArray } (.tup (vs.map toV))) := by
  show (if (Value.type "tuple" == Value.type "list") = true then some (HO.frz { cls := .type "tuple", data := .seq vs.toArray } (.lst (vs.toArray.toList.map toV))) else some (HO.frz { cls := .type "tuple", data := .seq vs.toArray } (.tup (vs.toArray.toList.map toV)))) = _
  rw [if_neg (by decide)]
section
variable {P : Program} {w : World} {K : PySem.W.Frag} {h : Heap} {A : List Addr}
theorem argH_at {b : Addr} {o : Obj} (hb : b ∈ A) (hk : K.lookup b = none) (e : h.get? b = some o) : argH K h A b = hoOf o := by
  unfold argH
  rw [if_pos hb, hk, if_pos (show (none : Option Obj).isNone = true from rfl), e] <;> rfl
theorem of_argH {b : Addr} {u : HO} (q : argH K h A b = some u) : b ∈ A ∧ K.lookup b = none := by
  unfold argH at q
  by_cases hb : b ∈ A
  · rw [if_pos hb] at q
    cases hk : K.lookup b with
    | none => exact ⟨hb, rfl⟩
    | some o =>
      rw [hk, if_neg (by simp)] at q
      cases q
  · rw [if_neg hb] at q
    cases q
/-- what stands tracked -/
theorem argH_is (ar : ∀ a ∈ A, ArgOb h A a) {b : Addr} {u : HO} (q : argH K h A b = some u) : K.lookup b = none ∧ ∃ vs : List Value, vs.length ≤ sizeLine ∧ (∀ u ∈ vs, OkU A u) ∧
    ((h.get? b = some { cls := .type "list", data := .seq vs.toArray } ∧ u = .frz { cls := .type "list", data := .seq vs.toArray } (.lst (vs.map toV))) ∨
     (h.get? b = some { cls := .type "tuple", data := .seq vs.toArray } ∧ u = .frz { cls := .type "tuple", data := .seq vs.toArray } (.tup (vs.map toV)))) := by
  obtain ⟨hb, hk⟩ := of_argH q
  obtain ⟨vs, h1, h2, h3⟩ := ar b hb
  refine ⟨hk, vs, h1, h2, ?_⟩
  rcases h3 with e | e
  · rw [argH_at hb hk e, hoOf_lst] at q
    exact .inl ⟨e, (Option.some.inj q).symm⟩
  · rw [argH_at hb hk e, hoOf_tup] at q
    exact .inr ⟨e, (Option.some.inj q).symm⟩
theorem argH_only (ar : ∀ a ∈ A, ArgOb h A a) : OnlyF (argH K h A) := fun b => by
  cases q : argH K h A b with
  | none => exact .inl rfl
  | some u =>
    obtain ⟨_, vs, _, _, ⟨_, e⟩ | ⟨_, e⟩⟩ := argH_is ar q
    · exact .inr ⟨_, _, by rw [e]⟩
    · exact .inr ⟨_, _, by rw [e]⟩
theorem argH_ok (ar : ∀ a ∈ A, ArgOb h A a) : HOk P w (argH K h A) h := fun b u q => by
  obtain ⟨_, vs, h1, h2, ⟨e, rfl⟩ | ⟨e, rfl⟩⟩ := argH_is ar q
  · exact ⟨e, by rw [List.length_map]; exact h1, vs, _, vals_toV h2, e⟩
  · exact ⟨e, by rw [List.length_map]; exact h1, vs, vals_toV h2, _, e, rfl, _, rfl⟩
theorem seq_inj {c c' : Value} {vs us : List Value} (e : (some { cls := c, data := .seq vs.toArray } : Option Obj) = some { cls := c', data := .seq us.toArray }) : c = c' ∧ vs = us := by
  have e1 := Option.some.inj e
  have e2 : c = c' := congrArg Obj.cls e1
  have e3 : Data.seq vs.toArray = Data.seq us.toArray := congrArg Obj.data e1
  injection e3 with e4
  refine ⟨e2, ?_⟩
  have e5 := congrArg Array.toList e4
  simpa using e5
/-- a list argument -/
theorem argL (KX : K.In h) (ar : ∀ a ∈ A, ArgOb h A a) {a : Addr} {vs : List Value} (ha : a ∈ A) (e : h.get? a = some { cls := .type "list", data := .seq vs.toArray }) : (∀ u ∈ vs, OkU A u) ∧ SqL K (argH K h A) a (vs.map toV) := by
  obtain ⟨us, h1, h2, h3⟩ := ar a ha
  have hu : us = vs := by
    rcases h3 with q | q
    · rw [e] at q
      exact (seq_inj q).2.symm
    · rw [e] at q
      exact absurd (Value.type.inj (seq_inj q).1) (by decide)
  subst hu
  refine ⟨h2, ?_⟩
  cases hk : K.lookup a with
  | none => exact .inl (.inr ⟨_, by rw [argH_at ha hk e, hoOf_lst]⟩)
  | some o =>
    have e2 := KX a o hk
    rw [e] at e2
    obtain rfl := Option.some.inj e2
    exact .inr ⟨_, us.toArray, _, hk, rfl, rfl, rfl, by rw [List.size_toArray]; exact h1, by simpa using vals_toV h2⟩
theorem argT (KX : K.In h) (ar : ∀ a ∈ A, ArgOb h A a) {a : Addr} {vs : List Value} (ha : a ∈ A) (e : h.get? a = some { cls := .type "tuple", data := .seq vs.toArray }) : (∀ u ∈ vs, OkU A u) ∧ SqT K (argH K h A) a (vs.map toV) := by
  obtain ⟨us, h1, h2, h3⟩ := ar a ha
  have hu : us = vs := by
    rcases h3 with q | q
    · rw [e] at q
      exact absurd (Value.type.inj (seq_inj q).1) (by decide)
    · rw [e] at q
      exact (seq_inj q).2.symm
  subst hu
  refine ⟨h2, ?_⟩
  cases hk : K.lookup a with
  | none => exact .inl (.inr ⟨_, by rw [argH_at ha hk e, hoOf_tup]⟩)
  | some o =>
    have e2 := KX a o hk
    rw [e] at e2
    obtain rfl := Option.some.inj e2
    exact .inr ⟨_, us.toArray, _, hk, rfl, rfl, by rw [List.size_toArray]; exact h1, by simpa using vals_toV h2⟩
mutual
theorem dw_one {Pm : Params} (KX : K.In h) (ar : ∀ a ∈ A, ArgOb h A a) : ∀ (d : WData) (v : Value), Well Pm h v d → plW d = true → OkU A v → Dw K (argH K h A) (toV v) d
  | .none, _, x, _, _ => by
    cases x
    exact .non
  | .bool b, _, x, _, _ => by
    cases x
    exact .bl b
  | .int i, _, x, _, _ => by
    cases x
    exact .int i
  | .str s, _, x, _, _ => by
    cases x
    exact .str s
  | .bytes b, _, x, _, _ => by
    cases x
    have z := Dw.byt (K := K) (H := argH K h A) b.toArray
    exact z
  | .list ds, _, x, p, hu => by
    obtain ⟨a, vs, rfl, ho, hall⟩ := well_list x
    obtain ⟨h2, hs⟩ := argL KX ar hu ho
    exact .lst hs (dw_all KX ar ds _ hall p h2)
  | .tuple ds, _, x, p, hu => by
    obtain ⟨a, vs, rfl, ho, hall⟩ := well_tuple x
    obtain ⟨h2, hs⟩ := argT KX ar hu ho
    exact .tup hs (dw_all KX ar ds _ hall p h2)
  | .float _, _, _, p, _ => Bool.noConfusion (show false = true from p)
  | .dict _, _, _, p, _ => Bool.noConfusion (show false = true from p)
  | .bytearray _, _, _, p, _ => Bool.noConfusion (show false = true from p)
  | .set _, _, _, p, _ => Bool.noConfusion (show false = true from p)
  | .frozenset _, _, _, p, _ => Bool.noConfusion (show false = true from p)
  | .obj _ _, _, _, p, _ => Bool.noConfusion (show false = true from p)
theorem dw_all {Pm : Params} (KX : K.In h) (ar : ∀ a ∈ A, ArgOb h A a) : ∀ (ds : List WData) (vs : List Value), WellAll Pm h vs ds → plWs ds = true → (∀ u ∈ vs, OkU A u) → DwAll K (argH K h A) (vs.map toV) ds
  | [], _, x, _, _ => by
    cases x
    exact .nil
  | d :: ds, _, x, p, hu => by
    obtain ⟨v, vs, rfl, x1, x2⟩ := well_cons x
    have q : plW d = true ∧ plWs ds = true := Bool.and_eq_true_iff.mp p
    exact .cons (dw_one KX ar d v x1 q.1 (hu _ (List.mem_cons_self ..))) (dw_all KX ar ds vs x2 q.2 fun u m => hu u (List.mem_cons_of_mem _ m))
end
end
theorem spec_call {P : Program} {w : World} {K : PySem.W.Frag} {mg mb : Str → Option Value} {CX : CXT} {k : Nat} {fa : Addr} {fd : FuncData} {ps : List Str} {sp : Sp} {s₁ : Shared} {vals : List Value} {ds : List WData} {R : PySem.W.WRecords} {cl : Str → Option Addr} {d0 : WData}
    (KX : K.In s₁.heap) (hns : s₁.heap.Ns mainGlobals mg) (hb : s₁.heap.Ns builtinsNs mb) (hbb : ∀ x : Str, x ≠ "__name__" → mb x = bootBuiltins x) (hlim : s₁.heap.NoLimit) (hg : s₁.gens = #[])
    (hwl : WellAll w.params s₁.heap vals ds) (hpl : plWs ds = true) (hwt : ∀ d ∈ ds, d.weight ≤ 1048576) (hr : Room k callerA)
    (F : ∀ base : Heap, K.In base → base.Ns mainGlobals mg → FnOk P w K mg base CX k fa fd ps sp) (hbind : ∀ (s : Shared) (us : List Value), us.length = ps.length → BindsTo s fd ⟨us, []⟩ (ps.zip us)) (hlen : ds.length = ps.length)
    (hsp : ∀ (H : Hp) (xs : List V), OnlyF H → DwAll K H xs ds → sp xs H (fun v H' => Dw K H' v d0) fun _ _ _ => False)
    (hCX : ∀ H e s', CX [] H s₁ (fun _ _ _ => False) e s' → False) :
    codeAny (model P w) callerA (.call (.ref fa) ⟨vals, []⟩) (fun r s' => ∃ u as, r = .ok (.ret u) ∧ ReadsW R cl s'.heap u d0 as ∧ OldK s₁.heap s'.heap ∧ s'.os = s₁.os ∧ AllBare s'.gens) s₁ := by
  obtain ⟨A, ho, ar⟩ := area_all ds vals hwl hpl hwt
  have hO : OnlyF (argH K s₁.heap A) := argH_only ar
  have hok : HOk P w (argH K s₁.heap A) s₁.heap := argH_ok ar
  have hS := dw_all KX ar ds vals hwl hpl ho
  have hV := vals_toV ho
  have hK : ∀ b u, argH K s₁.heap A b = some u → K.lookup b = none := fun b u q => (argH_is ar q).1
  have noA : ∀ {b : Addr} {o : Obj} {es : Array DictEntry} {ep : Nat}, s₁.heap.get? b = some o → o.data = .dict es ep → argH K s₁.heap A b = none := fun {b o es ep} e d => by
    cases q : argH K s₁.heap A b with
    | none => rfl
    | some u =>
      obtain ⟨_, vs, _, _, ⟨e2, _⟩ | ⟨e2, _⟩⟩ := argH_is ar q
      · rw [e2] at e
        cases e
        have d' : Data.seq vs.toArray _ = Data.dict es ep := d
        cases d'
      · rw [e2] at e
        cases e
        have d' : Data.seq vs.toArray _ = Data.dict es ep := d
        cases d'
  generalize argH K s₁.heap A = H at hO hok hS hK noA
  have base_of : ∀ {b : Addr} {o : Obj}, s₁.heap.get? b = some o → H b = none → (hidT s₁.heap H).get? b = some o := fun e n => hidT_get e n
  have nsK : ∀ {b : Addr} {m : Str → Option Value}, s₁.heap.Ns b m → (hidT s₁.heap H).Ns b m := fun {b m} ⟨o, es, ep, e, d, r⟩ => ⟨o, es, ep, base_of e (noA e d), d, r⟩
  have nK : ∀ b o, K.lookup b = some o → H b = none := fun b o e => by
    cases q : H b with
    | none => rfl
    | some u =>
      rw [hK b u q] at e
      cases e
  have hKb : K.In (hidT s₁.heap H) := fun b o e => base_of (KX b o e) (nK b o e)
  have hM : Mod K mg (hidT s₁.heap H) := ⟨hKb, nsK hns, ⟨mb, nsK hb, hbb⟩, let ⟨mc, h1, h2⟩ := hlim; ⟨mc, nsK h1, h2⟩⟩
  have e0 : Env0 P w K mg (hidT s₁.heap H) callerA [] s₁ H := ⟨rfl, hM, fun b o e => of_hidT e, Nat.le_of_eq (hidT_size _ _), trivial, fun b hb => absurd (show b ∈ ([] : List Addr) from hb) (by simp), hok, .of_eq hg⟩
  have hl : vals.length = ps.length := by rw [wellAll_len hwl]; exact hlen
  refine codeAny_mono ((F _ hKb (nsK hns)).run callerA [] s₁ H ⟨vals, []⟩ vals (vals.map toV) _ _ hr e0 (hbind s₁ vals hl) hV (hsp H _ hO hS)) fun r s' x => ?_
  cases r with
  | error e => exact (hCX H e s' x).elim
  | ok fl =>
    cases fl with
    | next => exact False.elim x
    | brk => exact False.elim x
    | cont => exact False.elim x
    | ret u =>
      obtain ⟨v, H', os, bare, un, hok', r', q⟩ := x
      have kept : ∀ b o, s₁.heap.get? b = some o → s'.heap.get? b = some o := fun b o e => by
        cases q2 : H b with
        | none => exact un.keep b o e q2 (by intro z; exact absurd (show b ∈ ([] : List Addr) from z) (by simp)) (by simp)
        | some u2 =>
          rcases hO b with z | ⟨ob, u3, z⟩
          · rw [q2] at z
            cases z
          · have z2 := un.frzs b ob _ z
            obtain ⟨e1, _⟩ := hok b _ z
            obtain ⟨e2, _⟩ := hok' b _ z2
            rw [e] at e1
            cases e1
            exact e2
      have KX' : K.In s'.heap := fun b o e => kept b o (KX b o e)
      obtain ⟨as, hrd⟩ := Dw.reads (R := R) (cl := cl) hok' KX' d0 v u q r'
      exact ⟨u, as, rfl, hrd, OldK.of_keep kept, os, bare⟩
theorem layable_weight {ds : List WData} (h : WData.layableAll ds = true) : ∀ d ∈ ds, d.weight ≤ 1048576 := fun d hd =>
  (PySem.W.layableW_iff.mp (List.all_eq_true.mp h d hd)).2.2
theorem encAll_len : ∀ (cs : List Codec) (a : Codec.denoteAll cs), (Codec.encAll cs a).length = cs.length
  | [], _ => rfl
  | c :: cs, a => by
    show (Codec.encAll cs a.2).length + 1 = cs.length + 1
    rw [encAll_len cs a.2]
/-- the goal that k_headS leaves (case hc), from the promise of the row's def: whatever the arguments that the codecs let and the row asks for, the def gives what stands for enc (f ..) -/
theorem walk_spec {r : OpenSpec} {k : Nat} {q : Program} {loose : List Str} {XP : (Str → Option Value) → Heap → Prop} {YP : World → Heap → Prop} {d : DefRec} {K : Params → PySem.W.Frag} {CX : World → CXT} {ps : List Str} {sp : World → Sp}
    (hwell : r.wellSaid = true) (hdf : d.params.defaults = []) (hlen : r.args.length = ps.length) (hr : Room k callerA)
    (hY : ∀ (w : World) (h : Heap), YP w h → (K w.params).In h)
    (F : ∀ (w : World) (mg : Str → Option Value) (fa : Addr) (h : Heap), YP w h → (K w.params).In h → h.Ns mainGlobals mg → mg d.name = some (.ref fa) →
      ∃ fd : FuncData, (∀ (s : Shared) (us : List Value), us.length = ps.length → BindsTo s fd ⟨us, []⟩ (ps.zip us)) ∧
        ∀ base : Heap, (K w.params).In base → base.Ns mainGlobals mg → FnOk r.prog w (K w.params) mg base (CX w) k fa fd ps (sp w))
    (hsp : ∀ (w : World) (H : Hp) (xs : List V) (a : Codec.denoteAll r.args), OnlyF H → Codec.withinAll r.args a = true → Codec.app r.args r.asked a = true → DwAll (K w.params) H xs (Codec.encAll r.args a) →
      sp w xs H (fun v H' => Dw (K w.params) H' v (r.ret.enc (Codec.app r.args r.f a))) fun _ _ _ => False)
    (hCX : ∀ (w : World) (H : Hp) (s : Shared) (e : Value) (s' : Shared), CX w [] H s (fun _ _ _ => False) e s' → False) :
    PySem.W.WalkOS q loose XP YP r d [] (fun f vs => PySem.call f vs) := by
  intro w s_0 s₁ mg mb G Y fa o pm cd doc dV kV ho hd hcd hD hmg hg args vals as hpre hlay hrd hwl hlo
  obtain ⟨a, e1, e2⟩ := PySem.W.os_pre_some hpre
  obtain ⟨e3, hwi⟩ := Codec.encAll_of_decAll r.args args a e1
  subst e3
  have KX := hY w _ Y
  obtain ⟨fd, hb, hF⟩ := F w mg fa _ Y KX G.T.g hmg
  refine PySem.W.enter_call (codeAny_mono (spec_call (R := []) (cl := classAt s_0.heap) (d0 := r.ret.enc (Codec.app r.args r.f a)) KX G.T.g G.T.b G.T.builtins G.T.nolimit hg hwl (pl_encAll _ _) (layable_weight hlay) hr hF hb (by rw [encAll_len]; exact hlen)
    (fun H xs hO hS => hsp w H xs a hO hwi e2 hS) fun H e s' => hCX w H s₁ e s') fun r' s' hq => ?_)
  obtain ⟨u, as', rfl, h1, h2, h3, h4⟩ := hq
  exact ⟨.inl ⟨u, _, as', rfl, fun _ => rfl, h1, (OpenSpec.post_iff hwell hwi _ _).mpr rfl, fun z => Bool.noConfusion (show false = true from z)⟩, h2, h3, h4⟩
/-- the same where the promise hangs on the written part alone -/
theorem walk_specK {r : OpenSpec} {k : Nat} {q : Program} {loose : List Str} {XP : (Str → Option Value) → Heap → Prop} {YP : World → Heap → Prop} {d : DefRec} {K : Params → PySem.W.Frag} {CX : CXT} {ps : List Str} {sp : PySem.W.Frag → Sp}
    (hwell : r.wellSaid = true) (hdf : d.params.defaults = []) (hlen : r.args.length = ps.length) (hr : Room k callerA)
    (hY : ∀ (w : World) (h : Heap), YP w h → (K w.params).In h)
    (F : ∀ (w : World) (mg : Str → Option Value) (fa : Addr) (h : Heap), YP w h → (K w.params).In h → h.Ns mainGlobals mg → mg d.name = some (.ref fa) →
      ∃ fd : FuncData, (∀ (s : Shared) (us : List Value), us.length = ps.length → BindsTo s fd ⟨us, []⟩ (ps.zip us)) ∧
        ∀ base : Heap, (K w.params).In base → base.Ns mainGlobals mg → FnOk r.prog w (K w.params) mg base CX k fa fd ps (sp (K w.params)))
    (hsp : ∀ (K : PySem.W.Frag) (H : Hp) (xs : List V) (a : Codec.denoteAll r.args), OnlyF H → Codec.withinAll r.args a = true → Codec.app r.args r.asked a = true → DwAll K H xs (Codec.encAll r.args a) →
      sp K xs H (fun v H' => Dw K H' v (r.ret.enc (Codec.app r.args r.f a))) fun _ _ _ => False)
    (hCX : ∀ (H : Hp) (s : Shared) (e : Value) (s' : Shared), CX [] H s (fun _ _ _ => False) e s' → False) :
    PySem.W.WalkOS q loose XP YP r d [] (fun f vs => PySem.call f vs) :=
  walk_spec (K := K) (CX := fun _ => CX) (sp := fun w => sp (K w.params)) hwell hdf hlen hr hY F (fun w H xs a h1 h2 h3 h4 => hsp (K w.params) H xs a h1 h2 h3 h4) fun _ H s e s' => hCX H s e s'
end L2
end
set_option Elab.async false
set_option maxRecDepth 100000
namespace Ld
open Krb7 (full both not_ within truth right why behind count)
theorem full1 : full 1 = 3 := rfl
theorem full2 : full 2 = 15 := rfl
theorem full3 : full 3 = 255 := rfl
theorem and_two (b p : Nat) : (b &&& p) = 2 * ((b/2) &&& (p/2)) + (if b % 2 = 1 ∧ p % 2 = 1 then 1 else 0) := by
  have h0 := Nat.div_add_mod (b &&& p) 2
  rw [Nat.and_div_two] at h0
  have e : (b &&& p) % 2 = (if b % 2 = 1 ∧ p % 2 = 1 then 1 else 0) := by
    have := Nat.and_mod_two_pow (a := b) (b := p) (n := 1)
    rw [Nat.pow_one] at this
    rw [this]
    have h1 : b % 2 = 0 ∨ b % 2 = 1 := by omega
    have h2 : p % 2 = 0 ∨ p % 2 = 1 := by omega
    rcases h1 with h1 | h1 <;> rcases h2 with h2 | h2 <;> simp [h1, h2]
  omega
theorem half : ∀ n b p : Nat, p < 2^n → b < 2^n → (b &&& p) + (b &&& (2^n - 1 - p)) = b := by
  intro n
  induction n with
  | zero =>
    intro b p h hb
    obtain rfl : b = 0 := by omega
    simp
  | succ n ih =>
    intro b p h hb
    rw [Nat.pow_succ] at h hb ⊢
    have h1 := ih (b/2) (p/2) (by omega) (by omega)
    have eq : (2 ^ n * 2 - 1 - p) / 2 = 2 ^ n - 1 - p / 2 := by omega
    have e1 := and_two b p
    have e2 := and_two b (2 ^ n * 2 - 1 - p)
    rw [eq] at e2
    have e3 : (2 ^ n * 2 - 1 - p) % 2 = 1 - p % 2 := by omega
    rw [e3] at e2
    have hb2 : b % 2 = 0 ∨ b % 2 = 1 := by omega
    have hp2 : p % 2 = 0 ∨ p % 2 = 1 := by omega
    rcases hb2 with h3 | h3 <;> rcases hp2 with h4 | h4 <;> simp [h3, h4] at e1 e2 <;> omega
theorem minus_n {n b p : Nat} (hp : p < 2^n) (hb : b < 2^n) : b &&& (2^n - 1 - p) = b - (b &&& p) := by
  have := half n b p hp hb
  omega
def Lets (m : Nat) : Prop := m = 1 ∨ m = 2 ∨ m = 3
theorem minus {m b p : Nat} (hm : Lets m) (hb : b ≤ full m) (hp : p ≤ full m) : both b (not_ m p) = b - (b &&& p) := by
  rcases hm with rfl | rfl | rfl
  · exact minus_n (n := 2) (by rw [full1] at hp; omega) (by rw [full1] at hb; omega)
  · exact minus_n (n := 4) (by rw [full2] at hp; omega) (by rw [full2] at hb; omega)
  · exact minus_n (n := 8) (by rw [full3] at hp; omega) (by rw [full3] at hb; omega)
/-- bits counted from below -/
def pcF : Nat → Nat → Nat
  | 0, _ => 0
  | f + 1, n => n % 2 + pcF f (n / 2)
theorem count_tab3 : ∀ p < 256, count 3 p = pcF 8 p := by decide +kernel
theorem count_tab2 : ∀ p < 16, count 2 p = pcF 8 p := by decide +kernel
theorem count_tab1 : ∀ p < 4, count 1 p = pcF 8 p := by decide +kernel
theorem count_pc {m p : Nat} (hm : Lets m) (hp : p ≤ full m) : count m p = pcF 8 p := by
  rcases hm with rfl | rfl | rfl
  · exact count_tab1 p (by rw [full1] at hp; omega)
  · exact count_tab2 p (by rw [full2] at hp; omega)
  · exact count_tab3 p (by rw [full3] at hp; omega)
theorem full_le {m : Nat} (hm : Lets m) : full m ≤ 255 := by
  rcases hm with rfl | rfl | rfl <;> decide
theorem pcF_zero : ∀ f, pcF f 0 = 0
  | 0 => rfl
  | f + 1 => by
    show 0 % 2 + pcF f (0 / 2) = 0
    rw [show 0 / 2 = 0 from rfl, pcF_zero f]
/-- within, both as the program asks them -/
theorem within_iff {b p : Nat} : within b p = decide (p &&& b = b) := by
  unfold within
  rw [Nat.and_comm]; rfl
theorem why_eq (b p : Nat) : why b p = if p &&& b = b then 1 else if p &&& b = 0 then 2 else 0 := by
  unfold why both
  rw [within_iff, Nat.and_comm b p]
  by_cases h : p &&& b = b
  · simp [h]
  · simp [h]
theorem truth_why (k p : Nat) : truth k p = if why k p = 1 then 1 else if why k p = 2 then 0 else 2 := by
  unfold truth why
  by_cases h : within k p = true
  · simp [h]
  · by_cases h2 : both k p = 0
    · simp [h, h2]
    · simp [h, h2]
theorem right_why (k b p : Nat) : right k b p = if why b p = 0 then truth k p else truth b p := by
  unfold right why
  by_cases h : within b p = true
  · simp [h, truth]
  · by_cases h2 : both b p = 0
    · simp [h, h2, truth]
    · simp [h, h2]
theorem and_le_full {m a b : Nat} (ha : a ≤ full m) : a &&& b ≤ full m := Nat.le_trans Nat.and_le_left ha
theorem behind_eq {m b p a : Nat} (hm : Lets m) (hb : b ≤ full m) (hp : p ≤ full m) : behind m b p a = if a = 1 then b &&& p else if a = 0 then b - (b &&& p) else b := by
  unfold behind
  rw [minus hm hb hp]
  rfl
theorem behind_le {m b p a : Nat} (hb : b ≤ full m) : behind m b p a ≤ full m := by
  unfold behind both
  repeat' split
  · exact Nat.le_trans Nat.and_le_left hb
  · exact Nat.le_trans Nat.and_le_left hb
  · exact hb
end Ld
set_option Elab.async false
set_option maxRecDepth 100000
namespace Ld
open PyKrb8 (shape whole)
def zs (l : List Nat) : List Int := l.map fun (n : Nat) => (n : Int)
theorem zs_cons (a : Nat) (l : List Nat) : zs (a :: l) = (a : Int) :: zs l := rfl
theorem zs_len (l : List Nat) : (zs l).length = l.length := List.length_map ..
theorem zs_take (k : Nat) (l : List Nat) : (zs l).take k = zs (l.take k) := by unfold zs; rw [List.map_take]
theorem zs_drop (k : Nat) (l : List Nat) : (zs l).drop k = zs (l.drop k) := by unfold zs; rw [List.map_drop]
theorem zs_nat : ∀ l : List Nat, (zs l).map Int.toNat = l
  | [] => rfl
  | a :: l => by
    show a :: (zs l).map Int.toNat = a :: l
    rw [zs_nat l]
/-- the numbers of a request are natural ones -/
theorem zs_of : ∀ {ns : List Int}, (∀ x ∈ ns, 0 ≤ x) → ∃ xs, ns = zs xs
  | [], _ => ⟨[], rfl⟩
  | a :: l, h => by
    obtain ⟨xs, e⟩ := zs_of (ns := l) fun x hx => h x (List.mem_cons_of_mem _ hx)
    have h0 := h a List.mem_cons_self
    exact ⟨a.toNat :: xs, by rw [zs_cons, e, Int.toNat_of_nonneg h0]⟩
def ahead : Nat → Nat
  | 0 => 3 | 1 => 1 | 2 => 1 | 3 => 1 | 4 => 0 | 5 => 0 | 6 => 0 | 7 => 2 | 8 => 0 | 9 => 1
  | 10 => 1 | 11 => 0 | 12 => 0 | 13 => 1 | 14 => 1 | 15 => 2 | 16 => 0 | 17 => 0 | 18 => 1 | _ => 0
def hasRow : Nat → Bool
  | 4 => true | 5 => true | 6 => true | 11 => true | 12 => true | 13 => true | 14 => true | 15 => true | 16 => true | _ => false
theorem lt20 {p : Nat} (h : p < 20) : p = 0 ∨ p = 1 ∨ p = 2 ∨ p = 3 ∨ p = 4 ∨ p = 5 ∨ p = 6 ∨ p = 7 ∨ p = 8 ∨ p = 9 ∨ p = 10 ∨ p = 11 ∨ p = 12 ∨ p = 13 ∨ p = 14 ∨ p = 15 ∨ p = 16 ∨ p = 17 ∨ p = 18 ∨ p = 19 := by omega
theorem shape_lt {p : Nat} (h : p < 20) : shape (p : Int) = some (ahead p, if hasRow p = true then 1 else 0) := by
  rcases lt20 h with h | h | h | h | h | h | h | h | h | h | h | h | h | h | h | h | h | h | h | h <;> subst h <;> rfl
theorem shape_ge {p : Nat} (h : ¬ p < 20) : shape (p : Int) = none := by
  unfold shape
  repeat rw [if_neg (by omega)]
/-- which call the numbers tell -/
inductive CallIs : Nat → List Nat → List Nat → Krb8.Call → Prop where
  | begin_ (m k p) : CallIs 0 [m, k, p] [] (.begin_ m k p)
  | lay (p) : CallIs 1 [p] [] (.lay p)
  | learn (k) : CallIs 2 [k] [] (.learn k)
  | alone (p) : CallIs 3 [p] [] (.alone p)
  | aloneRow (l) : CallIs 4 [] l (.aloneRow l)
  | along (l) : CallIs 5 [] l (.along l)
  | parts (l) : CallIs 6 [] l (.parts l)
  | clash (p q) : CallIs 7 [p, q] [] (.clash p q)
  | clashes : CallIs 8 [] [] .clashes
  | nth (k) : CallIs 9 [k] [] (.nth k)
  | partner (p) : CallIs 10 [p] [] (.partner p)
  | caught (l) : CallIs 11 [] l (.caught l)
  | ways (l) : CallIs 12 [] l (.ways l)
  | way (k l) : CallIs 13 [k] l (.way k l)
  | may (i l) : CallIs 14 [i] l (.may i l)
  | order (i a l) : CallIs 15 [i, a] l (.order i a l)
  | matters (l) : CallIs 16 [] l (.matters l)
  | counts : CallIs 17 [] [] .counts
  | bound (p) : CallIs 18 [p] [] (.bound p)
  | state : CallIs 19 [] [] .state
/-- where the numbers of a call stand -/
structure Lay (p : Nat) (r nums row rest : List Nat) : Prop where
  lt : p < 20
  len : nums.length = ahead p
  eq : r = nums ++ (if hasRow p = true then row.length :: (row ++ rest) else rest)
  no : hasRow p = false → row = []
theorem callIs_mk {p : Nat} {nums row : List Nat} (hp : p < 20) (hl : nums.length = ahead p) (hn : hasRow p = false → row = []) :
    ∃ c, CallIs p nums row c ∧ Krb8Neutral.call (whole (if hasRow p = true then [(p : Int) :: zs nums, zs row] else [(p : Int) :: zs nums])) = c := by
  rcases lt20 hp with h | h | h | h | h | h | h | h | h | h | h | h | h | h | h | h | h | h | h | h <;> subst h
  · match nums, hl with | [a, b, c], _ => rw [hn rfl]; exact ⟨_, .begin_ a b c, rfl⟩
  · match nums, hl with | [a], _ => rw [hn rfl]; exact ⟨_, .lay a, rfl⟩
  · match nums, hl with | [a], _ => rw [hn rfl]; exact ⟨_, .learn a, rfl⟩
  · match nums, hl with | [a], _ => rw [hn rfl]; exact ⟨_, .alone a, rfl⟩
  · match nums, hl with | [], _ => exact ⟨_, .aloneRow row, congrArg Krb8.Call.aloneRow (zs_nat row)⟩
  · match nums, hl with | [], _ => exact ⟨_, .along row, congrArg Krb8.Call.along (zs_nat row)⟩
  · match nums, hl with | [], _ => exact ⟨_, .parts row, congrArg Krb8.Call.parts (zs_nat row)⟩
  · match nums, hl with | [a, b], _ => rw [hn rfl]; exact ⟨_, .clash a b, rfl⟩
  · match nums, hl with | [], _ => rw [hn rfl]; exact ⟨_, .clashes, rfl⟩
  · match nums, hl with | [a], _ => rw [hn rfl]; exact ⟨_, .nth a, rfl⟩
  · match nums, hl with | [a], _ => rw [hn rfl]; exact ⟨_, .partner a, rfl⟩
  · match nums, hl with | [], _ => exact ⟨_, .caught row, congrArg Krb8.Call.caught (zs_nat row)⟩
  · match nums, hl with | [], _ => exact ⟨_, .ways row, congrArg Krb8.Call.ways (zs_nat row)⟩
  · match nums, hl with | [a], _ => exact ⟨_, .way a row, congrArg (Krb8.Call.way a) (zs_nat row)⟩
  · match nums, hl with | [a], _ => exact ⟨_, .may a row, congrArg (Krb8.Call.may a) (zs_nat row)⟩
  · match nums, hl with | [a, b], _ => exact ⟨_, .order a b row, congrArg (Krb8.Call.order a b) (zs_nat row)⟩
  · match nums, hl with | [], _ => exact ⟨_, .matters row, congrArg Krb8.Call.matters (zs_nat row)⟩
  · match nums, hl with | [], _ => rw [hn rfl]; exact ⟨_, .counts, rfl⟩
  · match nums, hl with | [a], _ => rw [hn rfl]; exact ⟨_, .bound a, rfl⟩
  · match nums, hl with | [], _ => rw [hn rfl]; exact ⟨_, .state, rfl⟩
/-- one call taken off -/
theorem call_inv {p : Nat} {r : List Nat} {c : List (List Int)} {t : List Int} (h : PyFlat.call shape (zs (p :: r)) = some (c, t)) :
    ∃ nums row rest, Lay p r nums row rest ∧ c = (if hasRow p = true then [(p : Int) :: zs nums, zs row] else [(p : Int) :: zs nums]) ∧ t = zs rest := by
  rw [zs_cons] at h
  unfold PyFlat.call at h
  dsimp only at h
  by_cases hp : p < 20
  · rw [shape_lt hp] at h
    simp only [zs_len] at h
    by_cases hl : r.length < ahead p
    · rw [if_pos hl] at h; cases h
    · rw [if_neg hl, zs_drop, zs_take] at h
      have hlen : (r.take (ahead p)).length = ahead p := by rw [List.length_take]; omega
      by_cases hr : hasRow p = true
      · rw [if_pos hr] at h
        cases hd : r.drop (ahead p) with
        | nil =>
          rw [hd] at h
          simp [PyFlat.rows, PyFlat.row, zs] at h
        | cons q r' =>
          rw [hd, zs_cons] at h
          unfold PyFlat.rows PyFlat.row at h
          dsimp only at h
          by_cases hq : (0 : Int) ≤ (q : Int) ∧ (q : Int).toNat ≤ (zs r').length
          · rw [if_pos hq] at h
            simp only [PyFlat.rows, Int.toNat_natCast, zs_take, zs_drop] at h
            have h2 := Option.some.inj h
            have hq2 : q ≤ r'.length := by have := hq.2; rw [zs_len] at this; omega
            have hq3 : (r'.take q).length = q := by rw [List.length_take]; omega
            refine ⟨r.take (ahead p), r'.take q, r'.drop q, ⟨hp, hlen, ?_, fun z => by rw [hr] at z; cases z⟩, ?_, ?_⟩
            · rw [if_pos hr, hq3, List.take_append_drop, ← hd, List.take_append_drop]
            · rw [if_pos hr]; exact (Prod.mk.inj h2).1.symm
            · exact (Prod.mk.inj h2).2.symm
          · rw [if_neg hq] at h
            cases h
      · rw [if_neg hr] at h
        simp only [PyFlat.rows] at h
        have h2 := Option.some.inj h
        refine ⟨r.take (ahead p), [], r.drop (ahead p), ⟨hp, hlen, ?_, fun _ => rfl⟩, ?_, ?_⟩
        · rw [if_neg hr, List.take_append_drop]
        · rw [if_neg hr]; exact (Prod.mk.inj h2).1.symm
        · exact (Prod.mk.inj h2).2.symm
  · rw [shape_ge hp] at h
    cases h
/-- the first call of a list, and the rest -/
theorem calls_inv {f p : Nat} {r : List Nat} {cs : List (List (List Int))} (h : PyFlat.calls shape f (zs (p :: r)) = some cs) :
    ∃ f' nums row rest c c' cs', PyFlat.calls shape f' (zs rest) = some cs' ∧ cs = c :: cs' ∧ Lay p r nums row rest ∧ CallIs p nums row c' ∧ Krb8Neutral.call (whole c) = c' ∧ (c.headD []).headD 0 = (p : Int) := by
  rw [zs_cons] at h
  match f, h with
  | 0, h => cases h
  | f' + 1, h =>
    unfold PyFlat.calls at h
    cases hc : PyFlat.call shape ((p : Int) :: zs r) with
    | none => rw [hc] at h; cases h
    | some x =>
      obtain ⟨c, t⟩ := x
      rw [hc] at h
      obtain ⟨nums, row, rest, L, e1, e2⟩ := call_inv (p := p) (r := r) hc
      simp only at h
      rw [e2] at h
      cases hs : PyFlat.calls shape f' (zs rest) with
      | none => rw [hs] at h; cases h
      | some cs' =>
        rw [hs] at h
        obtain ⟨c', k1, k2⟩ := callIs_mk L.lt L.len L.no
        exact ⟨f', nums, row, rest, c, c', cs', hs, (Option.some.inj h).symm, L, k1, by rw [e1]; exact k2, by rw [e1]; split <;> rfl⟩
theorem calls_nil {f : Nat} {cs : List (List (List Int))} (h : PyFlat.calls shape f (zs []) = some cs) : cs = [] := by
  cases f <;> exact (Option.some.inj h).symm
/-- the rest of an answer -/
def due (a : Krb8.Abs) (cs : List (List (List Int))) : List Int := PyFlat.told (PyFlat.played Krb8Neutral.step a (cs.map whole))
theorem due_nil (a : Krb8.Abs) : due a [] = [] := rfl
theorem due_cons (a : Krb8.Abs) (c : List (List Int)) (cs : List (List (List Int))) (c' : Krb8.Call) (h : Krb8Neutral.call (whole c) = c') :
    due a (c :: cs) = ((Krb8Neutral.told (Krb8.act a c').2).length : Int) :: (Krb8Neutral.told (Krb8.act a c').2 ++ due (Krb8.act a c').1 cs) := by
  subst h
  rfl
theorem answers_eq {ns : List Int} {cs : List (List (List Int))} (h : PyFlat.calls shape ns.length ns = some cs) : PyKrb8.answers ns = due none cs := by
  unfold PyKrb8.answers PyKrb8.calls
  rw [h]
  rfl
theorem asked_inv {ns : List Int} (h : PyKrb8.answers_asked ns = true) : ∃ cs, PyFlat.calls shape ns.length ns = some cs ∧ cs.length ≤ 45 ∧ (due none cs).length ≤ 10000000 := by
  unfold PyKrb8.answers_asked at h
  cases hc : PyFlat.calls shape ns.length ns with
  | none => rw [hc] at h; cases h
  | some raw =>
    rw [hc] at h
    simp only [Bool.and_eq_true, PyFlat.atMost, PyFlat.short, decide_eq_true_eq] at h
    refine ⟨raw, rfl, h.1.1.1, ?_⟩
    rw [← answers_eq hc]
    exact h.2
end Ld
set_option Elab.async false
set_option maxRecDepth 100000
namespace Ld
def tailPairs (g : Nat → Nat → Bool) : List Nat → List (Nat × Nat)
  | [] => []
  | p :: c => ((c.filter fun q => g p q).map fun q => (p, q)) ++ tailPairs g c
theorem flat_tail (g : Nat → Nat → Bool) : ∀ (suf pre : List Nat), (pre ++ suf).Pairwise (· < ·) →
    (suf.flatMap fun p => ((pre ++ suf).filter fun q => decide (p < q) && g p q).map fun q => (p, q)) = tailPairs g suf
  | [], _, _ => rfl
  | p :: s, pre, h => by
    have ih := flat_tail g s (pre ++ [p]) (by rw [List.append_assoc]; exact h)
    rw [List.flatMap_cons]
    rw [List.append_assoc] at ih
    have ih : (s.flatMap fun p' => ((pre ++ p :: s).filter fun q => decide (p' < q) && g p' q).map fun q => (p', q)) = tailPairs g s := ih
    rw [ih]
    have h1 := List.pairwise_append.mp h
    have h2 := List.pairwise_cons.mp h1.2.1
    have e1 : (pre.filter fun q => decide (p < q) && g p q) = [] := by
      rw [List.filter_eq_nil_iff]
      intro q hq z
      have z1 := h1.2.2 q hq p List.mem_cons_self
      simp only [Bool.and_eq_true, decide_eq_true_eq] at z
      omega
    have e2 : (s.filter fun q => decide (p < q) && g p q) = s.filter fun q => g p q := by
      apply List.filter_congr
      intro q hq
      have z1 := h2.1 q hq
      simp [z1]
    have e3 : ((pre ++ p :: s).filter fun q => decide (p < q) && g p q) = s.filter fun q => g p q := by
      rw [List.filter_append, e1, List.filter_cons, e2]
      simp
    rw [e3]
    rfl
theorem tail_len (g : Nat → Nat → Bool) : ∀ (c : List Nat) (n : Nat), c.length ≤ n → (tailPairs g c).length ≤ c.length * n
  | [], _, _ => by simp [tailPairs]
  | p :: c, n, h => by
    have ih := tail_len g c n (by rw [List.length_cons] at h; omega)
    have h1 := List.length_filter_le (fun q => g p q) c
    unfold tailPairs
    rw [List.length_append, List.length_map, List.length_cons, Nat.add_mul]
    rw [List.length_cons] at h
    omega
open Krb8 (House)
def conc (h : House) : List Nat := h.ps.filter fun p => h.alone p == 1
def clashG (h : House) (p q : Nat) : Bool := h.alone (Krb7.both p q) == 0
theorem clashes_eq (h : House) : h.clashes = tailPairs (clashG h) (conc h) := by
  have hp : (conc h).Pairwise (· < ·) := List.Pairwise.filter _ List.pairwise_lt_range
  exact flat_tail (clashG h) (conc h) [] hp
theorem ps_len (h : House) : h.ps.length = Krb7.full h.m + 1 := List.length_range
theorem conc_len (h : House) (hm : Lets h.m) : (conc h).length ≤ 256 := by
  have h1 := List.length_filter_le (fun p => h.alone p == 1) h.ps
  have h2 := full_le hm
  rw [ps_len] at h1
  unfold conc
  omega
theorem clashes_len (h : House) (hm : Lets h.m) : h.clashes.length ≤ 65536 := by
  rw [clashes_eq]
  have h1 := conc_len h hm
  have h2 := tail_len (clashG h) (conc h) 256 h1
  omega
end Ld
set_option Elab.async false
set_option maxRecDepth 100000
namespace Ld
open Krb8 (orders ordersOf inOrder House)
def ext (all : List Nat) (os : List (List Nat)) : List (List Nat) := os.flatMap fun o => (all.filter fun x => !o.contains x).map fun x => o ++ [x]
def extN (all : List Nat) : Nat → List (List Nat) → List (List Nat)
  | 0, os => os
  | k + 1, os => extN all k (ext all os)
theorem ext_app (all : List Nat) (a b : List (List Nat)) : ext all (a ++ b) = ext all a ++ ext all b := List.flatMap_append
theorem extN_nil (all : List Nat) : ∀ k, extN all k [] = []
  | 0 => rfl
  | k + 1 => extN_nil all k
theorem extN_app (all : List Nat) : ∀ k (a b : List (List Nat)), extN all k (a ++ b) = extN all k a ++ extN all k b
  | 0, _, _ => rfl
  | k + 1, a, b => by
    show extN all k (ext all (a ++ b)) = _
    rw [ext_app, extN_app all k]
    rfl
theorem extN_flat (all : List Nat) (k : Nat) : ∀ os : List (List Nat), extN all k os = os.flatMap fun o => extN all k [o]
  | [] => extN_nil all k
  | o :: os => by
    rw [List.flatMap_cons, ← extN_flat all k os]
    exact extN_app all k [o] os
theorem extN_succ (all : List Nat) : ∀ k os, extN all (k + 1) os = ext all (extN all k os)
  | 0, _ => rfl
  | k + 1, os => extN_succ all k (ext all os)
theorem erase_filter {all : List Nat} (hnd : all.Nodup) (p : List Nat) (x : Nat) : (all.filter fun y => !p.contains y).erase x = all.filter fun y => !(p ++ [x]).contains y := by
  rw [List.Nodup.erase_eq_filter (hnd.filter _), List.filter_filter]
  apply List.filter_congr
  intro y _
  by_cases h1 : y ∈ p <;> by_cases h2 : y = x <;> simp [h1, h2]
theorem extN_one {all : List Nat} (hnd : all.Nodup) : ∀ (k : Nat) (p : List Nat), extN all k [p] = (orders k (all.filter fun x => !p.contains x)).map fun r => p ++ r
  | 0, p => by
    show [p] = [[]].map fun r => p ++ r
    simp
  | k + 1, p => by
    show extN all k (ext all [p]) = ((all.filter fun x => !p.contains x).flatMap fun x => (orders k ((all.filter fun x => !p.contains x).erase x)).map fun r => x :: r).map fun r => p ++ r
    rw [extN_flat]
    have e1 : ext all [p] = (all.filter fun x => !p.contains x).map fun x => p ++ [x] := by
      unfold ext
      rw [List.flatMap_cons, List.flatMap_nil, List.append_nil]
    rw [e1, List.flatMap_map, List.map_flatMap]
    congr 1
    funext x
    rw [extN_one hnd k (p ++ [x]), erase_filter hnd, List.map_map]
    congr 1
    funext r
    show p ++ [x] ++ r = p ++ x :: r
    rw [List.append_assoc]
    rfl
theorem orders_ext (l : List Nat) : ordersOf l = extN (List.range l.length) l.length [[]] := by
  rw [extN_one List.nodup_range]
  unfold ordersOf
  have e : ((List.range l.length).filter fun x => !([] : List Nat).contains x) = List.range l.length := by
    rw [List.filter_eq_self]
    intro a _
    rfl
  rw [e]
  simp
theorem orders_perm : ∀ (k : Nat) (l o : List Nat), l.length = k → o ∈ orders k l → o.Perm l
  | 0, l, o, hl, h => by
    have e : o = [] := by simpa [orders] using h
    have e2 : l = [] := List.length_eq_zero_iff.mp hl
    rw [e, e2]
  | k + 1, l, o, hl, h => by
    have h : o ∈ l.flatMap fun x => (orders k (l.erase x)).map fun r => x :: r := h
    obtain ⟨x, hx, h2⟩ := List.mem_flatMap.mp h
    obtain ⟨r, hr, rfl⟩ := List.mem_map.mp h2
    have e : (l.erase x).length = k := by
      rw [List.length_erase_of_mem hx]
      omega
    exact ((orders_perm k (l.erase x) r e hr).cons x).trans (List.perm_cons_erase hx).symm
theorem orderOf_perm {l o : List Nat} (h : o ∈ ordersOf l) : o.Perm (List.range l.length) := orders_perm _ _ _ List.length_range h
theorem orderOf_len {l o : List Nat} (h : o ∈ ordersOf l) : o.length = l.length := by
  rw [(orderOf_perm h).length_eq, List.length_range]
theorem orderOf_nodup {l o : List Nat} (h : o ∈ ordersOf l) : o.Nodup := (orderOf_perm h).nodup_iff.mpr List.nodup_range
theorem orderOf_mem {l o : List Nat} (h : o ∈ ordersOf l) (i : Nat) : i ∈ o ↔ i < l.length := by
  rw [(orderOf_perm h).mem_iff, List.mem_range]
/-- how many orders there are -/
theorem orders_len : ∀ (k : Nat) (l : List Nat), l.length = k → (orders k l).length = Nat.rec 1 (fun n r => (n + 1) * r) k
  | 0, l, _ => rfl
  | k + 1, l, hl => by
    show (l.flatMap fun x => (orders k (l.erase x)).map fun r => x :: r).length = _
    rw [List.length_flatMap]
    have e : (l.map fun x => ((orders k (l.erase x)).map fun r => x :: r).length) = l.map fun _ => (Nat.rec 1 (fun n r => (n + 1) * r) k : Nat) := by
      apply List.map_congr_left
      intro x hx
      rw [List.length_map]
      exact orders_len k (l.erase x) (by rw [List.length_erase_of_mem hx]; omega)
    rw [e, List.map_const', List.sum_replicate_nat, hl]
theorem dups_loop {α : Type} [BEq α] [LawfulBEq α] : ∀ (l acc : List α), List.eraseDupsBy.loop (· == ·) l acc = l.foldl (fun a x => if a.contains x then a else a ++ [x]) acc.reverse := by
  intro l
  induction l with
  | nil => intro acc; rfl
  | cons x l ih =>
    intro acc
    unfold List.eraseDupsBy.loop
    rw [List.foldl_cons]
    have e : acc.any (fun y => x == y) = acc.reverse.contains x := by
      rw [Bool.eq_iff_iff, List.any_eq_true]
      simp
    by_cases c : acc.reverse.contains x = true
    · rw [if_pos c]
      rw [show (acc.any fun y => x == y) = true from e.trans c]
      exact ih acc
    · rw [if_neg c]
      rw [show (acc.any fun y => x == y) = false from e.trans (eq_false_of_ne_true c)]
      show List.eraseDupsBy.loop (· == ·) l (x :: acc) = _
      rw [ih (x :: acc), List.reverse_cons]
theorem dups_fold {α : Type} [BEq α] [LawfulBEq α] (l : List α) : l.eraseDups = l.foldl (fun a x => if a.contains x then a else a ++ [x]) [] := dups_loop l []
theorem idxOf_at {o : List Nat} (hnd : o.Nodup) {j i : Nat} (h : o[j]? = some i) : o.idxOf i = j := by
  obtain ⟨h1, h2⟩ := List.getElem?_eq_some_iff.mp h
  rw [← h2]
  exact List.Nodup.idxOf_getElem hnd j h1
theorem bits_eq (l : List Nat) : Krb8.bits l = (if l.contains 0 = true then 1 else 0) + (if l.contains 1 = true then 2 else 0) + (if l.contains 2 = true then 4 else 0) := by
  unfold Krb8.bits
  simp
end Ld
set_option Elab.async false
set_option maxRecDepth 100000
namespace Ld
open Krb7 (full both not_ within truth right why behind count answers)
open Krb8 (House act ordersOf)
section
variable {h : House} {x y i a k : Nat} {l : List Nat}
theorem ok_yes {p : Nat} (hp : p ≤ full h.m) : (!h.ok p) = false := by
  unfold House.ok
  rw [decide_eq_true hp]
  rfl
theorem ok_no {p : Nat} (hp : ¬ p ≤ full h.m) : (!h.ok p) = true := by
  unfold House.ok
  rw [decide_eq_false hp]
  rfl
theorem any_ok (hp : ∀ p ∈ l, p ≤ full h.m) : (l.any fun p => !(h.ok p)) = false := by
  rw [List.any_eq_false]
  intro p hm
  rw [ok_yes (hp p hm)]
  decide
theorem any_bad (hp : ∃ z ∈ l, ¬ z ≤ full h.m) : (l.any fun p => !(h.ok p)) = true := by
  obtain ⟨z, hz, hb⟩ := hp
  exact List.any_eq_true.mpr ⟨z, hz, ok_no hb⟩
theorem row_fine (hl : l.length ≤ 16) (hp : ∀ p ∈ l, p ≤ full h.m) : (decide (Krb8.mostRow < l.length) || l.any fun p => !(h.ok p)) = false := by
  rw [any_ok hp, decide_eq_false (show ¬ Krb8.mostRow < l.length by unfold Krb8.mostRow; omega)]
  rfl
theorem few_fine (hl : l.length ≤ 5) (hp : ∀ p ∈ l, p ≤ full h.m) : (decide (Krb8.mostOrder < l.length) || l.any fun p => !(h.ok p)) = false := by
  rw [any_ok hp, decide_eq_false (show ¬ Krb8.mostOrder < l.length by unfold Krb8.mostOrder; omega)]
  rfl
theorem few_bad (hb : 5 < l.length ∨ ∃ z ∈ l, ¬ z ≤ full h.m) : (decide (Krb8.mostOrder < l.length) || l.any fun p => !(h.ok p)) = true := by
  rw [Bool.or_eq_true]
  rcases hb with hb | hb
  · exact .inl (decide_eq_true (by unfold Krb8.mostOrder; exact hb))
  · exact .inr (any_bad hb)
theorem row_wrong (hb : 16 < l.length ∨ ∃ z ∈ l, ¬ z ≤ full h.m) : (decide (Krb8.mostRow < l.length) || l.any fun p => !(h.ok p)) = true := by
  rw [Bool.or_eq_true]
  rcases hb with hb | hb
  · exact .inl (decide_eq_true (by unfold Krb8.mostRow; exact hb))
  · exact .inr (any_bad hb)
theorem act_partner (hx : x ≤ full h.m) : act (some h) (.partner x) = (some h, match h.ps.find? fun q => h.clash x q with
    | none => Krb8.say (-33)
    | some q => Krb8.say q) := by
  show (some h, if (!(h.ok x)) = true then _ else _) = _
  rw [ok_yes hx]
  rfl
theorem act_caught (hl : l.length ≤ 16) (hp : ∀ p ∈ l, p ≤ full h.m) : act (some h) (.caught l) = (some h, { num := count h.m (h.held l), nums := Krb8.ints [h.held l] }) := by
  show (some h, if (decide (Krb8.mostRow < l.length) || l.any fun p => !(h.ok p)) = true then _ else _) = _
  rw [row_fine hl hp]
  rfl
theorem act_ways (hl : l.length ≤ 5) (hp : ∀ p ∈ l, p ≤ full h.m) : act (some h) (.ways l) = (some h, Krb8.say (h.ways l).length) := by
  show (some h, if (decide (Krb8.mostOrder < l.length) || l.any fun p => !(h.ok p)) = true then _ else _) = _
  rw [few_fine hl hp]
  rfl
theorem act_way (hl : l.length ≤ 5) (hp : ∀ p ∈ l, p ≤ full h.m) : act (some h) (.way k l) = (some h, match (h.ways l)[k]? with
    | none => Krb8.say (-33)
    | some r => Krb8.list r) := by
  show (some h, if (decide (Krb8.mostOrder < l.length) || l.any fun p => !(h.ok p)) = true then _ else _) = _
  rw [few_fine hl hp]
  rfl
theorem act_may (hl : l.length ≤ 5) (hp : ∀ p ∈ l, p ≤ full h.m) (hi : i < l.length) : act (some h) (.may i l) = (some h, Krb8.say (Krb8.bits ((ordersOf l).map fun o => h.gets l o i))) := by
  show (some h, if ((decide (Krb8.mostOrder < l.length) || l.any fun p => !(h.ok p)) || decide (l.length ≤ i)) = true then _ else _) = _
  rw [few_fine hl hp, decide_eq_false (by omega)]
  rfl
theorem act_order (hl : l.length ≤ 5) (hp : ∀ p ∈ l, p ≤ full h.m) (hi : i < l.length) (ha : a ≤ 2) : act (some h) (.order i a l) = (some h, match (ordersOf l).find? fun o => h.gets l o i == a with
    | none => Krb8.say (-33)
    | some o => Krb8.list o) := by
  show (some h, if ((decide (Krb8.mostOrder < l.length) || l.any fun p => !(h.ok p)) || (decide (l.length ≤ i) || decide (2 < a))) = true then _ else _) = _
  rw [few_fine hl hp, decide_eq_false (show ¬ l.length ≤ i by omega), decide_eq_false (show ¬ 2 < a by omega)]
  rfl
theorem act_matters (hl : l.length ≤ 5) (hp : ∀ p ∈ l, p ≤ full h.m) : act (some h) (.matters l) = (some h, Krb8.say (if (h.ways l).length ≤ 1 then 0 else 1)) := by
  show (some h, if (decide (Krb8.mostOrder < l.length) || l.any fun p => !(h.ok p)) = true then _ else _) = _
  rw [few_fine hl hp]
  rfl
theorem act_counts : act (some h) .counts = (some h, { num := (h.ps.filter fun p => h.alone p == 1).length, nums := Krb8.ints [(h.ps.filter fun p => h.alone p == 0).length, (h.ps.filter fun p => h.alone p == 2).length] }) := rfl
theorem act_bound (hx : x ≤ full h.m) : act (some h) (.bound x) = (some h, Krb8.say (if why h.laid x = 0 then 0 else 1)) := by
  show (some h, if (!(h.ok x)) = true then _ else _) = _
  rw [ok_yes hx]
  rfl
theorem act_state : act (some h) .state = (some h, { num := h.m, nums := Krb8.ints [h.known, h.laid] }) := rfl
theorem no_partner (hx : ¬ x ≤ full h.m) : act (some h) (.partner x) = (some h, Krb8.say (-22)) := by
  show (some h, if (!(h.ok x)) = true then _ else _) = _
  rw [ok_no hx]
  rfl
theorem no_bound (hx : ¬ x ≤ full h.m) : act (some h) (.bound x) = (some h, Krb8.say (-22)) := by
  show (some h, if (!(h.ok x)) = true then _ else _) = _
  rw [ok_no hx]
  rfl
theorem no_caught (hb : 16 < l.length ∨ ∃ z ∈ l, ¬ z ≤ full h.m) : act (some h) (.caught l) = (some h, Krb8.say (-22)) := by
  show (some h, if (decide (Krb8.mostRow < l.length) || l.any fun p => !(h.ok p)) = true then _ else _) = _
  rw [row_wrong hb]
  rfl
theorem no_ways (hb : 5 < l.length ∨ ∃ z ∈ l, ¬ z ≤ full h.m) : act (some h) (.ways l) = (some h, Krb8.say (-22)) := by
  show (some h, if (decide (Krb8.mostOrder < l.length) || l.any fun p => !(h.ok p)) = true then _ else _) = _
  rw [few_bad hb]
  rfl
theorem no_way (hb : 5 < l.length ∨ ∃ z ∈ l, ¬ z ≤ full h.m) : act (some h) (.way k l) = (some h, Krb8.say (-22)) := by
  show (some h, if (decide (Krb8.mostOrder < l.length) || l.any fun p => !(h.ok p)) = true then _ else _) = _
  rw [few_bad hb]
  rfl
theorem no_matters (hb : 5 < l.length ∨ ∃ z ∈ l, ¬ z ≤ full h.m) : act (some h) (.matters l) = (some h, Krb8.say (-22)) := by
  show (some h, if (decide (Krb8.mostOrder < l.length) || l.any fun p => !(h.ok p)) = true then _ else _) = _
  rw [few_bad hb]
  rfl
theorem no_may (hb : (5 < l.length ∨ ∃ z ∈ l, ¬ z ≤ full h.m) ∨ l.length ≤ i) : act (some h) (.may i l) = (some h, Krb8.say (-22)) := by
  show (some h, if ((decide (Krb8.mostOrder < l.length) || l.any fun p => !(h.ok p)) || decide (l.length ≤ i)) = true then _ else _) = _
  rw [if_pos]
  rw [Bool.or_eq_true]
  rcases hb with hb | hb
  · exact .inl (few_bad hb)
  · exact .inr (decide_eq_true hb)
theorem no_order (hb : (5 < l.length ∨ ∃ z ∈ l, ¬ z ≤ full h.m) ∨ l.length ≤ i ∨ 2 < a) : act (some h) (.order i a l) = (some h, Krb8.say (-22)) := by
  show (some h, if ((decide (Krb8.mostOrder < l.length) || l.any fun p => !(h.ok p)) || (decide (l.length ≤ i) || decide (2 < a))) = true then _ else _) = _
  rw [if_pos]
  rcases hb with hb | hb | hb
  · rw [few_bad hb]
    rfl
  · rw [decide_eq_true hb, Bool.true_or, Bool.or_true]
  · rw [decide_eq_true hb, Bool.or_true, Bool.or_true]
theorem held_le (hb : h.laid ≤ full h.m) : ∀ (l : List Nat) (b : Nat), b ≤ full h.m → l.foldl (fun b p => behind h.m b p (h.alone p)) b ≤ full h.m
  | [], b, q => q
  | p :: l, b, q => held_le hb l _ (behind_le q)
theorem held_snoc (l : List Nat) (p : Nat) : h.held (l ++ [p]) = behind h.m (h.held l) p (h.alone p) := by
  unfold House.held
  rw [List.foldl_append]
  rfl
theorem ways_fold : h.ways l = ((ordersOf l).map fun o => h.byPlace l o).foldl (fun a x => if a.contains x then a else a ++ [x]) [] := dups_fold _
theorem byPlace_len (o : List Nat) : (h.byPlace l o).length = l.length := by
  unfold House.byPlace
  rw [List.length_map, List.length_range]
theorem gets_at {o : List Nat} (ho : o ∈ ordersOf l) {j : Nat} (hj : o[j]? = some i) {z : Nat} (hz : (h.along (Krb8.inOrder l o))[j]? = some z) : h.gets l o i = z := by
  unfold House.gets
  rw [idxOf_at (orderOf_nodup ho) hj, List.getD_eq_getElem?_getD, hz]
  rfl
end
end Ld
set_option Elab.async false
set_option linter.all false
set_option maxRecDepth 100000
namespace Ld
open Krb7 (full both not_ within truth right why behind count answers)
open Krb8 (House ordersOf)
/-- one order more: its way, if it is new, with it -/
def addWay (g : List Nat → List Nat) (a : List (List Nat × List Nat)) (o : List Nat) : List (List Nat × List Nat) := if (a.map (·.1)).contains (g o) = true then a else a ++ [(g o, o)]
def firsts (g : List Nat → List Nat) (os : List (List Nat)) : List (List Nat × List Nat) := os.foldl (addWay g) []
theorem firsts_snoc (g : List Nat → List Nat) (os : List (List Nat)) (o : List Nat) : firsts g (os ++ [o]) = addWay g (firsts g os) o := by
  unfold firsts
  rw [List.foldl_append]
  rfl
theorem add_ways (g : List Nat → List Nat) : ∀ (os : List (List Nat)) (a : List (List Nat × List Nat)), (os.foldl (addWay g) a).map (·.1) = (os.map g).foldl (fun a x => if a.contains x then a else a ++ [x]) (a.map (·.1))
  | [], a => rfl
  | o :: os, a => by
    rw [List.foldl_cons, add_ways g os, List.map_cons, List.foldl_cons]
    congr 1
    unfold addWay
    by_cases c : (a.map (·.1)).contains (g o) = true
    · rw [if_pos c, if_pos c]
    · rw [if_neg c, if_neg c, List.map_append]
      rfl
theorem firsts_ways (h : House) (l : List Nat) : (firsts (h.byPlace l) (ordersOf l)).map (·.1) = h.ways l := by
  rw [ways_fold]
  exact add_ways _ _ []
theorem firsts_len (h : House) (l : List Nat) : (firsts (h.byPlace l) (ordersOf l)).length = (h.ways l).length := by
  rw [← firsts_ways, List.length_map]
/-- the first way of a kind has the first order of that kind -/
theorem add_find (g : List Nat → List Nat) (q : List Nat → Bool) : ∀ (os : List (List Nat)) (a : List (List Nat × List Nat)), (∀ x ∈ a, x.1 = g x.2) →
    ((os.foldl (addWay g) a).find? fun x => q x.1).map (·.2) = match a.find? fun x => q x.1 with
      | some x => some x.2
      | none => os.find? fun o => q (g o)
  | [], a, _ => by
    show ((a.find? fun x => q x.1).map (·.2)) = _
    cases a.find? fun x => q x.1 <;> rfl
  | o :: os, a, ha => by
    rw [List.foldl_cons]
    have ha' : ∀ x ∈ addWay g a o, x.1 = g x.2 := by
      intro x hx
      unfold addWay at hx
      by_cases c : (a.map (·.1)).contains (g o) = true
      · rw [if_pos c] at hx
        exact ha x hx
      · rw [if_neg c] at hx
        rcases List.mem_append.mp hx with hx | hx
        · exact ha x hx
        · rw [List.mem_singleton.mp hx]
    rw [add_find g q os _ ha']
    unfold addWay
    by_cases c : (a.map (·.1)).contains (g o) = true
    · rw [if_pos c]
      cases e : a.find? fun x => q x.1 with
      | some x => rfl
      | none =>
        have n : q (g o) = false := by
          obtain ⟨x, hx, hx2⟩ := List.mem_map.mp (List.contains_iff_mem.mp c)
          have := List.find?_eq_none.mp e x hx
          rw [← hx2]
          exact eq_false_of_ne_true this
        show (os.find? fun o => q (g o)) = (o :: os).find? fun o => q (g o)
        rw [List.find?_cons, n]
    · rw [if_neg c, List.find?_append]
      cases e : a.find? fun x => q x.1 with
      | some x => rfl
      | none =>
        rw [Option.none_or]
        by_cases n : q (g o) = true
        · have e1 : ([(g o, o)].find? fun x => q x.1) = some (g o, o) := by
            rw [List.find?_cons]
            show (match q (g o) with | true => some (g o, o) | false => _) = _
            rw [n]
          rw [e1, List.find?_cons, n]
        · have n := eq_false_of_ne_true n
          have e1 : ([(g o, o)].find? fun x => q x.1) = none := by
            rw [List.find?_cons]
            show (match q (g o) with | true => some (g o, o) | false => _) = _
            rw [n]
            rfl
          rw [e1, List.find?_cons, n]
theorem firsts_find (g : List Nat → List Nat) (q : List Nat → Bool) (os : List (List Nat)) : ((firsts g os).find? fun x => q x.1).map (·.2) = os.find? fun o => q (g o) := add_find g q os [] (fun x hx => nomatch hx)
theorem add_mem (g : List Nat → List Nat) : ∀ (os : List (List Nat)) (a : List (List Nat × List Nat)) (x : List Nat × List Nat), x ∈ os.foldl (addWay g) a → x ∈ a ∨ (x.2 ∈ os ∧ x.1 = g x.2)
  | [], a, x, h => .inl h
  | o :: os, a, x, h => by
    rw [List.foldl_cons] at h
    rcases add_mem g os _ x h with h | ⟨h1, h2⟩
    · unfold addWay at h
      by_cases c : (a.map (·.1)).contains (g o) = true
      · rw [if_pos c] at h
        exact .inl h
      · rw [if_neg c] at h
        rcases List.mem_append.mp h with h | h
        · exact .inl h
        · rw [List.mem_singleton.mp h]
          exact .inr ⟨List.mem_cons_self, rfl⟩
    · exact .inr ⟨List.mem_cons_of_mem _ h1, h2⟩
theorem firsts_mem {g : List Nat → List Nat} {os : List (List Nat)} {x : List Nat × List Nat} (h : x ∈ firsts g os) : x.2 ∈ os ∧ x.1 = g x.2 := by
  rcases add_mem g os [] x h with h | h
  · exact nomatch h
  · exact h
theorem add_le (g : List Nat → List Nat) : ∀ (os : List (List Nat)) (a : List (List Nat × List Nat)), (os.foldl (addWay g) a).length ≤ a.length + os.length
  | [], a => Nat.le_refl _
  | o :: os, a => by
    rw [List.foldl_cons]
    have h := add_le g os (addWay g a o)
    have h2 : (addWay g a o).length ≤ a.length + 1 := by
      unfold addWay
      split
      · omega
      · rw [List.length_append]
        exact Nat.le_refl _
    rw [List.length_cons]
    omega
theorem firsts_le (g : List Nat → List Nat) (os : List (List Nat)) : (firsts g os).length ≤ os.length := by
  have h := add_le g os []
  rw [List.length_nil, Nat.zero_add] at h
  exact h
theorem byPlace_at {h : House} {l o : List Nat} {i : Nat} (hi : i < l.length) : (h.byPlace l o).getD i 0 = h.gets l o i := by
  unfold House.byPlace
  rw [List.getD_eq_getElem?_getD, List.getElem?_map, List.getElem?_range hi]
  rfl
theorem ways_mem (h : House) (l w : List Nat) : w ∈ h.ways l ↔ ∃ o ∈ ordersOf l, h.byPlace l o = w := by
  unfold House.ways
  rw [List.mem_eraseDups, List.mem_map]
theorem bits_congr {a b : List Nat} (h : ∀ x, x ∈ a ↔ x ∈ b) : Krb8.bits a = Krb8.bits b := by
  rw [bits_eq, bits_eq]
  have e : ∀ x, a.contains x = b.contains x := fun x => by
    rw [Bool.eq_iff_iff, List.contains_iff_mem, List.contains_iff_mem]
    exact h x
  rw [e, e, e]
theorem bits_ways {h : House} {l : List Nat} {i : Nat} (hi : i < l.length) : Krb8.bits ((h.ways l).map fun w => w.getD i 0) = Krb8.bits ((ordersOf l).map fun o => h.gets l o i) := by
  apply bits_congr
  intro x
  constructor
  · intro hx
    obtain ⟨w, hw, rfl⟩ := List.mem_map.mp hx
    obtain ⟨o, ho, rfl⟩ := (ways_mem h l w).mp hw
    rw [byPlace_at hi]
    exact List.mem_map.mpr ⟨o, ho, rfl⟩
  · intro hx
    obtain ⟨o, ho, rfl⟩ := List.mem_map.mp hx
    exact List.mem_map.mpr ⟨h.byPlace l o, (ways_mem h l _).mpr ⟨o, ho, rfl⟩, byPlace_at hi⟩
theorem ext_len {all : List Nat} : ∀ {os : List (List Nat)} {k : Nat}, (∀ o ∈ os, o.length = k) → ∀ o ∈ ext all os, o.length = k + 1 := by
  intro os k h o ho
  unfold ext at ho
  obtain ⟨b, hb, h2⟩ := List.mem_flatMap.mp ho
  obtain ⟨x, _, rfl⟩ := List.mem_map.mp h2
  rw [List.length_append, h b hb]
  rfl
theorem extN_len {all : List Nat} : ∀ (k : Nat) {os : List (List Nat)} {j : Nat}, (∀ o ∈ os, o.length = j) → ∀ o ∈ extN all k os, o.length = j + k
  | 0, os, j, h, o, ho => h o ho
  | k + 1, os, j, h, o, ho => by
    have := extN_len (all := all) k (ext_len h) o ho
    omega
theorem ext_many (all : List Nat) : ∀ os : List (List Nat), (ext all os).length ≤ all.length * os.length
  | [] => Nat.le_refl _
  | o :: os => by
    have h := ext_many all os
    have e : ext all (o :: os) = (all.filter fun x => !o.contains x).map (fun x => o ++ [x]) ++ ext all os := by
      unfold ext
      rw [List.flatMap_cons]
    rw [e, List.length_append, List.length_map, List.length_cons, Nat.mul_succ]
    have := List.length_filter_le (fun x => !o.contains x) all
    omega
theorem extN_many (all : List Nat) (hall : all.length ≤ 5) : ∀ (k : Nat) (os : List (List Nat)), (extN all k os).length ≤ 5 ^ k * os.length
  | 0, os => by simp [extN]
  | k + 1, os => by
    have h1 := extN_many all hall k (ext all os)
    have h2 := ext_many all os
    have h3 : (ext all os).length ≤ 5 * os.length := Nat.le_trans h2 (Nat.mul_le_mul_right _ hall)
    show (extN all k (ext all os)).length ≤ _
    rw [Nat.pow_succ, Nat.mul_assoc]
    exact Nat.le_trans h1 (Nat.mul_le_mul_left _ h3)
theorem extN_bound {n : Nat} (hn : n ≤ 5) {k : Nat} (hk : k ≤ 6) : (extN (List.range n) k [[]]).length ≤ 15625 := by
  have h := extN_many (List.range n) (by rw [List.length_range]; exact hn) k [[]]
  have h2 : 5 ^ k ≤ 5 ^ 6 := Nat.pow_le_pow_right (by decide) hk
  have e : (5 : Nat) ^ 6 = 15625 := by decide
  simp only [List.length_cons, List.length_nil, Nat.zero_add, Nat.mul_one] at h
  omega
theorem orders_bound {l : List Nat} (hl : l.length ≤ 5) : (ordersOf l).length ≤ 15625 := by
  rw [orders_ext]
  exact extN_bound hl (by omega)
theorem orders_ne (l : List Nat) : ordersOf l ≠ [] := by
  intro e
  have h : (ordersOf l).length = _ := orders_len l.length (List.range l.length) List.length_range
  rw [e] at h
  have p : ∀ k : Nat, 0 < (Nat.rec 1 (fun n r => (n + 1) * r) k : Nat) := by
    intro k
    induction k with
    | zero => decide
    | succ k ih => exact Nat.mul_pos (Nat.succ_pos _) ih
  have := p l.length
  rw [← h] at this
  exact Nat.lt_irrefl _ this
theorem ways_ne (h : House) (l : List Nat) : 1 ≤ (h.ways l).length := by
  cases e : ordersOf l with
  | nil => exact absurd e (orders_ne l)
  | cons o os =>
    have : h.byPlace l o ∈ h.ways l := (ways_mem h l _).mpr ⟨o, by rw [e]; exact List.mem_cons_self, rfl⟩
    exact List.length_pos_of_mem this
theorem along_len : ∀ (m k b : Nat) (l : List Nat), (answers m k b l).1.length = l.length
  | m, k, b, [] => rfl
  | m, k, b, p :: l => by
    have h := along_len m k (behind m b p (right k b p)) l
    show ((right k b p) :: (answers m k (behind m b p (right k b p)) l).1).length = _
    rw [List.length_cons, h, List.length_cons]
/-- an order's places, each there once -/
theorem idx_lt {l o : List Nat} (ho : o ∈ ordersOf l) {i : Nat} (hi : i < l.length) : o.idxOf i < o.length := List.idxOf_lt_length_iff.mpr ((orderOf_mem ho i).mpr hi)
theorem idx_at {l o : List Nat} (ho : o ∈ ordersOf l) {i : Nat} (hi : i < l.length) : o[o.idxOf i]? = some i := by
  have h := idx_lt ho hi
  rw [List.getElem?_eq_getElem h, List.getElem_idxOf h]
theorem inOrder_len (l o : List Nat) : (Krb8.inOrder l o).length = o.length := by
  unfold Krb8.inOrder
  rw [List.length_map]
theorem count_filter (l : List Nat) (h : House) (a : Nat) : ((l.map fun p => h.alone p).countP fun x => x == a) = (l.filter fun p => h.alone p == a).length := by
  rw [List.countP_map, List.countP_eq_length_filter]
  rfl
end Ld
set_option Elab.async false
set_option linter.all false
set_option maxRecDepth 100000
set_option maxHeartbeats 2000000
namespace L2
open PySem PySem.Spec PyProof.Rows
/-- a def of the text that may be called by its name, with its promise -/
structure Cal (P : Program) (w : World) (K : PySem.W.Frag) (mg : Str → Option Value) (base : Heap) (k : Nat) (x : Str) (ps : List Str) (sp : Sp) : Prop where
  ex : ∃ f fd, FnOk P w K mg base CX0 k f fd ps sp ∧ mg x = some (.ref f) ∧ PySem.W.keepIn K (.ref f) = true ∧ Binds K fd ps []
/-- a method, with its promise -/
structure Mth (P : Program) (w : World) (K : PySem.W.Frag) (mg : Str → Option Value) (base : Heap) (C : Addr) (k : Nat) (m : Str) (ps : List Str) (sp : Sp) : Prop where
  ex : ∃ f fd, FnOk P w K mg base CX0 k f fd ps sp ∧ Meth K C m f ∧ Binds K fd ps []
/-- a class that may be called -/
structure Mkr (P : Program) (w : World) (K : PySem.W.Frag) (mg : Str → Option Value) (base : Heap) (C : Addr) (k : Nat) (x : Str) (ps : List Str) (sp : Sp) : Prop where
  ex : ∃ f fd, FnOk P w K mg base CX0 k f fd ps sp ∧ Mk K C f ∧ mg x = some (.ref C) ∧ Binds K fd ps []
/-- the text of a def, of a method, of an __init__ -/
def TxF (K : PySem.W.Frag) (mg : Str → Option Value) (x : Str) (st : Stmt) (ps : List Str) : Prop := ∃ f fd, Fun K x x st f fd ∧ mg x = some (.ref f) ∧ Binds K fd ps []
def TxM (K : PySem.W.Frag) (C : Addr) (m qual : Str) (st : Stmt) (ps : List Str) : Prop := ∃ f fd, Fun K m qual st f fd ∧ Meth K C m f ∧ Binds K fd ps []
def TxI (K : PySem.W.Frag) (mg : Str → Option Value) (C : Addr) (x qual : Str) (st : Stmt) (ps : List Str) : Prop := ∃ f fd, Fun K "__init__" qual st f fd ∧ Mk K C f ∧ mg x = some (.ref C) ∧ Binds K fd ps []
section
variable {P : Program} {w : World} {K : PySem.W.Frag} {mg : Str → Option Value} {base : Heap} {j k : Nat} {x m qual : Str} {ps N : List Str} {sp : Sp} {C : Addr} {st : Stmt}
theorem Cal.up (c : Cal P w K mg base j x ps sp) (h : j ≤ k) : Cal P w K mg base k x ps sp := by
  obtain ⟨f, fd, F, r⟩ := c.ex
  exact ⟨f, fd, F.mono h, r⟩
theorem Mth.up (c : Mth P w K mg base C j m ps sp) (h : j ≤ k) : Mth P w K mg base C k m ps sp := by
  obtain ⟨f, fd, F, r⟩ := c.ex
  exact ⟨f, fd, F.mono h, r⟩
theorem Mkr.up (c : Mkr P w K mg base C j x ps sp) (h : j ≤ k) : Mkr P w K mg base C k x ps sp := by
  obtain ⟨f, fd, F, r⟩ := c.ex
  exact ⟨f, fd, F.mono h, r⟩
/-- what is to be shown of a body -/
def Body (P : Program) (w : World) (K : PySem.W.Frag) (mg : Str → Option Value) (base : Heap) (k : Nat) (N : List Str) (qual : Str) (st : Stmt) (sp : Sp) : Prop :=
  ∀ (f : Addr) (cdv : Value) (A : Around) (outer : List Env) (s : Shared) (H : Hp) (vs : List V) (Q : VK) (E : XK), Room k (A.deeper (envOfC qual (defScope st) s.heap.objs.size f cdv)) → sp vs H Q E →
      ∃ t, PSs (cxOf CX0 P w K mg base N qual (defScope st) f cdv A outer s H E).nox (defBody st) t ∧ t { nx := fun _ H' => Q .non H', rt := Q } (start N vs) H
theorem TxF.cal (T : TxF K mg x st ps) (S : FnScope N ps (defScope st)) (len : ∀ vs H Q E, sp vs H Q E → vs.length = ps.length) (B : Body P w K mg base k N x st sp) : Cal P w K mg base (k + 1) x ps sp := by
  obtain ⟨f, fd, F, hm, hb⟩ := T
  exact ⟨f, fd, F.ok S len (B f), hm, F.kp, hb⟩
theorem TxM.mth (T : TxM K C m qual st ps) (S : FnScope N ps (defScope st)) (len : ∀ vs H Q E, sp vs H Q E → vs.length = ps.length) (B : Body P w K mg base k N qual st sp) : Mth P w K mg base C (k + 1) m ps sp := by
  obtain ⟨f, fd, F, hm, hb⟩ := T
  exact ⟨f, fd, F.ok S len (B f), hm, hb⟩
theorem TxI.mkr (T : TxI K mg C x qual st ps) (S : FnScope N ps (defScope st)) (len : ∀ vs H Q E, sp vs H Q E → vs.length = ps.length) (B : Body P w K mg base k N qual st sp) : Mkr P w K mg base C (k + 1) x ps sp := by
  obtain ⟨f, fd, F, hm, hg, hb⟩ := T
  exact ⟨f, fd, F.ok S len (B f), hm, hg, hb⟩
end
section
variable {X : Cx} {k : Nat} {ps : List Str} {sp : Sp} {x m : Str} {p pos apos : Pos} {e o : Expr} {es : List Expr} {ta : TE} {t : TA} {C : Addr}
theorem pe_cal (c : Cal X.prog X.w X.K X.mg X.base k x ps sp) (hr : Room k X.A) (hg : Gl X x) (ha : PA X (e :: es) t) (hdb : (x == ("__debug__" : Str)) = false := by decide)
    (he : starEach (e :: es) X.env = (false, eval e X.env) :: starEach es X.env := by rfl) (hpl : (backTo pos (starEach es X.env)).any (·.1) = false := by rfl) :
    PE X (.Call (.Name x p) (e :: es) [] pos) (tCall sp [] E0 t) := by
  obtain ⟨f, fd, F, hm, hk, hb⟩ := c.ex
  exact pe_call F hr hg hm hk hb .nil pass0 ha hdb he hpl
theorem pe_mth {pl : Sem Bool} (he : PE X o ta) (cl : Cls X.K C) (c : Mth X.prog X.w X.K X.mg X.base C k m ps sp) (hr : Room k X.A) (ha : PA X (e :: es) t)
    (hst : starEach (e :: es) X.env = (false, eval e X.env) :: starEach es X.env := by rfl) (hpl : (backTo pos (starEach es X.env)).any (·.1) = false := by rfl)
    (ht : eval (.Call (.Attribute o m apos) (e :: es) [] pos) X.env = (do
      let ov ← eval o X.env
      standAt apos.atName
      let (f, first) ← holding [ov] (getMethod ov m pl)
      callWith pos f first (backTo pos (starEach (e :: es) X.env)) (backToKw pos (keywordEach [] X.env))) := by rfl) :
    PE X (.Call (.Attribute o m apos) (e :: es) [] pos) (tMeth C m sp [] E0 ta t) := by
  obtain ⟨f, fd, F, hm, hb⟩ := c.ex
  exact pe_meth he cl hm F hr hb .nil pass0 ha hst hpl ht
theorem pe_mth0 {pl : Sem Bool} (he : PE X o ta) (cl : Cls X.K C) (c : Mth X.prog X.w X.K X.mg X.base C k m ps sp) (hr : Room k X.A)
    (ht : eval (.Call (.Attribute o m apos) [] [] pos) X.env = (do
      let ov ← eval o X.env
      standAt apos.atName
      let (f, first) ← holding [ov] (getMethod ov m pl)
      callWith pos f first (backTo pos (starEach [] X.env)) (backToKw pos (keywordEach [] X.env))) := by rfl) :
    PE X (.Call (.Attribute o m apos) [] [] pos) (tMeth C m sp [] E0 ta tNil) := by
  obtain ⟨f, fd, F, hm, hb⟩ := c.ex
  exact pe_meth0 he cl hm F hr hb .nil pass0 ht
theorem pe_mk0 (c : Mkr X.prog X.w X.K X.mg X.base C k x ps sp) (hr : Room (k + 1) X.A) (hg : Gl X x) (hdb : (x == ("__debug__" : Str)) = false := by decide) :
    PE X (.Call (.Name x p) [] [] pos) (tMake C sp [] E0 tNil) := by
  obtain ⟨f, fd, F, hm, hg2, hb⟩ := c.ex
  exact pe_make0 hm F hr hg hg2 hb .nil pass0 hdb
def Cst (mg : Str → Option Value) (x : Str) (v : Int) : Prop := ∃ t, mg x = some (.int v t)
theorem pe_cst {v : Int} (h : Cst X.mg x v) (hg : Gl X x) (hd : (x == ("__debug__" : Str)) = false := by decide) : PE X (.Name x pos) (tC (.int v)) := by
  obtain ⟨t, h⟩ := h
  exact pe_glob hg h ⟨t, rfl⟩ hd
def AdrT (K : PySem.W.Frag) (mg : Str → Option Value) (x : Str) (xs : List V) : Prop := ∃ a, mg x = some (.ref a) ∧ ∀ H, SqT K H a xs
def tAdrT (K : PySem.W.Frag) (xs : List V) : TE := fun _ H Q => ∀ a, (∀ H', SqT K H' a xs) → Q (.ref a) H
theorem pe_adr {xs : List V} (h : AdrT X.K X.mg x xs) (hg : Gl X x) (hd : (x == ("__debug__" : Str)) = false := by decide) : PE X (.Name x pos) (tAdrT X.K xs) := by
  obtain ⟨a, h, hs⟩ := h
  intro pins s σ H Q I q
  exact pe_glob (v := V.ref a) hg h rfl hd pins s σ H Q I (q a hs)
end
def kvOk : List DictEntry → List (Int × Int) → Bool
  | [], [] => true
  | e :: es, kv :: kvs => (match e.key with | .int i _ => decide (i = kv.1) | _ => false) && (match e.val with | .int i _ => decide (i = kv.2) | _ => false) && decide (e.hash = hashInt kv.1) && kvOk es kvs
  | _, _ => false
def kdOk (o : Obj) (kvs : List (Int × Int)) : Bool := match o.data with
  | .dict es _ => kvOk es.toList kvs
  | _ => false
def KDict (K : PySem.W.Frag) (mg : Str → Option Value) (x : Str) (kvs : List (Int × Int)) : Prop :=
  ∃ a o, mg x = some (.ref a) ∧ K.lookup a = some o ∧ o.ExactDict ∧ kdOk o kvs = true ∧ (a == sysModules) = false ∧ (kvs.map (·.1)).Nodup
/-- the pairs as the library wants them -/
theorem kv_pairs {P : Program} {w : World} : ∀ {es : List DictEntry} {kvs : List (Int × Int)}, kvOk es kvs = true →
    ∃ vs : List (Key × Value), (∀ e ∈ es, ∃ k, (mixKind P w).is k e.key = true ∧ e.hash = (mixKind P w).hash k) ∧ Pairs (mixKind P w) es vs ∧ vs.map (·.1) = kvs.map (fun kv => (Sum.inl kv.1 : Key)) ∧
      ∀ k, (∀ v, kvs.lookup k = some v → ∃ t, valueAt vs (Sum.inl k) = some (Value.int v t)) ∧ (kvs.lookup k = none → valueAt vs (Sum.inl k) = none)
  | [], [], _ => ⟨[], by simp, .nil, rfl, fun k => ⟨fun v h => (by cases h), fun _ => rfl⟩⟩
  | [], _ :: _, h => by cases h
  | _ :: _, [], h => by cases h
  | ⟨hh, ky, vl⟩ :: es, (k0, v0) :: kvs, h => by
    unfold kvOk at h
    simp only [Bool.and_eq_true, decide_eq_true_eq] at h
    obtain ⟨⟨⟨h1, h2⟩, h3⟩, h4⟩ := h
    obtain ⟨vs, p1, p2, p3, p4⟩ := kv_pairs (P := P) (w := w) h4
    obtain ⟨t1, rfl⟩ : ∃ t, ky = Value.int k0 t := by
      cases ky <;> simp at h1
      subst h1
      exact ⟨_, rfl⟩
    obtain ⟨t2, rfl⟩ : ∃ t, vl = Value.int v0 t := by
      cases vl <;> simp at h2
      subst h2
      exact ⟨_, rfl⟩
    refine ⟨(Sum.inl k0, Value.int v0 t2) :: vs, ?_, .cons (mixKind_int P w k0 t1) rfl p2, by rw [List.map_cons, List.map_cons, p3], fun k => ?_⟩
    · intro e he
      rcases List.mem_cons.mp he with rfl | he
      · exact ⟨Sum.inl k0, mixKind_int P w k0 t1, h3⟩
      · exact p1 e he
    · obtain ⟨q1, q2⟩ := p4 k
      by_cases e : k = k0
      · subst e
        have e1 : ((k, v0) :: kvs).lookup k = some v0 := by simp [List.lookup]
        have e2 : valueAt ((Sum.inl k, Value.int v0 t2) :: vs) (Sum.inl k : Key) = some (Value.int v0 t2) := by simp [valueAt]
        rw [e1, e2]
        exact ⟨fun v h => (by cases h; exact ⟨t2, rfl⟩), fun h => (by cases h)⟩
      · have e1 : ((k0, v0) :: kvs).lookup k = kvs.lookup k := by
          rw [List.lookup_cons]
          rw [show (k == k0) = false from beq_eq_false_iff_ne.mpr e]
        have n : ¬ (Sum.inl k0 : Key) = Sum.inl k := fun q => e (Sum.inl.inj q).symm
        have e2 : valueAt ((Sum.inl k0, Value.int v0 t2) :: vs) (Sum.inl k : Key) = valueAt vs (Sum.inl k) := by simp [valueAt, List.find?_cons, n]
        rw [e1, e2]
        exact ⟨q1, q2⟩
theorem kd_of {P : Program} {w : World} {K : PySem.W.Frag} {h : Heap} {a : Addr} {o : Obj} {kvs : List (Int × Int)} (X : K.In h) (l : K.lookup a = some o) (x : o.ExactDict) (c : kdOk o kvs = true) (nd : (kvs.map (·.1)).Nodup) :
    ∃ vs : List (Key × Value), h.DictOf (mixKind P w) a vs ∧ ∀ k, (∀ v, kvs.lookup k = some v → ∃ t, valueAt vs (Sum.inl k) = some (Value.int v t)) ∧ (kvs.lookup k = none → valueAt vs (Sum.inl k) = none) := by
  unfold kdOk at c
  cases hd : o.data with
  | dict es ep =>
    rw [hd] at c
    obtain ⟨vs, p1, p2, p3, p4⟩ := kv_pairs (P := P) (w := w) c
    refine ⟨vs, ⟨o, es, ep, X a o l, x, hd, fun e he => p1 e (by simpa using he), p2, ?_⟩, p4⟩
    rw [p3]
    have e : kvs.map (fun kv => (Sum.inl kv.1 : Key)) = (kvs.map (·.1)).map (Sum.inl : Int → Key) := by rw [List.map_map]; rfl
    rw [e]
    exact List.Pairwise.map _ (fun a b h q => h (Sum.inl.inj q)) nd
  | _ => rw [hd] at c; cases c
section
variable {X : Cx} {x : Str} {p pos apos cpos : Pos} {i f : Expr} {ty tx : TE} {kvs : List (Int × Int)}
def tKGet (kvs : List (Int × Int)) (ty : TE) : TE := fun σ H Q => ty σ H fun y H1 => ∃ k v, y = .int k ∧ kvs.lookup k = some v ∧ Q (.int v) H1
def tKGet2 (kvs : List (Int × Int)) (ty tx : TE) : TE := fun σ H Q => ty σ H fun y H1 => tx σ H1 fun z H2 => ∃ k d, y = .int k ∧ z = .int d ∧ Q (.int ((kvs.lookup k).getD d)) H2
/-- D[i] -/
theorem pe_kget (h : KDict X.K X.mg x kvs) (hg : Gl X x) (hi : PE X i ty) (hs : NoSl i) (hd : (x == ("__debug__" : Str)) = false := by decide) : PE X (.Subscript (.Name x p) i pos) (tKGet kvs ty) := by
  obtain ⟨a, o, h1, h2, h3, h4, h5, h6⟩ := h
  intro pins s σ H Q I h
  refine subD_of PySem.F.slot_dict_getitem.lookup hs (thn (pe_glob (v := V.ref a) hg h1 rfl hd pins s σ H (fun v H' => v = .ref a ∧ H' = H) I ⟨rfl, rfl⟩) fun u s1 ⟨v, H1, I1, r1, e1, e2⟩ => ?_)
  subst e1 e2
  obtain rfl : u = Value.ref a := r1
  refine thn (hi pins s1 σ H1 _ I1 h) fun iv s2 ⟨y, H2, I2, ry, k, v, ey, hv, q2⟩ => ?_
  subst ey
  obtain ⟨vs, dd, hvs⟩ := kd_of (P := X.prog) (w := X.w) I2.kIn h2 h3 h4 h6
  obtain ⟨t, ht⟩ := (hvs k).1 v hv
  exact ⟨dd.typeIs, wpAny_getItem_of (kV_is (k := Sum.inl k) ry) dd.mapOf ht ⟨.int v, H2, I2.tok _, ⟨t, rfl⟩, q2⟩⟩
/-- D.get(i, f) -/
theorem pe_kget2 (h : KDict X.K X.mg x kvs) (hg : Gl X x) (hi : PE X i ty) (hf : PE X f tx) (m : M2 X (.Name x p) "get" apos i f cpos) (hd : (x == ("__debug__" : Str)) = false := by decide) :
    PE X (.Call (.Attribute (.Name x p) "get" apos) [i, f] [] cpos) (tKGet2 kvs ty tx) := by
  obtain ⟨a, o, h1, h2, h3, h4, h5, h6⟩ := h
  intro pins s σ H Q I h
  refine wpAny_Call_method m.base m.few m.line PySem.F.plainAttrs_dict PySem.F.slot_dict_get PySem.F.type_dict_get (thn (pe_glob (v := V.ref a) hg h1 rfl hd pins s σ H (fun v H' => v = .ref a ∧ H' = H) I ⟨rfl, rfl⟩) fun u s1 ⟨v, H1, I1, r1, e1, e2⟩ => ?_)
  subst e1 e2
  obtain rfl : u = Value.ref a := r1
  obtain ⟨vs1, dd1, _⟩ := kd_of (P := X.prog) (w := X.w) I1.kIn h2 h3 h4 h6
  refine ⟨dd1.typeIs, fun b q => ?_, ?_⟩
  · cases q
    exact ⟨o, I1.kIn a o h2, h3.2.1⟩
  · rw [m.trees]
    refine Calls.callWith_builtin rfl (Calls.evalArgs_plain (Calls.spliced_cons (thn (hi pins s1 σ H1 _ I1 h) fun iv s2 ⟨y, H2, I2, ry, q2⟩ =>
      Calls.spliced_cons (thn (hf pins s2 σ H2 _ I2 q2) fun fv s3 ⟨z, H3, I3, rz, k, d, ey, ez, q3⟩ => Calls.spliced_nil ?_))))
    subst ey ez
    obtain ⟨vs, dd, hvs⟩ := kd_of (P := X.prog) (w := X.w) I3.kIn h2 h3 h4 h6
    refine call_meetsIn PySem.F.slot_dict_get dd.typeIs PySem.F.entry_dict_get (PySem.F.args_dict_get_3 _ _ _) (meets_dict_get_default (mixKind X.prog X.w) a (kV_is (k := Sum.inl k) ry) h5 fv) ⟨_, dd.mapOf, _, H3, I3.tok _, ?_, q3⟩
    cases hk : kvs.lookup k with
    | none =>
      rw [(hvs k).2 hk]
      exact rz
    | some v =>
      obtain ⟨t, ht⟩ := (hvs k).1 v hk
      rw [ht]
      exact ⟨t, rfl⟩
end
theorem Same.rfl {H : Hp} : Same H H := fun _ _ h => h
/-- a new object leaves all as it was -/
theorem Same.new {H : Hp} {p : Addr} {o : HO} (h : H p = none) : Same H (upd H p o) := fun b u e => by
  rw [upd_ne (ne_of_none e h)]
  exact e
/-- the list at p, new since H -/
def NewL (H H' : Hp) (p : Addr) (xs : List V) : Prop := Same H H' ∧ H p = none ∧ H' p = some (.lst xs)
theorem NewL.mk {H H' : Hp} {p : Addr} {xs : List V} (s : Same H H') (h : H' p = none) : NewL H (upd H' p (.lst xs)) p xs := ⟨s.trans (Same.new h), s.free h, upd_same⟩
theorem NewL.put {H H' : Hp} {p : Addr} {xs ys : List V} (n : NewL H H' p xs) : NewL H (upd H' p (.lst ys)) p ys := ⟨fun b u e => by
  rw [upd_ne (ne_of_none e n.2.1)]
  exact n.1 b u e, n.2.1, upd_same⟩
theorem NewL.on {H H' H2 : Hp} {p : Addr} {xs : List V} (n : NewL H H' p xs) (s : Same H' H2) : NewL H H2 p xs := ⟨n.1.trans s, n.2.1, s _ _ n.2.2⟩
theorem for_enum {K : PySem.W.Frag} {a : Addr} {xs : List V} {g : TG} {tb : TS} {D : Ends} {σ : St} {H : Hp} (Pv : Nat → St → Hp → Prop) (h0 : Pv 0 σ H) (hl : ∀ i σ H, i ≤ xs.length → Pv i σ H → SqL K H a xs)
    (hs : ∀ i x σ H T, xs[i]? = some x → Pv i σ H → H T = none → g (.ref T) σ (upd H T (.tup [.int (i : Nat), x])) fun σ2 H2 => tb { D with nx := Pv (i + 1), ct := Pv (i + 1), bk := D.nx } σ2 H2) (hd : ∀ σ H, Pv xs.length σ H → D.nx σ H) :
    ∃ W : Nat → Nat → St → Hp → Prop, (∃ m, W 0 m σ H) ∧ ∀ i m σ H, W i m σ H →
      ((Ite K a).stop i H ∧ D.nx σ H) ∨ ((Ite K a).go i H ∧ ∃ N : St → Hp → Prop, (∀ σ' H', N σ' H' → ∃ m', m' < m ∧ W (i + 1) m' σ' H') ∧ ∀ x H', (Ite K a).yld i H x H' → g x σ H' fun σ2 H2 => tb { D with nx := N, ct := N, bk := D.nx } σ2 H2) := by
  refine ⟨fun i m σ H => m = xs.length - i ∧ i ≤ xs.length ∧ Pv i σ H, ⟨xs.length, by simp, Nat.zero_le _, h0⟩, ?_⟩
  rintro i m σ H ⟨rfl, hi, p⟩
  have q := hl i σ H hi p
  by_cases hlt : i < xs.length
  · refine .inr ⟨⟨xs, xs[i], q, by simp [hlt]⟩, Pv (i + 1), fun σ' H' p' => ⟨xs.length - (i + 1), by omega, rfl, hlt, p'⟩, fun v H' y => ?_⟩
    obtain ⟨T, x, rfl, hT, rfl, y⟩ := y
    exact hs i x σ _ T (y xs q) p hT
  · have e : i = xs.length := by omega
    subst e
    exact .inl ⟨⟨xs, q, Nat.le_refl _⟩, hd σ H p⟩
section
variable {X : Cx} {K : PySem.W.Frag} {a b e : Expr} {ta tb : TE} {pos : Pos} {f : Str}
theorem pe_ixL (hK : X.K = K) (ha : PE X a ta) (hb : PE X b tb) (hs : PlainIx b) : PE X (.Subscript a b pos) (tOp (rIxL K) ta tb) := by
  subst hK
  exact pe_ix ix_list ha hb hs
theorem pe_ixT (hK : X.K = K) (ha : PE X a ta) (hb : PE X b tb) (hs : PlainIx b) : PE X (.Subscript a b pos) (tOp (rIxT K) ta tb) := by
  subst hK
  exact pe_ix ix_tup ha hb hs
theorem pe_fldK (hK : X.K = K) (he : PE X e ta) (hb : attributeBase e f X.env (eval e X.env) = eval e X.env) : PE X (.Attribute e f pos) (tFld K ta f) := by
  subst hK
  exact pe_fld he hb
end
end L2
set_option Elab.async false
set_option linter.all false
set_option maxRecDepth 100000
set_option maxHeartbeats 2000000
namespace L2
open PySem PySem.Spec PyProof.Rows
section
variable {prog : Program} {w : World} {K : Type} [DecidableEq K] {knd : HeapKind prog w K} {A : Around} {E : Value → Shared → Prop} {s : Shared} {d a : Addr} {k : K} {xs : List (K × Addr × Value)}
theorem setDefH {v : Value} {Q : Value → Shared → Prop} (hu : knd.room A) (hkey : knd.is s.heap k a) (hm : s.heap.DictOfH knd d xs) (hsz : xs.length ≤ sizeLine)
    (h1 : ∀ p, atKey xs k = some p → Q p.2 { s with toks := s.toks + knd.draws k })
    (h2 : atKey xs k = none → ∀ h', h'.DictOfH knd d (xs ++ [(k, a, v)]) → Heap.SameBut d s.heap h' → Q v { s with heap := h', toks := s.toks + knd.draws k }) :
    wpAny (model prog w) A (dictSetDefault d (.ref a) v) Q E s := by
  obtain ⟨ob, es, ep, ho, hc, hdt, hes, hin, hnd⟩ := hm
  have hsize := size_of_entries hes
  unfold dictSetDefault; try with_reducible refine wpAny_holding ?_
  refine wpAny_bind (knd.pyHash hu hkey (wpAny_bind (wpAny_dictFind_heap (s := { s with toks := s.toks + knd.draws k }) hu hkey ho hdt hes hin hnd ?_ ?_)))
  · intro hno
    have hnot : k ∉ xs.map (·.1) := not_mem_keys_of_get hno
    have hnone := atKey_none_of_get hno
    refine wpAny_bind (wpAny_rule (wpAny_bind (wpAny_updateDictKeys (hz := by omega) (s := { s with toks := s.toks + knd.draws k }) ho hdt (wpAny_pure (h2 hnone _ ⟨_, _, ep + 1,
      Heap.get?_update_self _ ho (Obj.isFreed_of_dict (Obj.data_mapDictKeys hdt _)), hc.mapDictKeys _, Obj.data_mapDictKeys hdt _, ?_, ?_, ?_⟩ (Heap.SameBut.update ..))))))
    · simp [hes, entryOfKey]
    · intro x hx
      rcases List.mem_append.mp hx with hx | hx
      · exact knd.keeps (hin x hx) ho hdt (Heap.SameBut.update ..)
      · have e := List.mem_singleton.mp hx; subst e; exact knd.keeps hkey ho hdt (Heap.SameBut.update ..)
    · rw [List.map_append, List.nodup_append]
      refine ⟨hnd, by simp, fun x hx y hy e => ?_⟩
      have e2 : y = k := by simpa using hy
      exact hnot (by rw [← e2, ← e]; exact hx)
  · intro j p hj
    refine wpAny_bind (wpAny_dictEntries (s := { s with toks := s.toks + knd.draws k }) ho hdt ?_)
    have e : es[j]? = some (entryOfKey knd (k, p)) := by rw [entry_at hes j, hj]; rfl
    rw [e]
    exact wpAny_bind (wpAny_rule (wpAny_pure (h1 p (atKey_of_get hnd hj))))
theorem meetsSetDef (knd : HeapKind prog w K) (d a : Addr) (hd : (d == sysModules) = false) (dflt : Value) :
    MeetsIn prog w (Builtin.«dict.setdefault» ⟨[.ref d, .ref a, dflt], []⟩) (fun A R s => knd.room A.in1 ∧ ∃ k xs, knd.is s.heap k a ∧ s.heap.DictOfH knd d xs ∧ xs.length ≤ sizeLine ∧
      (∀ p, atKey xs k = some p → R (.ok (.ret p.2)) { s with toks := s.toks + knd.draws k }) ∧
      (atKey xs k = none → ∀ h', h'.DictOfH knd d (xs ++ [(k, a, dflt)]) → Heap.SameBut d s.heap h' → R (.ok (.ret dflt)) { s with heap := h', toks := s.toks + knd.draws k })) :=
  .of_wp fun A R s ⟨hu, k, xs, hkey, hm, hz, q1, q2⟩ => by
    unfold Builtin.«dict.setdefault» Builtin.Dict.keyAndDefault
    refine wpAny_bind (wpAny_bind (wpAny_notOrdered_dict hm.typeIs ?_))
    show wpAny _ _ (pure (d, Value.ref a, some dflt)) _ _ s
    refine wpAny_pure ?_
    show wpAny _ _ (if (d == sysModules) = true then _ else (dictSetDefault d (.ref a) dflt >>= _)) _ _ s
    rw [hd, if_neg Bool.false_ne_true]
    exact wpAny_bind (setDefH hu hkey hm hz (fun p hp => wpAny_pure ⟨p.2, rfl, q1 p hp⟩) fun hn h' hm' hs' => wpAny_pure ⟨dflt, rfl, q2 hn h' hm' hs'⟩)
theorem meetsLenH (knd : HeapKind prog w K) (d : Addr) (hd : (d == sysModules) = false) :
    MeetsIn prog w (Builtin.«dict.__len__» ⟨[.ref d], []⟩) (fun _ R s => ∃ xs, s.heap.DictOfH knd d xs ∧ R (.ok (.ret (.int xs.length s.toks))) { s with toks := s.toks + 1 }) :=
  .of_wp fun A R s ⟨xs, hm, h⟩ => by
    obtain ⟨ob, es, ep, ho, hc, hdt, hes, hin, hnd⟩ := hm
    have hsize := size_of_entries hes
    show wpAny _ _ (dictSize d >>= _) _ _ s; unfold dictSize
    refine wpAny_bind (wpAny_bind (wpAny_dictEntries ho hdt (wpAny_pure ?_)))
    show wpAny _ _ (Builtin.Dict.pendingCount d >>= _) _ _ s
    refine wpAny_bind (wpAny_pendingCount_other hd (wpAny_ret_mkInt ?_))
    rw [Nat.add_zero, hsize]; exact h
theorem lenH {Q : Value → Shared → Prop} (hd : (d == sysModules) = false) (hm : s.heap.DictOfH knd d xs) (hfit : xs.length ≤ sizeLine) (h : ∀ t tk, Q (.int xs.length t) { s with toks := tk }) : wpAny (model prog w) A (call (.builtin "len") [.ref d]) Q E s := by
  have hsl := sizeLine_eq
  exact PyProof.Rows.call_len_slot (n := xs.length) hm.typeIs F.slot_dict_len (fun Q' hq => call_meetsIn F.slot_dict_len hm.typeIs F.entry_dict_len (F.args_dict_len_1 _) (meetsLenH knd d hd) ⟨xs, hm, hq⟩) (by omega) (by omega) (h _ _)
end
section
variable {prog : Program} {w : World} {A : Around} {E : Value → Shared → Prop} {s : Shared} {d : Addr} {ob : Obj} {es : Array DictEntry} {ep : Nat}
theorem walksRaw (hh : A.handled = none) (I : Addr) (hne : d ≠ I) (hdt : ob.data = .dict es ep) :
    Walks prog w A I [I, d] [I] es.size (fun i v => ∃ en, es[i]? = some en ∧ v = en.key) (fun i h => h.IsKeyIter I d i es.size ep ∧ h.get? d = some ob) where
  sub := fun b hb => by have e := List.mem_singleton.mp hb; rw [e]; exact List.mem_cons_self
  frame := fun _ _ _ st hk => ⟨st.1.at fun o e => hk I (by simp) o e, hk d (by simp) ob st.2⟩
  item := fun i s Q E hi st hQ => by
    refine next_key_item st.1 st.2 hdt rfl (Array.getElem?_eq_getElem hi) fun h' hit' hs' => ?_
    exact hQ _ h' s.toks ⟨_, Array.getElem?_eq_getElem hi, rfl⟩ ⟨hit', (hs'.2 d hne).trans st.2⟩ fun b o hb e => (hs'.2 b fun z => hb (by simp [z])).trans e
  done := fun s Q E st hQ => next_key_end hh st.1 st.2 hdt rfl (Nat.le_refl _) fun h' he' => hQ h' s.toks fun b o hb e => he' b o (fun z => hb (by simp [z])) e
  self := fun _ s _ _ st hQ => by
    refine wpAny_pyIter_slot st.1.typeIs F.slot_dict_keyiterator_iter (wpAny_call_entry F.slot_dict_keyiterator_iter st.1.typeIs F.entry_dict_keyiterator_iter ?_ (F.args_dict_keyiterator_iter_1 _))
    show wpAny _ _ (ret (.ref I)) _ _ s
    exact wpAny_pure ⟨_, rfl, "dict_keyiterator", _, st.1.typeIs, F.slot_dict_keyiterator_next.lookup, hQ⟩
theorem srcRaw (lo : (d == sysModules) = false) (hc : ob.ExactDict) (hdt : ob.data = .dict es ep) : PySem.W.KdlSrc prog w "dict" d d es.size (fun i v => ∃ en, es[i]? = some en ∧ v = en.key) (fun h => h.get? d = some ob) where
  type := fun _ hm => ⟨ob, hm, hc.1⟩
  there := fun _ hm => ⟨Heap.lt_size hm, Heap.lt_size hm⟩
  keep := fun _ _ hm hk => hk d (.inl rfl) ob hm
  notList := by decide
  notTuple := by decide
  hint := fun _ _ _ _ hm hq => PySem.W.kdl_hint_dict ⟨ob, hm, hc.1⟩ hq
  iter := fun _ _ hh hm => ⟨_, _, (fun _ _ hq => iter_keys lo hm hc hdt hq), walksRaw hh _ (Nat.ne_of_lt (Heap.lt_size hm)) hdt, ⟨⟨_, Heap.get?_push_size _ rfl, rfl, rfl⟩, Heap.get?_push_of_some _ hm⟩⟩
theorem listRaw {Q : Value → Shared → Prop} (hh : A.handled = none) (lo : (d == sysModules) = false) (hd : s.heap.get? d = some ob) (hc : ob.ExactDict) (hdt : ob.data = .dict es ep) (hn : es.size ≤ sizeLine)
    (h : ∀ h' tk c', (∀ b o, s.heap.get? b = some o → h'.get? b = some o) → h'.get? s.heap.objs.size = some { cls := .type "list", dict := none, data := .seq (es.toList.map (·.key)).toArray c', slots := #[] } → Q (.ref s.heap.objs.size) { s with heap := h', toks := tk }) :
    wpAny (model prog w) A (call (.type "list") [.ref d]) Q E s := by
  refine PySem.W.kdl_call (srcRaw lo hc hdt) hh hd hn fun h' tk acc' c' hk hS hacc => h h' tk c' hk ?_
  have e : acc' = (es.toList.map (·.key)).toArray := by
    apply Array.ext
    · rw [hacc.1]; simp
    · intro i h1 h2
      obtain ⟨en, e1, e2⟩ := hacc.2 i acc'[i] (Array.getElem?_eq_getElem h1)
      obtain ⟨h3, e3⟩ := Array.getElem?_eq_some_iff.mp e1
      rw [e2, ← e3]; simp
  rw [← e]; exact hS
theorem itemsView {Q : Value → Shared → Prop} {v : Addr} (hv : s.heap.IsItemsView v d) (hd : s.heap.get? d = some ob) (hdt : ob.data = .dict es ep)
    (hQ : Q (.ref s.heap.objs.size) { s with heap := s.heap.push { cls := .type "dict_itemiterator", data := .fields #[.none, .bool false, .ref d, .int 0 0, .int es.size 0, .int ep 0, .none, .none] } }) :
    wpAny (model prog w) A (pyIter (.ref v)) Q E s := by
  obtain ⟨ov, hov, hcv, hdv⟩ := id hv
  refine wpAny_pyIter_slot hv.typeIs F.slot_dict_items_iter (wpAny_call_entry F.slot_dict_items_iter hv.typeIs F.entry_dict_items_iter ?_ (F.args_dict_items_iter_1 _))
  unfold Builtin.«dict_items.__iter__»; refine wpAny_bind (wpAny_pure (wpAny_bind ?_))
  unfold Builtin.Dict_items.dictOf; refine wpAny_bind (wpAny_field hov hdv (x := .ref d) rfl (wpAny_pure (wpAny_bind ?_)))
  unfold Builtin.Dict_items.newIterator; refine wpAny_bind (wpAny_dictEntries hd hdt (wpAny_bind (wpAny_dictEpoch hd hdt ?_)))
  simp only [show Builtin.Dict_items.ownsTuple "dict_itemiterator" = true by decide, if_true]
  refine wpAny_newObj_type (wpAny_pure ⟨_, rfl, "dict_itemiterator", _, ⟨_, Heap.get?_push_size _ rfl, rfl⟩, F.slot_dict_itemiterator_next.lookup, ?_⟩)
    (by simp only [sizeOk, Builtin.Dict_items.ownedTupleFields, List.size_toArray, List.length_append, List.length_cons, List.length_nil, sizeLine_eq] <;> omega)
  simpa [rawInt, Builtin.Dict_items.ownedTupleFields] using hQ
theorem meetsItems (hlo : (d == sysModules) = false) (hT : ∀ s : Shared, s.heap.get? d = some ob → s.TypeIs (.ref d) "dict") :
    MeetsIn prog w (Builtin.«dict.items» ⟨[.ref d], []⟩) (fun _ R s => s.heap.get? d = some ob ∧ R (.ok (.ret (.ref s.heap.objs.size))) { s with heap := s.heap.push { cls := .type "dict_items", data := .fields #[.ref d] } }) :=
  .of_wp fun A R s ⟨hm, h⟩ => by
    unfold Builtin.«dict.items» Builtin.Dict.noArgs
    refine wpAny_bind (wpAny_bind (wpAny_notOrdered_dict (hT s hm) ?_))
    show wpAny _ _ (pure d) _ _ s
    refine wpAny_pure ?_
    show wpAny _ _ (Builtin.Dict.showsAll d >>= _) _ _ s
    unfold Builtin.Dict.showsAll; rw [hlo, if_neg Bool.false_ne_true]
    exact wpAny_bind (wpAny_pure (wpAny_bind (wpAny_newObj_type (wpAny_pure ⟨_, rfl, h⟩))))
theorem nextItem {it : Addr} {i n : Nat} {ok ov : Value} {en : DictEntry} {Q : Option Value → Shared → Prop} (hit : IsItemIter s.heap it d i n ep ok ov) (hod : s.heap.get? d = some ob) (hdd : ob.data = .dict es ep) (hsz : es.size = n) (hx : es[i]? = some en)
    (hQ : ∀ h', IsItemIterOut h' it d (i + 1) n ep en.key en.val s.heap.objs.size → h'.get? s.heap.objs.size = some { cls := .type "tuple", data := .seq #[en.key, en.val] } → h'.objs.size = s.heap.objs.size + 1 →
      (∀ b o, b ≠ it → s.heap.get? b = some o → h'.get? b = some o) → Q (some (.ref s.heap.objs.size)) { s with heap := h' }) : wpAny (model prog w) A (pyNext (.ref it)) Q E s := by
  obtain ⟨hp, g, dr, tk, os⟩ := s
  have hT : Shared.TypeIs ⟨hp, g, dr, tk, os⟩ (.ref it) "dict_itemiterator" := ⟨_, hit, rfl⟩
  unfold pyNext
  refine wpAny_bind (wpAny_attempt (wpAny_callSpecial?_slot (name := Str.ofString "__next__") hT F.slot_dict_itemiterator_next (wpAny_call_entry F.slot_dict_itemiterator_next hT F.entry_dict_itemiterator_next ?_ (F.args_dict_itemiterator_next_1 _))))
  refine wpAny_bind (wpAny_pure (wpAny_bind (wpAny_bind ?_)))
  first | refine wpAny_bind (wpAny_typeNameOfWhole_itemiter hT (wpAny_pure (wpAny_bind (wpAny_fieldsOf hit rfl ?_)))) | refine wpAny_bind (wpAny_typeNameOf_itemiter hT (wpAny_pure (wpAny_bind (wpAny_fieldsOf hit rfl ?_))))
  simp only [show Builtin.Dict_items.ownsTuple "dict_itemiterator" = true by decide, if_true]
  show wpAny _ _ (if (Value.ref d == Value.none) = true then _ else _) _ _ _
  rw [show (Value.ref d == Value.none) = false from rfl, if_neg Bool.false_ne_true]
  refine wpAny_bind (wpAny_pure (wpAny_bind (wpAny_dictEntries hod hdd ?_)))
  rw [hsz, if_neg (by simp)]
  refine wpAny_bind (wpAny_pure (wpAny_bind (wpAny_dictEpoch hod hdd ?_)))
  rw [if_neg (by simp)]; refine wpAny_pure ?_
  obtain ⟨hlt', hen⟩ := Array.getElem?_eq_some_iff.mp hx
  simp only [show ¬ ((i : Int) < 0) from by omega, if_false, Int.toNat_natCast, hx]; refine wpAny_bind ?_
  first | refine wpAny_bind (wpAny_typeNameOfWhole_itemiter hT (wpAny_pure (wpAny_bind (wpAny_isOneOf_itemiter hT ?_)))) | refine wpAny_bind (wpAny_typeNameOf_itemiter hT (wpAny_pure (wpAny_bind (wpAny_isOneOf_itemiter hT ?_))))
  show wpAny _ _ (setField (.ref it) 3 (rawInt ((i : Int) + 1)) >>= _) _ _ ⟨hp, g, dr, tk, os⟩
  refine wpAny_bind (wpAny_setField_rec hit (by simp) fun h1 he1 hs1 => ?_)
  replace hs1 : Heap.SameBut it hp h1 := hs1
  replace he1 : IsItemIter h1 it d (i + 1) n ep ok ov := by
    have e : ((i + 1 : Nat) : Int) = (i : Int) + 1 := by omega
    unfold IsItemIter; rw [e]; simpa [rawInt] using he1
  have hT1 : Shared.TypeIs ⟨h1, g, dr, tk, os⟩ (.ref it) "dict_itemiterator" := ⟨_, he1, rfl⟩
  refine wpAny_bind (wpAny_holding (wpAny_bind (wpAny_isOneOf_itemiter hT1 (wpAny_bind (wpAny_isOneOf_itemiter hT1 ?_)))))
  show wpAny _ _ (Builtin.Dict_items.pairFromOwner (.ref it) 6 en.key en.val) _ _ ⟨h1, g, dr, tk, os⟩
  unfold Builtin.Dict_items.pairFromOwner
  refine wpAny_bind (wpAny_newTuple ?_)
  have he2 : IsItemIter (h1.push { cls := .type "tuple", data := .seq #[en.key, en.val] }) it d (i + 1) n ep ok ov := Heap.get?_push_of_some _ he1
  generalize hh2 : h1.push { cls := .type "tuple", data := .seq #[en.key, en.val] } = h2 at he2
  have hz1 : h1.objs.size = hp.objs.size := hs1.1
  have hil : hp.objs.size ≠ it := Nat.ne_of_gt (Heap.lt_size hit)
  have ht2 : h2.get? hp.objs.size = some { cls := .type "tuple", data := .seq #[en.key, en.val] } := by rw [← hh2, ← hz1]; exact Heap.get?_push_size _ rfl
  have hz2 : h2.objs.size = hp.objs.size + 1 := by rw [← hh2, Heap.size_push, hz1]
  have hk2 : ∀ b o, b ≠ it → hp.get? b = some o → h2.get? b = some o := fun b o hb e => by rw [← hh2]; exact Heap.get?_push_of_some _ (hs1.extBut b o hb e)
  show wpAny _ _ (Builtin.Dict_items.ownedTupleIsFree (.ref it) >>= _) _ _ ⟨h2, g, dr, tk, os⟩
  rw [hz1]; clear hh2 he1 hs1 hT1 hz1 h1; refine wpAny_bind ?_
  unfold Builtin.Dict_items.ownedTupleIsFree
  refine wpAny_bind (wpAny_field he2 rfl (x := .none) rfl (wpAny_pure ?_)); simp only [if_true]
  refine wpAny_bind (wpAny_field he2 rfl (x := ok) rfl (wpAny_bind (wpAny_field he2 rfl (x := ov) rfl (wpAny_bind (wpAny_setField_rec he2 (by simp) fun h3 he3 hs3 => ?_)))))
  replace hs3 : Heap.SameBut it h2 h3 := hs3; replace he3 : IsItemIter h3 it d (i + 1) n ep en.key ov := he3
  refine wpAny_bind (wpAny_setField_rec he3 (by simp) fun h4 he4 hs4 => ?_)
  replace hs4 : Heap.SameBut it h3 h4 := hs4; replace he4 : IsItemIter h4 it d (i + 1) n ep en.key en.val := he4
  refine wpAny_bind (wpAny_setField_rec he4 (by simp) fun h5 he5 hs5 => ?_)
  replace hs5 : Heap.SameBut it h4 h5 := hs5; replace he5 : IsItemIterOut h5 it d (i + 1) n ep en.key en.val hp.objs.size := he5
  refine wpAny_bind (wpAny_setField_rec he5 (by simp) fun h6 he6 hs6 => ?_)
  replace hs6 : Heap.SameBut it h5 h6 := hs6; replace he6 : IsItemIterOut h6 it d (i + 1) n ep en.key en.val hp.objs.size := he6
  have kk : ∀ b o, b ≠ it → h2.get? b = some o → h6.get? b = some o := fun b o hb e => hs6.extBut b o hb (hs5.extBut b o hb (hs4.extBut b o hb (hs3.extBut b o hb e)))
  refine wpAny_bind (wpAny_letGo (wpAny_pure (wpAny_pure ⟨_, rfl, wpAny_pure (hQ h6 he6 (kk _ _ hil ht2) ?_ fun b o hb e => kk b o hb (hk2 b o hb e))⟩)))
  show h6.objs.size = hp.objs.size + 1
  rw [hs6.1, hs5.1, hs4.1, hs3.1, hz2]
theorem nextItemEnd {it : Addr} {i n : Nat} {ok ov : Value} {Q : Option Value → Shared → Prop} (hh : A.handled = none) (hit : IsItemIter s.heap it d i n ep ok ov) (hod : s.heap.get? d = some ob) (hdd : ob.data = .dict es ep) (hsz : es.size = n) (hge : n ≤ i)
    (hQ : ∀ h', Heap.ExtBut it s.heap h' → Q none { s with heap := h' }) : wpAny (model prog w) A (pyNext (.ref it)) Q E s := by
  have hT : s.TypeIs (.ref it) "dict_itemiterator" := ⟨_, hit, rfl⟩
  unfold pyNext
  refine wpAny_bind (wpAny_attempt (wpAny_callSpecial?_slot (name := Str.ofString "__next__") hT F.slot_dict_itemiterator_next (wpAny_call_entry F.slot_dict_itemiterator_next hT F.entry_dict_itemiterator_next ?_ (F.args_dict_itemiterator_next_1 _))))
  refine wpAny_bind (wpAny_pure (wpAny_bind (wpAny_bind ?_)))
  first | refine wpAny_bind (wpAny_typeNameOfWhole_itemiter hT (wpAny_pure (wpAny_bind (wpAny_fieldsOf hit rfl ?_)))) | refine wpAny_bind (wpAny_typeNameOf_itemiter hT (wpAny_pure (wpAny_bind (wpAny_fieldsOf hit rfl ?_))))
  simp only [show Builtin.Dict_items.ownsTuple "dict_itemiterator" = true by decide, if_true]
  show wpAny _ _ (if (Value.ref d == Value.none) = true then _ else _) _ _ s
  rw [show (Value.ref d == Value.none) = false from rfl, if_neg Bool.false_ne_true]
  refine wpAny_bind (wpAny_pure (wpAny_bind (wpAny_dictEntries hod hdd ?_)))
  rw [hsz, if_neg (by simp)]
  refine wpAny_bind (wpAny_pure (wpAny_bind (wpAny_dictEpoch hod hdd ?_)))
  rw [if_neg (by simp)]; refine wpAny_pure ?_
  have hge' : es.size ≤ i := by omega
  simp only [show ¬ ((i : Int) < 0) from by omega, if_false, Int.toNat_natCast, Array.getElem?_eq_none hge']; refine wpAny_bind ?_
  first | refine wpAny_bind (wpAny_typeNameOfWhole_itemiter hT (wpAny_pure ?_)) | refine wpAny_bind (wpAny_typeNameOf_itemiter hT (wpAny_pure ?_))
  show wpAny _ _ (setField (.ref it) 2 .none >>= _) _ _ s
  refine wpAny_bind (wpAny_setField hit rfl (by simp) ?_)
  show wpAny _ _ (newExc (.type "StopIteration") [] >>= _) _ _ _
  refine wpAny_bind ?_; simp only [newExc, newTuple]
  refine wpAny_bind (wpAny_newObj_type (wpAny_bind (m := firstArgMember _ _) (wpAny_of_eq (a := Value.none) (by first | rfl | (simp only [firstArgMember]; rfl)) (wpAny_newObj_type ?_ (by size_fits)))) (by size_fits))
  simp only [raiseNew]; refine wpAny_bind (wpAny_handled ?_)
  rw [show A.in1.handled = none from hh]
  refine wpAny_bind (wpAny_pure (wpAny_throw ?_)); refine wpAny_bind (wpAny_isInstance (T := "StopIteration") (b := true) ⟨_, Heap.get?_push_size _ rfl, rfl⟩ isSubtype_stop ?_)
  exact wpAny_pure (hQ _ (((Heap.SameBut.update ..).extBut.push _).push _))
end
theorem tupleIndex (l : Addr) (items : Array Value) (n : Nat) (dd : Option Addr) (sl : Array (Option Value)) (x : Value) (e : Value → Bool) (j : Nat) (hj : j < items.size) (hit : e items[j] = true) (hno : ∀ m (hm : m < items.size), m < j → e items[m] = false) :
    Meets (Builtin.«tuple.index» ⟨[.ref l, x], []⟩)
      (fun A R s => s.heap.get? l = some { cls := .type "tuple", dict := dd, data := .seq items n, slots := sl } ∧ (∀ y, y ∈ items → SeqAt.EqAt A.in1 s y x (e y)) ∧ R (.ok (.ret (.int j s.toks))) { s with toks := s.toks + 1 }) :=
  .of_wp fun prog w A R s h => by
    obtain ⟨hp, g, d, tk, os⟩ := s; obtain ⟨hl, he, h⟩ := h
    unfold Builtin.«tuple.index»; simp only [Std.Legacy.Range.forIn_eq_forIn_range']
    wp_walk using AutoSeq1.wpAny_loadPart' hl, wpAny_forIn_list _ (fun rest (b : Option Fin × Unit) s' => b.1 = none ∧ s' = ⟨hp, g, d, tk, os⟩ ∧ ∃ i, i ≤ j ∧ rest = List.range' i (items.size - i)) _
    case turn =>
      rintro y rest b s' ⟨hb, rfl, i, hi, hr⟩
      have hlt : i < items.size := by omega
      obtain ⟨k, hk⟩ : ∃ k, items.size - i = k + 1 := ⟨items.size - i - 1, by omega⟩
      rw [hk, List.range'_succ] at hr
      injection hr with h1 h2
      subst h1
      rw [Array.getElem?_eq_getElem hlt]
      refine wpAny_bind (he _ (Array.getElem_mem hlt) prog w _ _ ?_)
      by_cases hij : y = j
      · subst hij
        rw [hit]
        wp_walk
        exact ⟨_, rfl, h⟩
      · rw [hno y hlt (by omega)]
        wp_walk
        exact ⟨rfl, rfl, y + 1, by omega, by rw [h2, show items.size - (y + 1) = k by omega]⟩
    case fin =>
      rintro b s' ⟨hb, rfl, i, hi, hr⟩
      have := congrArg List.length hr
      rw [List.length_range', List.length_nil] at this
      omega
    case h =>
      exact ⟨rfl, rfl, 0, Nat.zero_le _, by simp [Std.Legacy.Range.size]⟩
end L2
set_option Elab.async false
set_option linter.all false
set_option maxRecDepth 100000
set_option maxHeartbeats 2000000
namespace Ld
open PySem PySem.Spec PyProof.Rows L2
open Krb7 (full both not_ within truth right why behind count)
def top (i : Nat) : Stmt := PySem.Challenge.pw_laiddown_s01_answers.main.body.getD i (.Pass ⟨0, 0, 0, 0⟩)
/-- a natural number as a value -/
abbrev iV (n : Nat) : V := .int (n : Int)
theorem iV_inj {a b : Nat} (h : iV a = iV b) : a = b := by
  injection h with h
  omega
theorem iV_dec {a b : Nat} (h : decide (iV a = iV b) = true) : a = b := iV_inj (of_decide_eq_true h)
theorem iV_ndec {a b : Nat} (h : ¬ decide (iV a = iV b) = true) : ¬ a = b := fun e => h (by rw [e]; exact decide_eq_true rfl)
theorem and_nat (a b : Nat) : Builtin.bitAnd (a : Int) (b : Int) = ((a &&& b : Nat) : Int) := by
  unfold Builtin.bitAnd
  rw [decide_eq_true (show (0 : Int) ≤ (a : Int) by omega), decide_eq_true (show (0 : Int) ≤ (b : Int) by omega)]
  simp only [Int.toNat_natCast]
theorem op_andN {X : Cx} : OpR X (binaryOp .BitAnd) (fun x y H Q => ∃ a b : Nat, x = iV a ∧ y = iV b ∧ Q (iV (a &&& b)) H) := by
  intro pins s σ H x y v u Q I rx ry h
  obtain ⟨a, b, rfl, rfl, q⟩ := h
  exact op_and pins s σ H _ _ v u Q I rx ry ⟨_, _, rfl, rfl, by show Q (V.int (Builtin.bitAnd a b)) H; rw [and_nat]; exact q⟩
theorem op_subN {X : Cx} : OpR X (binaryOp .Sub) (fun x y H Q => ∃ a b : Nat, x = iV a ∧ y = iV b ∧ b ≤ a ∧ Q (iV (a - b)) H) := by
  intro pins s σ H x y v u Q I rx ry h
  obtain ⟨a, b, rfl, rfl, hl, q⟩ := h
  have e : (a : Int) - (b : Int) = ((a - b : Nat) : Int) := by omega
  exact op_sub pins s σ H _ _ v u Q I rx ry ⟨_, _, rfl, rfl, by show Q (V.int ((a : Int) - (b : Int))) H; rw [e]; exact q⟩
/-- of all letters: all worlds; 0 where there are none such -/
def everyOf (m : Nat) : Nat := if m = 1 then 3 else if m = 2 then 15 else if m = 3 then 255 else 0
theorem every_lets {m : Nat} (h : Lets m) : everyOf m = full m := by
  rcases h with rfl | rfl | rfl <;> rfl
theorem every_zero {m : Nat} : everyOf m = 0 ↔ ¬ Lets m := by
  unfold everyOf Lets
  constructor
  · intro h
    repeat' split at h
    all_goals omega
  · intro h
    repeat' split
    all_goals omega
structure Txt (K : PySem.W.Frag) (mg : Str → Option Value) (C : Addr) : Prop where
  c_NOT_BEGUN : Cst mg "NOT_BEGUN" (-11)
  c_NOT_RIGHT : Cst mg "NOT_RIGHT" (-22)
  c_CANNOT_BE : Cst mg "CANNOT_BE" (-33)
  c_DENIED : Cst mg "DENIED" 0
  c_CONCEDED : Cst mg "CONCEDED" 1
  c_DOUBTED : Cst mg "DOUBTED" 2
  c_NO_MATTER : Cst mg "NO_MATTER" 0
  c_FOLLOWS : Cst mg "FOLLOWS" 1
  c_AGAINST : Cst mg "AGAINST" 2
  c_BEGIN : Cst mg "BEGIN" 0
  c_LAY : Cst mg "LAY" 1
  c_LEARN : Cst mg "LEARN" 2
  c_ALONE : Cst mg "ALONE" 3
  c_ALONEROW : Cst mg "ALONEROW" 4
  c_ALONG : Cst mg "ALONG" 5
  c_PARTS : Cst mg "PARTS" 6
  c_CLASH : Cst mg "CLASH" 7
  c_CLASHES : Cst mg "CLASHES" 8
  c_NTH : Cst mg "NTH" 9
  c_PARTNER : Cst mg "PARTNER" 10
  c_WAYS : Cst mg "WAYS" 12
  c_WAY : Cst mg "WAY" 13
  c_MAY : Cst mg "MAY" 14
  c_ORDER : Cst mg "ORDER" 15
  c_COUNTS : Cst mg "COUNTS" 17
  c_LONGEST_ROW : Cst mg "LONGEST_ROW" 16
  c_LONGEST_ROW_IN_ALL_ORDERS : Cst mg "LONGEST_ROW_IN_ALL_ORDERS" 5
  d_WORLDS_BY_LETTERS : KDict K mg "WORLDS_BY_LETTERS" [(1, 3), (2, 15), (3, 255)]
  d_NUMBERS_AHEAD : KDict K mg "NUMBERS_AHEAD" [(0, 3), (1, 1), (2, 1), (3, 1), (4, 0), (5, 0), (6, 0), (7, 2), (8, 0), (9, 1), (10, 1), (11, 0), (12, 0), (13, 1), (14, 1), (15, 2), (16, 0), (17, 0), (18, 1), (19, 0)]
  a_COUNTED : AdrT K mg "COUNTED" (([1, 2, 4] : List Int).map V.int)
  a_WITH_ROW : AdrT K mg "WITH_ROW" (([4, 5, 6, 11, 12, 13, 14, 15, 16] : List Int).map V.int)
  a_IN_ALL_ORDERS : AdrT K mg "IN_ALL_ORDERS" (([12, 13, 14, 15, 16] : List Int).map V.int)
  a_OF_PROPOSITIONS : AdrT K mg "OF_PROPOSITIONS" (([1, 2, 3, 7, 10, 18] : List Int).map V.int)
  n_all : mg "all" = none
  n_enumerate : mg "enumerate" = none
  n_len : mg "len" = none
  n_list : mg "list" = none
  n_range : mg "range" = none
  n_sum : mg "sum" = none
  n_tuple : mg "tuple" = none
  cl : Cls K C
  n_letters : NoAttr K C "letters"
  n_every : NoAttr K C "every"
  n_known : NoAttr K C "known"
  n_laid : NoAttr K C "laid"
section
variable {P : Program} {w : World} {K : PySem.W.Frag} {mg : Str → Option Value} {base : Heap} {C : Addr} {k : Nat}
abbrev s_all_worlds : Stmt := top 11
theorem sc_all_worlds : FnScope ["letters"] ["letters"] (defScope s_all_worlds) := ⟨rfl, rfl, rfl, by decide +kernel, rfl, by decide +kernel, by decide +kernel⟩
def sp_all_worlds : Sp := fun vs H Q _ => ∃ m : Nat, vs = [iV m] ∧ Q (iV (everyOf m)) H
theorem kv_worlds (m : Nat) : ((([(1, 3), (2, 15), (3, 255)] : List (Int × Int)).lookup (m : Int)).getD 0) = (everyOf m : Int) := by
  unfold everyOf
  by_cases h1 : m = 1
  · subst h1; rfl
  by_cases h2 : m = 2
  · subst h2; rfl
  by_cases h3 : m = 3
  · subst h3; rfl
  have e1 : ((m : Int) == 1) = false := beq_eq_false_iff_ne.mpr (by omega)
  have e2 : ((m : Int) == 2) = false := beq_eq_false_iff_ne.mpr (by omega)
  have e3 : ((m : Int) == 3) = false := beq_eq_false_iff_ne.mpr (by omega)
  simp only [List.lookup, e1, e2, e3, if_neg h1, if_neg h2, if_neg h3]
  rfl
theorem ok_all_worlds (F : TxF K mg "all_worlds" s_all_worlds ["letters"]) (T : Txt K mg C) : Cal P w K mg base (k + 1) "all_worlds" ["letters"] sp_all_worlds := by
  refine F.cal sc_all_worlds (fun vs H Q E h => ?_) (fun f cdv A outer s H vs Q E hr h => ?_)
  · obtain ⟨m, rfl, _⟩ := h
    rfl
  · obtain ⟨m, rfl, q⟩ := h
    have nd := sc_all_worlds.nd
    refine ⟨_, (pss_one (ps_ret (pe_kget2 T.d_WORLDS_BY_LETTERS rfl (pv 0) pe_int ⟨rfl, rfl, rfl, rfl⟩))), ?_⟩
    refine ⟨_, rfl, _, _, rfl, rfl, ?_⟩
    rw [kv_worlds]
    exact q
abbrev s_how_many : Stmt := top 12
theorem sc_how_many : FnScope ["worlds", "found", "rest"] ["worlds"] (defScope s_how_many) := ⟨rfl, rfl, rfl, by decide +kernel, rfl, by decide +kernel, by decide +kernel⟩
def sp_how_many : Sp := fun vs H Q _ => ∃ n : Nat, n < 256 ∧ vs = [iV n] ∧ Q (iV (pcF 8 n)) H
theorem ok_how_many (F : TxF K mg "how_many" s_how_many ["worlds"]) : Cal P w K mg base (k + 1) "how_many" ["worlds"] sp_how_many := by
  refine F.cal sc_how_many (fun vs H Q E h => ?_) (fun f cdv A outer s H vs Q E hr h => ?_)
  · obtain ⟨m, _, rfl, _⟩ := h
    rfl
  · obtain ⟨n, hn, rfl, q⟩ := h
    have nd := sc_how_many.nd
    refine ⟨_, (pss_cons (ps_set (i := 1) nd rfl (Or.inl rfl) pe_int)
      (pss_cons (ps_set (i := 2) nd rfl (Or.inl rfl) (pv 0))
      (pss_cons (ps_while PassesOwn.never (pt_cmpR op_gt (pv 2) pe_int (nomark _)) (pss_cons (ps_set (i := 1) nd rfl (Or.inl rfl) (pe_op op_add (pv 1) (pe_op op_mod (pv 2) pe_int)))
      (pss_one (ps_set (i := 2) nd rfl (Or.inl rfl) (pe_op op_fdiv (pv 2) pe_int)))))
      (pss_one (ps_ret (pv 1)))))), ?_⟩
    refine ⟨_, rfl, ?_⟩
    refine ⟨fun m σ H' => H' = H ∧ ∃ j a r : Nat, σ = [some (iV n), some (iV a), some (iV r)] ∧ m = r ∧ r < 2 ^ j ∧ a + pcF j r = pcF 8 n, ⟨n, rfl, 8, 0, n, rfl, rfl, by omega, by omega⟩, ?_⟩
    rintro m σ H' ⟨rfl, j, a, r, rfl, rfl, hlt, he⟩
    refine ⟨_, rfl, _, _, rfl, rfl, _, rfl, ite2 (fun h => ?_) (fun h => ?_)⟩
    · have hpos : 0 < m := by
        have := of_decide_eq_true h
        omega
      refine ⟨_, fun σ' H' z => z, ?_⟩
      refine ⟨_, rfl, _, rfl, _, _, rfl, rfl, (by show (0 : Int) < 2; decide), _, _, rfl, rfl, ?_⟩
      refine ⟨_, rfl, _, _, rfl, rfl, ⟨by decide, by decide⟩, ?_⟩
      cases j with
      | zero => omega
      | succ j =>
        refine ⟨m / 2, by omega, rfl, j, a + m % 2, m / 2, rfl, rfl, by rw [Nat.pow_succ] at hlt; omega, ?_⟩
        have e : pcF (j + 1) m = m % 2 + pcF j (m / 2) := rfl
        omega
    · have hz : m = 0 := by
        have := of_decide_eq_false (eq_false_of_ne_true h)
        omega
      subst hz
      rw [pcF_zero] at he
      refine ⟨_, rfl, ?_⟩
      have e : a = pcF 8 n := by omega
      rw [e]
      exact q
abbrev s_bearing : Stmt := top 13
theorem sc_bearing : FnScope ["p", "stand", "shared"] ["p", "stand"] (defScope s_bearing) := ⟨rfl, rfl, rfl, by decide +kernel, rfl, by decide +kernel, by decide +kernel⟩
def sp_bearing : Sp := fun vs H Q _ => ∃ p b : Nat, vs = [iV p, iV b] ∧ Q (iV (why b p)) H
theorem ok_bearing (F : TxF K mg "bearing" s_bearing ["p", "stand"]) (T : Txt K mg C) : Cal P w K mg base (k + 1) "bearing" ["p", "stand"] sp_bearing := by
  refine F.cal sc_bearing (fun vs H Q E h => ?_) (fun f cdv A outer s H vs Q E hr h => ?_)
  · obtain ⟨p, b, rfl, _⟩ := h
    rfl
  · obtain ⟨p, b, rfl, q⟩ := h
    have nd := sc_bearing.nd
    refine ⟨_, (pss_cons (ps_set (i := 2) nd rfl (Or.inl rfl) (pe_op op_andN (pv 0) (pv 1)))
      (pss_cons (ps_if (pt_cmpR op_eq (pv 2) (pv 1) (nomark _)) (pss_one (ps_ret (pe_cst T.c_FOLLOWS rfl))) pss_nil)
      (pss_cons (ps_if (pt_cmpR op_eq (pv 2) pe_int (nomark _)) (pss_one (ps_ret (pe_cst T.c_AGAINST rfl))) pss_nil)
      (pss_one (ps_ret (pe_cst T.c_NO_MATTER rfl)))))), ?_⟩
    rw [why_eq] at q
    refine ⟨_, rfl, _, rfl, p, b, rfl, rfl, ?_⟩
    refine ⟨_, rfl, _, rfl, rfl, _, rfl, ite2 (fun h => ?_) (fun h => ?_)⟩
    · rw [if_pos (iV_dec h)] at q
      exact q
    · rw [if_neg (iV_ndec h)] at q
      refine ⟨_, rfl, rfl, _, rfl, ite2 (fun h => ?_) (fun h => ?_)⟩
      · rw [if_pos (iV_dec (b := 0) h)] at q
        exact q
      · rw [if_neg (iV_ndec (b := 0) h)] at q
        exact q
abbrev s_answer_by_one_set : Stmt := top 14
theorem sc_answer_by_one_set : FnScope ["p", "worlds", "how"] ["p", "worlds"] (defScope s_answer_by_one_set) := ⟨rfl, rfl, rfl, by decide +kernel, rfl, by decide +kernel, by decide +kernel⟩
def sp_one : Sp := fun vs H Q _ => ∃ p b : Nat, vs = [iV p, iV b] ∧ Q (iV (truth b p)) H
theorem ok_answer_by_one_set (F : TxF K mg "answer_by_one_set" s_answer_by_one_set ["p", "worlds"]) (T : Txt K mg C) (c_bearing : Cal P w K mg base k "bearing" ["p", "stand"] sp_bearing) : Cal P w K mg base (k + 1) "answer_by_one_set" ["p", "worlds"] sp_one := by
  refine F.cal sc_answer_by_one_set (fun vs H Q E h => ?_) (fun f cdv A outer s H vs Q E hr h => ?_)
  · obtain ⟨p, b, rfl, _⟩ := h
    rfl
  · obtain ⟨p, b, rfl, q⟩ := h
    have nd := sc_answer_by_one_set.nd
    refine ⟨_, (pss_cons (ps_set (i := 2) nd rfl (Or.inl rfl) (pe_cal c_bearing hr rfl (pa_cons (pv 0) (pa_cons (pv 1) pa_nil))))
      (pss_cons (ps_if (pt_cmpR op_eq (pv 2) (pe_cst T.c_FOLLOWS rfl) (nomark _)) (pss_one (ps_ret (pe_cst T.c_CONCEDED rfl))) pss_nil)
      (pss_cons (ps_if (pt_cmpR op_eq (pv 2) (pe_cst T.c_AGAINST rfl) (nomark _)) (pss_one (ps_ret (pe_cst T.c_DENIED rfl))) pss_nil)
      (pss_one (ps_ret (pe_cst T.c_DOUBTED rfl)))))), ?_⟩
    rw [truth_why] at q
    refine ⟨_, rfl, _, rfl, p, b, rfl, ?_⟩
    refine ⟨_, rfl, rfl, _, rfl, ite2 (fun h => ?_) (fun h => ?_)⟩
    · rw [if_pos (iV_dec (b := 1) h)] at q
      exact q
    · rw [if_neg (iV_ndec (b := 1) h)] at q
      refine ⟨_, rfl, rfl, _, rfl, ite2 (fun h => ?_) (fun h => ?_)⟩
      · rw [if_pos (iV_dec (b := 2) h)] at q
        exact q
      · rw [if_neg (iV_ndec (b := 2) h)] at q
        exact q
abbrev s_answer_by : Stmt := top 15
theorem sc_answer_by : FnScope ["p", "stand", "known"] ["p", "stand", "known"] (defScope s_answer_by) := ⟨rfl, rfl, rfl, by decide +kernel, rfl, by decide +kernel, by decide +kernel⟩
def sp_answer_by : Sp := fun vs H Q _ => ∃ p b k : Nat, vs = [iV p, iV b, iV k] ∧ Q (iV (right k b p)) H
theorem ok_answer_by (F : TxF K mg "answer_by" s_answer_by ["p", "stand", "known"]) (T : Txt K mg C) (c_bearing : Cal P w K mg base k "bearing" ["p", "stand"] sp_bearing)
    (c_answer_by_one_set : Cal P w K mg base k "answer_by_one_set" ["p", "worlds"] sp_one) : Cal P w K mg base (k + 1) "answer_by" ["p", "stand", "known"] sp_answer_by := by
  refine F.cal sc_answer_by (fun vs H Q E h => ?_) (fun f cdv A outer s H vs Q E hr h => ?_)
  · obtain ⟨p, b, k, rfl, _⟩ := h
    rfl
  · obtain ⟨p, b, k, rfl, q⟩ := h
    have nd := sc_answer_by.nd
    refine ⟨_, (pss_cons (ps_if (pt_cmpR op_eq (pe_cal c_bearing hr rfl (pa_cons (pv 0) (pa_cons (pv 1) pa_nil))) (pe_cst T.c_NO_MATTER rfl) (nomark _)) (pss_one (ps_ret (pe_cal c_answer_by_one_set hr rfl (pa_cons (pv 0) (pa_cons (pv 2) pa_nil))))) pss_nil)
      (pss_one (ps_ret (pe_cal c_answer_by_one_set hr rfl (pa_cons (pv 0) (pa_cons (pv 1) pa_nil)))))), ?_⟩
    rw [right_why] at q
    refine ⟨_, rfl, _, rfl, p, b, rfl, rfl, _, rfl, ite2 (fun h => ?_) (fun h => ?_)⟩
    · rw [if_pos (iV_dec (b := 0) h)] at q
      exact ⟨_, rfl, _, rfl, p, k, rfl, q⟩
    · rw [if_neg (iV_ndec (b := 0) h)] at q
      exact ⟨_, rfl, _, rfl, p, b, rfl, q⟩
abbrev s_still_standing : Stmt := top 16
theorem sc_still_standing : FnScope ["stand", "p", "answer"] ["stand", "p", "answer"] (defScope s_still_standing) := ⟨rfl, rfl, rfl, by decide +kernel, rfl, by decide +kernel, by decide +kernel⟩
def sp_still : Sp := fun vs H Q _ => ∃ m b p a : Nat, Lets m ∧ b ≤ full m ∧ p ≤ full m ∧ vs = [iV b, iV p, iV a] ∧ Q (iV (behind m b p a)) H
theorem ok_still_standing (F : TxF K mg "still_standing" s_still_standing ["stand", "p", "answer"]) (T : Txt K mg C) : Cal P w K mg base (k + 1) "still_standing" ["stand", "p", "answer"] sp_still := by
  refine F.cal sc_still_standing (fun vs H Q E h => ?_) (fun f cdv A outer s H vs Q E hr h => ?_)
  · obtain ⟨m, b, p, a, _, _, _, rfl, _⟩ := h
    rfl
  · obtain ⟨m, b, p, a, hm, hb, hp, rfl, q⟩ := h
    have nd := sc_still_standing.nd
    refine ⟨_, (pss_cons (ps_if (pt_cmpR op_eq (pv 2) (pe_cst T.c_CONCEDED rfl) (nomark _)) (pss_one (ps_ret (pe_op op_andN (pv 0) (pv 1)))) pss_nil)
      (pss_cons (ps_if (pt_cmpR op_eq (pv 2) (pe_cst T.c_DENIED rfl) (nomark _)) (pss_one (ps_ret (pe_op op_subN (pv 0) (pe_op op_andN (pv 0) (pv 1))))) pss_nil)
      (pss_one (ps_ret (pv 0))))), ?_⟩
    rw [behind_eq hm hb hp] at q
    refine ⟨_, rfl, rfl, _, rfl, ite2 (fun h => ?_) (fun h => ?_)⟩
    · rw [if_pos (iV_dec (b := 1) h)] at q
      exact ⟨_, rfl, _, rfl, b, p, rfl, rfl, q⟩
    · rw [if_neg (iV_ndec (b := 1) h)] at q
      refine ⟨_, rfl, rfl, _, rfl, ite2 (fun h => ?_) (fun h => ?_)⟩
      · rw [if_pos (iV_dec (b := 0) h)] at q
        exact ⟨_, rfl, _, rfl, _, rfl, b, p, rfl, rfl, b, (b &&& p), rfl, rfl, Nat.and_le_left, q⟩
      · rw [if_neg (iV_ndec (b := 0) h)] at q
        exact ⟨_, rfl, q⟩
end
end Ld
set_option Elab.async false
set_option linter.all false
set_option maxRecDepth 100000
set_option maxHeartbeats 2000000
namespace Ld
open PySem PySem.Spec PyProof.Rows L2
section
variable {X : Cx}
end
theorem paired_at {α β : Type} {F : α → β → Prop} : ∀ {l : List α} {m : List β}, Paired F l m → ∀ {i : Nat} {b : β}, m[i]? = some b → ∃ a, l[i]? = some a ∧ F a b
  | _, _, .nil, i, b, h => by simp at h
  | x :: l, y :: m, .cons a r, 0, b, h => by
    have e : y = b := Option.some.inj h
    subst e
    exact ⟨x, rfl, a⟩
  | x :: l, y :: m, .cons a r, i + 1, b, h => paired_at r (i := i) h
theorem paired_at' {α β : Type} {F : α → β → Prop} : ∀ {l : List α} {m : List β}, Paired F l m → ∀ {i : Nat} {a : α}, l[i]? = some a → ∃ b, m[i]? = some b ∧ F a b
  | _, _, .nil, i, b, h => by simp at h
  | x :: l, y :: m, .cons a r, 0, b, h => by
    have e : x = b := Option.some.inj h
    subst e
    exact ⟨y, rfl, a⟩
  | x :: l, y :: m, .cons a r, i + 1, b, h => paired_at' r (i := i) h
end Ld
set_option Elab.async false
set_option linter.all false
set_option maxRecDepth 100000
set_option maxHeartbeats 2000000
namespace L2
open PySem PySem.Spec PyProof.Rows
section
variable {X : Cx}
/-- a tuple of the top, named within a comprehension -/
theorem pe_adrK {K : PySem.W.Frag} {mg : Str → Option Value} {x : Str} {xs : List V} {pos : Pos} (hK : X.K = K) (hM : X.mg = mg) (h : AdrT K mg x xs) (hg : Gl X x) (hd : (x == ("__debug__" : Str)) = false := by decide) : PE X (.Name x pos) (tAdrT K xs) := by
  subst hK hM
  exact pe_adr h hg hd
theorem op_inK {K : PySem.W.Frag} (hK : X.K = K) : OpR X (compareOp .In) (rIn K false) := by
  subst hK
  exact op_in_seq
def rCatN (K : PySem.W.Frag) : R2 := fun x y H Q => ∃ a b xs ys, x = .ref a ∧ y = .ref b ∧ SqT K H a xs ∧ SqT K H b ys ∧ ys ≠ [] ∧ xs.length + ys.length ≤ sizeLine ∧ (xs = [] → Q (.ref b) H) ∧ (xs ≠ [] → ∀ p, H p = none → Q (.ref p) (upd H p (.tup (xs ++ ys))))
theorem op_catN : OpR X (binaryOp .Add) (rCatN X.K) := by
  intro pins s σ H x y v u Q I rx ry h
  obtain ⟨a, b, xs, ys, rfl, rfl, ha, hb, hy, hz, q1, q2⟩ := h
  by_cases hx : xs = []
  · cases rx; cases ry
    obtain ⟨its, r1, p1, _⟩ := I.tuple ha
    obtain ⟨its2, r2, p2, _⟩ := I.tuple hb
    have e0 : its = [] := r1.nil_iff.mpr hx
    subst e0
    obtain ⟨⟨c1, d1, t1, l1⟩, o1, k1, n1, j1⟩ := id p1
    obtain ⟨⟨c2, d2, t2, l2⟩, o2, k2, n2, j2⟩ := id p2
    simp only at k1 j1 k2 j2; subst k1 j1 k2 j2
    exact concat_meets ⟨_, o1, rfl⟩ ⟨_, o2, rfl⟩ noFill_tuple_add seq_tuple_add F.slot_tuple_add F.entry_tuple_add (F.args_tuple_add_2 _ _) (tuple_addW0 a b _ _ n1 n2 d1 d2 l1 l2 (by simp)) ⟨o1, o2, ⟨.ref b, H, I, rfl, q1 hx⟩⟩
  · exact op_catT pins s σ H _ _ v u Q I rx ry ⟨a, b, xs, ys, rfl, rfl, ha, hb, hx, hz, fun z => absurd z hy, fun _ => q2 hx⟩
theorem countP_eqU {x : V} : ∀ {xs : List V} {us : List Value}, Vals xs us → xs.all flatV = true → us.countP (eqU x) = xs.countP fun y => eqV y x
  | _, _, .nil, _ => rfl
  | y :: xs, u :: us, .cons r t, f => by
    rw [List.all_cons, Bool.and_eq_true] at f
    rw [List.countP_cons, List.countP_cons, eqU_of r f.1, countP_eqU t f.2]
def rCount (K : PySem.W.Frag) : V → List V → Hp → VK → Prop := fun x xs H Q => ∃ (a : Addr) (ys : List V) (y : V), x = V.ref a ∧ xs = [y] ∧ SqL K H a ys ∧ flatV y = true ∧ ys.all flatV = true ∧ Q (.int ((ys.countP fun z => eqV z y : Nat) : Int)) H
theorem mt_countL : MtR X "list.count" (rCount X.K) := by
  intro pins s σ H x xs v us Q I rx rxs h
  obtain ⟨a, ys, y, rfl, rfl, hs, fy, fys, q⟩ := h
  cases rx
  obtain ⟨uy, rfl, ry⟩ := Vals.one rxs
  obtain ⟨its, rv, ⟨⟨cls, dd, data, sl⟩, n, ho, hc, hdn, hd⟩, hlen⟩ := I.list hs
  simp only at hc hd; subst hc hd
  refine call_meets F.slot_list_count ⟨_, ho, rfl⟩ F.entry_list_count (F.args_list_count_2 _ _) (SeqAt.list_countAt a its.toArray n dd sl uy (eqU y)) ⟨ho, fun u' hu' => mem_eqAt ry fy rv fys u' (by simpa using hu'), ?_⟩
  refine ⟨.int _, H, I.tok _, ⟨s.toks, ?_⟩, q⟩
  rw [← countP_eqU rv fys]
def rIndexT (K : PySem.W.Frag) : V → List V → Hp → VK → Prop := fun x xs H Q => ∃ (a : Addr) (ys : List V) (y : V) (j : Nat) (z : V), x = V.ref a ∧ xs = [y] ∧ H a = some (.tup ys) ∧ flatV y = true ∧ ys.all flatV = true ∧ ys[j]? = some z ∧ eqV z y = true ∧
  (∀ (m : Nat) (z' : V), m < j → ys[m]? = some z' → eqV z' y = false) ∧ Q (.int (j : Nat)) H
theorem mt_indexT : MtR X "tuple.index" (rIndexT X.K) := by
  intro pins s σ H x xs v us Q I rx rxs h
  obtain ⟨a, ys, y, j, z, rfl, rfl, hs, fy, fys, hz, hzj, hno, q⟩ := h
  cases rx
  obtain ⟨uy, rfl, ry⟩ := Vals.one rxs
  obtain ⟨its, rv, ⟨⟨cls, dd, data, sl⟩, ho, hc, n, hd⟩, hlen⟩ := I.tuple (SqT.of (K := X.K) hs)
  simp only at hc hd; subst hc hd
  obtain ⟨u, hu, ru⟩ := rv.get hz
  obtain ⟨hjl, hje⟩ := List.getElem?_eq_some_iff.mp hu
  have hvl := rv.length
  have hj : j < its.toArray.size := by simpa using hjl
  refine call_meets F.slot_tuple_index ⟨_, ho, rfl⟩ F.entry_tuple_index (F.args_tuple_index_2 _ _) (tupleIndex a its.toArray n dd sl uy (eqU y) j hj ?_ ?_) ⟨ho, fun u' hu' => mem_eqAt ry fy rv fys u' (by simpa using hu'), ?_⟩
  · have e1 : its.toArray[j] = u := by simpa using hje
    rw [e1, eqU_of ru (flat_at fys hz)]; exact hzj
  · intro m hm hmj
    have hmy : m < ys.length := by have hml : m < its.length := by simpa using hm
                                   omega
    have hy' : ys[m]? = some ys[m] := List.getElem?_eq_getElem hmy
    obtain ⟨u2, hu2, ru2⟩ := rv.get hy'
    obtain ⟨_, hme⟩ := List.getElem?_eq_some_iff.mp hu2
    have e1 : its.toArray[m] = u2 := by simpa using hme
    rw [e1, eqU_of ru2 (flat_at fys hy')]; exact hno m _ hmj hy'
  · exact ⟨.int (j : Nat), H, I.tok _, ⟨_, rfl⟩, q⟩
def tBT (r : V → List V → Hp → VK → Prop) (to : TE) (t : TA) : TE := fun σ H Q => to σ H fun x H1 => (∃ p xs, x = .ref p ∧ H1 p = some (.tup xs)) ∧ t σ H1 fun xs H2 => r x xs H2 Q
theorem pe_bmT {o e : Expr} {es : List Expr} {to : TE} {t : TA} {name : Str} {apos cpos : Pos} {id : String} {r : V → List V → Hp → VK → Prop} (slot : Slot "tuple" name id) (hty : typeOf (.builtin id) = pure (.type "method_descriptor")) (hm : MtR X id r) (ho : PE X o to) (ha : PA X (e :: es) t)
    (hbase : attributeBase o name X.env (eval o X.env) = eval o X.env := by rfl)
    (hfew : ((backTo cpos (starEach (e :: es) X.env)).all (fun x => !x.1) && (backToKw cpos (keywordEach [] X.env)).all (fun x => x.1.isSome)
      && decide ((e :: es).length + ([] : List Keyword).length + (if ([] : List Keyword).isEmpty then 0 else 1) < 30)) = true := by rfl)
    (hline : (apos.endLine == cpos.line) = true := by rfl) (hs : starEach (e :: es) X.env = (false, eval e X.env) :: starEach es X.env := by rfl) (hplain : (backTo cpos (starEach es X.env)).any (·.1) = false := by rfl) :
    PE X (.Call (.Attribute o name apos) (e :: es) [] cpos) (tBT r to t) := by
  intro pins s σ H Q I h
  refine wpAny_Call_method_late hbase hfew hline rfl (thn (ho pins s σ H _ I h) fun v s1 ⟨x, H1, I1, r1, ⟨p, ys, ex, hp⟩, q1⟩ => ?_)
  subst ex
  obtain rfl : v = Value.ref p := r1
  obtain ⟨_, its, _, tx⟩ := (show ObjOk X.prog X.w H1 s1.heap p (.tup ys) from I1.hok p _ hp)
  have h1 : s1.TypeIs (.ref p) "tuple" := let ⟨o, e, c, _⟩ := tx.isTup; ⟨o, e, c⟩
  refine ⟨"tuple", id, F.plainAttrs_tuple, slot, hty, h1, fun a e2 => by cases e2; exact tx.bare, ?_⟩
  have hA := ha cpos pins s1 σ H1 _ I1 q1
  rw [hs] at hA ⊢
  refine Calls.callWith_builtin (by show (false || (backTo cpos (starEach es X.env)).any (·.1)) = false; rw [hplain] <;> rfl) (Calls.evalArgs_plain ?_)
  exact thn hA fun us s2 ⟨vs, H2, I2, r2, q2⟩ => hm pins s2 σ H2 (.ref p) vs (.ref p) us Q I2 rfl r2 q2
theorem call_rng : CallR X (.type "range") (fun xs H Q => ∃ j : Int, xs = [.int j] ∧ ∀ p, H p = none → Q (.ref p) (upd H p (.rng 0 j))) := by
  intro pins s σ H xs us Q I r h
  obtain ⟨j, rfl, q⟩ := h
  obtain ⟨u, rfl, t, rfl⟩ := vals1 r
  refine call_range_1 ⟨.ref s.heap.objs.size, _, I.laid (o := .rng 0 j) (fun b o e => Heap.get?_push_of_some _ e) (Nat.le_refl _) ⟨_, _, _, Heap.get?_push_size _ rfl⟩, rfl, q _ (I.hok.fresh (Nat.le_refl _))⟩
theorem vals_range {its : Array Value} : ∀ n : Nat, its.size = n → (∀ (j : Nat) (v : Value), its[j]? = some v → ∃ t, v = .int (0 + (j : Int) * 1) t) → Vals ((List.range n).map fun i => V.int (i : Nat)) its.toList := by
  intro n hn h
  have e : ∀ (k : Nat) (l : List Value) (b : Nat), l.length = k → (∀ (j : Nat) (v : Value), l[j]? = some v → ∃ t, v = .int ((b + j : Nat) : Int) t) → Vals ((List.range' b k).map fun i => V.int (i : Nat)) l := by
    intro k
    induction k with
    | zero => intro l b hl _; rw [List.length_eq_zero_iff.mp hl]; exact .nil
    | succ k ih =>
      intro l b hl hv
      cases l with
      | nil => simp at hl
      | cons v l =>
        rw [List.range'_succ, List.map_cons]
        refine .cons ?_ (ih l (b + 1) (by simpa using hl) fun j u hu => ?_)
        · obtain ⟨t, rfl⟩ := hv 0 v rfl
          exact ⟨t, by simp⟩
        · obtain ⟨t, rfl⟩ := hv (j + 1) u hu
          exact ⟨t, by rw [show b + 1 + j = b + (j + 1) by omega]⟩
  have z := e n its.toList 0 (by rw [Array.length_toList]; exact hn) fun j v hj => by
    obtain ⟨t, rfl⟩ := h j v (by rw [← Array.getElem?_toList]; exact hj)
    exact ⟨t, by rw [Int.mul_one]; simp⟩
  rw [List.range_eq_range']
  exact z
theorem call_list_rng (hc : X.calm = true) : CallR X (.type "list") (fun xs H Q => ∃ (p : Addr) (n : Nat), xs = [.ref p] ∧ H p = some (.rng 0 n) ∧ n ≤ 1000000 ∧ ∀ l, H l = none → Q (.ref l) (upd H l (.lst ((List.range n).map fun i => V.int (i : Nat))))) := by
  intro pins s σ H xs us Q I r h
  obtain ⟨p, n, rfl, hp, hn, q⟩ := h
  rw [Vals.ref1 r]
  obtain ⟨t, u, v, e⟩ := (show ObjOk X.prog X.w H s.heap p (.rng 0 n) from I.hok p _ hp)
  have hsl := sizeLine_eq
  refine call_list_range (a := 0) (b := n) (c := 1) (n := n) (I.ok.hd hc) e (small_one (by omega) (by omega) (by omega) (by omega)) (by rw [rangeSize_one]; split <;> omega) (by omega) fun h' tk acc c' hk hS hacc => ?_
  exact ⟨.ref s.heap.objs.size, upd H s.heap.objs.size (.lst ((List.range n).map fun i => V.int (i : Nat))), I.laid (t' := tk) hk (Nat.le_refl _) (show ObjOk X.prog X.w _ h' _ (.lst _) from ⟨by rw [List.length_map, List.length_range]; omega, acc.toList, c', vals_range n hacc.1 hacc.2, by simpa using hS⟩), rfl, q _ (I.hok.fresh (Nat.le_refl _))⟩
theorem call_lenT : CallR X (.builtin "len") (fun xs H Q => ∃ a kvs, xs = [V.ref a] ∧ H a = some (.dT kvs) ∧ Q (.int kvs.length) H) := by
  intro pins s σ H xs us Q I r h
  obtain ⟨a, kvs, rfl, ha, q⟩ := h
  rw [Vals.ref1 r]
  obtain ⟨z, hd, xs, rel, dd⟩ := dt_of I.hok ha
  have hl : kvs.length = xs.length := Paired.length rel
  refine lenH hd dd (by omega) fun t tk => ⟨.int kvs.length, H, I.tok _, ⟨t, by rw [hl]⟩, q⟩
theorem keys_paired {H : Hp} : ∀ {kvs : List (List Key × V)} {xs : List (List Key × Addr × Value)}, KT H kvs xs → Paired (fun (t : Addr) (kv : List Key × V) => H t = some (.tup (kv.1.map kV))) (xs.map (·.2.1)) kvs
  | _, _, .nil => .nil
  | _, _, .cons a r => .cons a.2.1 (keys_paired r)
theorem vals_refs : ∀ ts : List Addr, Vals (ts.map V.ref) (ts.map Value.ref)
  | [] => .nil
  | t :: ts => .cons rfl (vals_refs ts)
theorem call_listT (hc : X.calm = true) : CallR X (.type "list") (fun xs H Q => ∃ a kvs, xs = [V.ref a] ∧ H a = some (.dT kvs) ∧ ∀ ts : List Addr, Paired (fun (t : Addr) (kv : List Key × V) => H t = some (.tup (kv.1.map kV))) ts kvs → ∀ l, H l = none → Q (.ref l) (upd H l (.lst (ts.map V.ref)))) := by
  intro pins s σ H xs us Q I r h
  obtain ⟨a, kvs, rfl, ha, q⟩ := h
  rw [Vals.ref1 r]
  obtain ⟨z, hd, xs, rel, dd⟩ := dt_of I.hok ha
  have hl : kvs.length = xs.length := Paired.length rel
  obtain ⟨ob, es, ep, ho, hx, hdt, hes, hin, hnd⟩ := id dd
  have hsize := size_of_entries hes
  refine listRaw (I.ok.hd hc) hd ho hx hdt (by omega) fun h' tk c' hk hS => ?_
  have ek : es.toList.map (·.key) = (xs.map (·.2.1)).map Value.ref := by
    rw [hes, List.map_map, List.map_map]
    rfl
  rw [ek] at hS
  exact ⟨.ref s.heap.objs.size, upd H s.heap.objs.size (.lst ((xs.map (·.2.1)).map V.ref)), I.laid (t' := tk) hk (Nat.le_refl _) (show ObjOk X.prog X.w _ h' _ (.lst _) from ⟨by rw [List.length_map, List.length_map]; omega, _, c', vals_refs _, hS⟩), rfl, q _ (keys_paired rel) _ (I.hok.fresh (Nat.le_refl _))⟩
def tDSet (td ty tx : TE) : TE := fun σ H Q => td σ H fun x H1 => ∃ a, x = .ref a ∧ IsD H1 a ∧ ty σ H1 fun y H2 => tx σ H2 fun z H3 => ∃ (kvs : List (List Key × V)) (k : List Key) (b : Addr), H3 a = some (.dT kvs) ∧ y = .ref b ∧ H3 b = some (.tup (k.map kV)) ∧ kvs.length < sizeLine ∧
  (∀ v, valV kvs k = some v → Q v H3) ∧ (valV kvs k = none → Q z (upd H3 a (.dT (kvs ++ [(k, z)]))))
theorem pe_dsetdef {o e f : Expr} {apos cpos : Pos} {td ty tx : TE} (hu : X.A.units + 1 < cLine) (ho : PE X o td) (he : PE X e ty) (hf : PE X f tx) (m : M2 X o "setdefault" apos e f cpos) : PE X (.Call (.Attribute o "setdefault" apos) [e, f] [] cpos) (tDSet td ty tx) := by
  intro pins s σ H Q I h
  refine wpAny_Call_method m.base m.few m.line PySem.F.plainAttrs_dict PySem.F.slot_dict_setdefault PySem.F.type_dict_setdefault (thn (ho pins s σ H _ I h) fun u s1 ⟨x, H1, I1, rx, a, ex, d, q1⟩ => ?_)
  subst ex
  obtain rfl : u = Value.ref a := rx
  obtain ⟨t1, t2, _⟩ := isD_at I1 d
  refine ⟨t1, t2, ?_⟩
  rw [m.trees]
  refine Calls.callWith_builtin rfl (Calls.evalArgs_plain (Calls.spliced_cons (thn (he pins s1 σ H1 _ I1 q1) fun iv s2 ⟨y, H2, I2, ry, q2⟩ =>
    Calls.spliced_cons (thn (hf pins s2 σ H2 _ I2 q2) fun fv s3 ⟨z, H3, I3, rz, kvs, k, b, ea, ey, eb, hl, q3, q4⟩ => Calls.spliced_nil ?_))))
  subst ey
  cases (show iv = Value.ref b from ry)
  obtain ⟨hz, hd, xs, rel, dd⟩ := dt_of I3.hok ea
  have hlen : kvs.length = xs.length := Paired.length rel
  have hval := rel.val k
  refine call_meetsIn F.slot_dict_setdefault dd.typeIs F.entry_dict_setdefault (F.args_dict_setdefault_3 _ _ _) (meetsSetDef (tupleKind (mixKind X.prog X.w)) a b hd fv) ⟨tupleKind_room_in1 hu, k, xs, key_of I3.hok eb, dd, by omega, fun p hp => ?_, fun hp h' dd' hs => ?_⟩
  · rw [hp] at hval
    cases hv : valV kvs k with
    | none => rw [hv] at hval; exact False.elim hval
    | some v =>
      rw [hv] at hval
      exact ⟨v, H3, I3.tok _, hval, q3 v hv⟩
  · rw [hp] at hval
    have hv : valV kvs k = none := by
      cases hv : valV kvs k with
      | none => rfl
      | some v => rw [hv] at hval; exact False.elim hval
    obtain ⟨o', es, ep, hq, h2, h3, h4, _, h5⟩ := dd'
    have hT : ∀ c ys, H3 c = some (.tup ys) → upd H3 a (.dT (kvs ++ [(k, z)])) c = some (.tup ys) := fun c ys ec => by
      rw [upd_ne (ne_of ec ea (fun z => nomatch z))]; exact ec
    have new : ObjOk X.prog X.w (upd H3 a (.dT (kvs ++ [(k, z)]))) h' a (.dT (kvs ++ [(k, z)])) := ⟨by rw [List.length_append]; exact hl, hd, xs ++ [(k, b, fv)], Paired.snoc (rel.keeps hT) ⟨rfl, hT _ _ eb, rz⟩, o', es, ep, hq, h2, h3, h4, h5⟩
    exact ⟨z, _, d_write I3 (by rw [ea]; exact True.intro) hs ⟨o', hq⟩ new, rz, q4 hv⟩
theorem Inv.frzTV {pins : List (Addr × Obj)} {σ : St} {H : Hp} {s : Shared} {d : Addr} {o : Obj} {kvs : List (List Key × V)} (I : Inv X pins σ H s) (h : H d = some (.frz o (.dT kvs))) :
    (d == sysModules) = false ∧ s.heap.get? d = some o ∧ o.ExactDict ∧ ∃ (es : Array DictEntry) (ep : Nat), o.data = .dict es ep ∧ es.size = kvs.length ∧
      ∀ (i : Nat) (k : List Key) (v : V), kvs[i]? = some (k, v) → ∃ (en : DictEntry) (q : Addr), es[i]? = some en ∧ en.key = .ref q ∧ H q = some (.tup (k.map kV)) ∧ RelV v en.val := by
  obtain ⟨hd, z, hs, xs, pr, o', es, ep, ho, hx, hdt, he, _⟩ := I.hok d _ h
  rw [hd] at ho; cases ho
  refine ⟨hs, hd, hx, es, ep, hdt, ?_, fun i k v e => ?_⟩
  · have l1 : es.size = xs.length := size_of_entries he
    have l2 : kvs.length = xs.length := Paired.length pr
    omega
  · obtain ⟨b, hb, e1, e2, e3⟩ := paired_get pr e
    have q := entry_at he i
    rw [hb] at q
    exact ⟨_, b.2.1, q, rfl, e2, e3⟩
def ItiT (d : Addr) (o : Obj) (kvs : List (List Key × V)) : It :=
  ⟨fun i H => H d = some (.frz o (.dT kvs)) ∧ i < kvs.length, fun i H x H' => ∃ (T q : Addr) (k : List Key) (v : V), kvs[i]? = some (k, v) ∧ x = .ref T ∧ H T = none ∧ H q = some (.tup (k.map kV)) ∧ H' = upd H T (.tup [.ref q, v]), fun i H => H d = some (.frz o (.dT kvs)) ∧ kvs.length ≤ i⟩
theorem turn_itemsT {P : Program} {w : World} {K : PySem.W.Frag} {d : Addr} {o : Obj} {es : Array DictEntry} {ep : Nat} {kvs : List (List Key × V)} {elts : List Expr} {kk : Nat} {tpos : Pos} (it : Addr) (hod : o.data = .dict es ep) :
    Turn P w K (.Tuple elts kk tpos) (ItiT d o kvs) [it] it (fun i h => ∃ ok ov, IsItemIter h it d i kvs.length ep ok ov) where
  mem := by simp
  obj := fun i h st b hb => by
    have e : b = it := by simpa using hb
    subst e
    obtain ⟨ok, ov, e⟩ := st
    exact ⟨_, e, fun v z => nomatch z⟩
  keep := fun i h h' st k => let ⟨ok, ov, e⟩ := st; ⟨ok, ov, k it (by simp) _ e⟩
  item := by
    intro X hP hw hK hc i pins s σ H E I hf st hg
    subst hP hw hK
    obtain ⟨hd, hi⟩ := hg
    obtain ⟨hs, hgd, hx, es', ep', hdt, hsz, ent⟩ := I.frzTV hd
    obtain ⟨rfl, rfl⟩ := dict_ep hod hdt
    obtain ⟨⟨k, v⟩, hkv⟩ : ∃ p, kvs[i]? = some p := ⟨kvs[i], List.getElem?_eq_getElem hi⟩
    obtain ⟨en, q, hen, hkey, hq, ru⟩ := ent i k v hkv
    obtain ⟨ok, ov, he⟩ := st
    have hlt : it < s.heap.objs.size := Heap.lt_size he
    refine nextItem he hgd hdt hsz hen fun h' ho hT hz hk => ?_
    refine ⟨_, rfl, wpAny_letOwnedTupleGo_items (s := { s with heap := h' }) ho fun h'' he' sb => ?_⟩
    have hT2 : h''.get? s.heap.objs.size = some { cls := .type "tuple", data := .seq #[en.key, en.val] } := (sb.2 _ (Nat.ne_of_gt hlt)).trans hT
    have new : ObjOk X.prog X.w (upd H s.heap.objs.size (.tup [.ref q, v])) h'' s.heap.objs.size (.tup [.ref q, v]) :=
      ⟨by show 2 ≤ sizeLine; decide, [en.key, en.val], .cons hkey (.cons ru .nil), ⟨_, hT2, rfl, _, rfl⟩⟩
    have I1 : Inv X pins σ (upd H s.heap.objs.size (.tup [.ref q, v])) { s with heap := h'' } :=
      I.turnedNew (t' := s.toks) (ch := [it]) (fun b ob hb e => (sb.2 b (by simpa using hb)).trans (hk b ob (by simpa using hb) e)) hf (Nat.le_refl _) new
    refine ⟨.ref s.heap.objs.size, _, I1, rfl, ⟨_, q, k, v, hkv, rfl, I.hok.fresh (Nat.le_refl _), hq, rfl⟩, ⟨en.key, en.val, he'⟩, fun b hb => ?_⟩
    have e : b = it := by simpa using hb
    rw [e, upd_ne (Nat.ne_of_lt hlt)]
    exact (hf it (by simp)).1
  done := by
    intro X hP hw hK hc i pins s σ H E I hf st hg
    subst hP hw hK
    obtain ⟨hd, hi⟩ := hg
    obtain ⟨f0, f1, f2, f3, f4, f5⟩ := hf it (by simp)
    obtain ⟨hs, hgd, hx, es', ep', hdt, hsz, ent⟩ := I.frzTV hd
    obtain ⟨rfl, rfl⟩ := dict_ep hod hdt
    obtain ⟨ok, ov, he⟩ := st
    exact nextItemEnd (I.ok.hd hc) he hgd hdt hsz hi fun h' eb => ⟨rfl, I.turned (t' := s.toks) (fun b ob hb e => eb b ob hb e) f0 f1 f3 f4 f5⟩
  self := fun A i s Q E st h => let ⟨_, _, e⟩ := st; PySem.W.kcp_self e h
def iItemsT (td : TE) : TI := fun σ H R => td σ H fun x H1 => ∃ d o kvs, x = .ref d ∧ H1 d = some (.frz o (.dT kvs)) ∧ R (ItiT d o kvs) H1
theorem pi_itemsT {e : Expr} {td : TE} {apos cpos tpos : Pos} {elts : List Expr} {kk : Nat} (he : PE X e td) (hbase : attributeBase e "items" X.env (eval e X.env) = eval e X.env := by rfl) (hline : (apos.endLine == cpos.line) = true := by rfl) :
    PI X (.Tuple elts kk tpos) (.Call (.Attribute e "items" apos) [] [] cpos) (iItemsT td) := by
  intro pins s σ H R I h
  refine wpAny_Call_method (T := "dict") (id := "dict.items") hbase rfl hline F.plainAttrs_dict F.slot_dict_items F.type_dict_items (thn (he pins s σ H _ I h) fun u s1 ⟨x, H1, I1, rx, d, o, kvs, ex, hd, q⟩ => ?_)
  subst ex
  obtain rfl : u = Value.ref d := rx
  obtain ⟨hs, hgd, hx, es, ep, hdt, hsz, ent⟩ := I1.frzTV hd
  have hT : ∀ s : Shared, s.heap.get? d = some o → s.TypeIs (.ref d) "dict" := fun s z => ⟨o, z, hx.1⟩
  refine ⟨hT _ hgd, fun b z => by cases z; exact ⟨o, hgd, hx.2.1⟩, ?_⟩
  have I2 : Inv X pins σ H1 { s1 with heap := s1.heap.push { cls := .type "dict_items", data := .fields #[.ref d] } } := I1.kept (t' := s1.toks) fun b ob q => Heap.get?_push_of_some _ q
  have fin : wpAny (model X.prog X.w) X.A (pyIter (.ref s1.heap.objs.size)) (PIE X pins σ (.Tuple elts kk tpos) R) X.xe { s1 with heap := s1.heap.push { cls := .type "dict_items", data := .fields #[.ref d] } } := by
    refine itemsView (d := d) ⟨_, Heap.get?_push_size _ rfl, rfl, rfl⟩ (Heap.get?_push_of_some _ hgd) hdt (pi_one (tk := s1.toks) I2 _ (turn_itemsT _ hdt) ⟨.none, .none, ?_⟩ q)
    rw [← hsz]
    exact Heap.get?_push_size _ rfl
  show wpAny _ _ (callWith cpos (.builtin "dict.items") [.ref d] [] []) _ X.xe s1
  exact method_meetsIn F.slot_dict_items F.entry_dict_items rfl (PySem.evalArgs_none ⟨rfl, hT _ hgd, F.args_dict_items_1 _, _, meetsItems hs hT, hgd, fin⟩)
theorem for_itemsT {d : Addr} {o : Obj} {kvs : List (List Key × V)} {g : TG} {tb : TS} {D : Ends} {σ : St} {H : Hp} (Pv : Nat → St → Hp → Prop) (h0 : Pv 0 σ H) (hl : ∀ i σ H, i ≤ kvs.length → Pv i σ H → H d = some (.frz o (.dT kvs)))
    (hs : ∀ (i : Nat) (k : List Key) (v : V) (σ : St) (H : Hp) (T q : Addr), kvs[i]? = some (k, v) → Pv i σ H → H T = none → H q = some (.tup (k.map kV)) → g (.ref T) σ (upd H T (.tup [.ref q, v])) fun σ2 H2 => tb { D with nx := Pv (i + 1), ct := Pv (i + 1), bk := D.nx } σ2 H2)
    (hd : ∀ σ H, Pv kvs.length σ H → D.nx σ H) :
    ∃ W : Nat → Nat → St → Hp → Prop, (∃ m, W 0 m σ H) ∧ ∀ i m σ H, W i m σ H →
      ((ItiT d o kvs).stop i H ∧ D.nx σ H) ∨ ((ItiT d o kvs).go i H ∧ ∃ N : St → Hp → Prop, (∀ σ' H', N σ' H' → ∃ m', m' < m ∧ W (i + 1) m' σ' H') ∧ ∀ x H', (ItiT d o kvs).yld i H x H' → g x σ H' fun σ2 H2 => tb { D with nx := N, ct := N, bk := D.nx } σ2 H2) := by
  refine ⟨fun i m σ H => m = kvs.length - i ∧ i ≤ kvs.length ∧ Pv i σ H, ⟨kvs.length, by simp, Nat.zero_le _, h0⟩, ?_⟩
  rintro i m σ H ⟨rfl, hi, p⟩
  have q := hl i σ H hi p
  by_cases hlt : i < kvs.length
  · refine .inr ⟨⟨q, hlt⟩, Pv (i + 1), fun σ' H' p' => ⟨kvs.length - (i + 1), by omega, rfl, hlt, p'⟩, fun x H' y => ?_⟩
    obtain ⟨T, r, k, v, hkv, rfl, hT, hr, rfl⟩ := y
    exact hs i k v σ H T r hkv p hT hr
  · have e : i = kvs.length := by omega
    subst e
    exact .inl ⟨⟨q, Nat.le_refl _⟩, hd σ H p⟩
end
end L2
set_option Elab.async false
set_option linter.all false
set_option maxRecDepth 100000
set_option maxHeartbeats 2000000
namespace Ld
open PySem PySem.Spec PyProof.Rows L2
open Krb7 (full both not_ within truth right why behind count answers)
open Krb8 (House)
theorem map_get {α β : Type} {g : α → β} {l : List α} {i : Nat} {y : β} (h : (l.map g)[i]? = some y) : ∃ x, l[i]? = some x ∧ y = g x := by
  rw [List.getElem?_map] at h
  cases e : l[i]? with
  | none => rw [e] at h; cases h
  | some x => rw [e] at h; exact ⟨x, rfl, (Option.some.inj h).symm⟩
theorem take_snoc {α : Type} : ∀ {l : List α} {i : Nat} {x : α}, l[i]? = some x → l.take (i + 1) = l.take i ++ [x]
  | [], i, x, h => by simp at h
  | a :: l, 0, x, h => by
    have e : a = x := Option.some.inj h
    subst e
    rfl
  | a :: l, i + 1, x, h => by
    have ih := take_snoc (l := l) (i := i) (x := x) h
    show a :: l.take (i + 1) = a :: l.take i ++ [x]
    rw [ih]
    rfl
theorem drop_at {α : Type} {l : List α} {i : Nat} {x : α} (h : l[i]? = some x) : l.drop i = x :: l.drop (i + 1) := by
  obtain ⟨h1, h2⟩ := List.getElem?_eq_some_iff.mp h
  rw [List.drop_eq_getElem_cons h1, h2]
theorem small {n : Nat} (h : n ≤ 1000000) : n < sizeLine := by
  have e : sizeLine = 16777216 := rfl
  omega
section
variable {P : Program} {w : World} {K : PySem.W.Frag} {mg : Str → Option Value} {base : Heap} {C : Addr} {k : Nat}
abbrev s_row_alone : Stmt := top 18
theorem sc_row_alone : FnScope ["row", "laid", "known", "p"] ["row", "laid", "known"] (defScope s_row_alone) := ⟨rfl, rfl, rfl, by decide +kernel, rfl, by decide +kernel, by decide +kernel⟩
def sp_row_alone (K : PySem.W.Frag) : Sp := fun vs H Q _ => ∃ (a : Addr) (row : List Nat) (b k : Nat), vs = [.ref a, iV b, iV k] ∧ SqL K H a (row.map iV) ∧ row.length ≤ 1000000 ∧ ∀ H' p, NewL H H' p ((row.map (right k b)).map iV) → Q (.ref p) H'
theorem ok_row_alone (F : TxF K mg "row_alone" s_row_alone ["row", "laid", "known"]) (T : Txt K mg C) (c_answer_by : Cal P w K mg base k "answer_by" ["p", "stand", "known"] sp_answer_by) :
    Cal P w K mg base (k + 1) "row_alone" ["row", "laid", "known"] (sp_row_alone K) := by
  refine F.cal sc_row_alone (fun vs H Q E h => ?_) (fun f cdv A outer s H vs Q E hr h => ?_)
  · obtain ⟨a, row, b, k, rfl, _⟩ := h
    rfl
  · obtain ⟨a, row, b, k, rfl, hS, hl, q⟩ := h
    have nd := sc_row_alone.nd
    refine ⟨_, (pss_one (ps_ret (pe_lc rfl nd (pi_list (pv 0)) (blkOk_by (own := [("p", 3)]) (by rfl)) (fun _ _ _ _ _ => (pg_name (i := 3) nd rfl (Or.inl rfl))) (fun _ _ _ _ _ => pts_nil) (fun _ _ _ _ _ => (pe_cal c_answer_by hr rfl (pa_cons (pv 3) (pa_cons (pv 1) (pa_cons (pv 2) pa_nil)))))))), ?_⟩
    refine ⟨_, rfl, a, rfl, ⟨_, hS⟩, fun D hD => ?_⟩
    refine lc_list (K := K) (a := a) (xs := row.map iV) (fun i H' => NewL H H' D (((row.take i).map (right k b)).map iV)) (NewL.mk Same.rfl hD) (fun i H' _ n => n.1.seq hS) ?_ ?_
    · intro i x H' hx n
      obtain ⟨p, hp, rfl⟩ := map_get hx
      refine ⟨rfl, _, rfl, _, rfl, _, rfl, p, b, k, rfl, _, n.2.2, ?_, ?_⟩
      · rw [List.length_map, List.length_map, List.length_take]
        exact small (by omega)
      · have e : (((row.take (i + 1)).map (right k b)).map iV) = ((row.take i).map (right k b)).map iV ++ [iV (right k b p)] := by
          rw [take_snoc hp, List.map_append, List.map_append]
          rfl
        show NewL H _ D _
        rw [e]
        exact n.put
    · intro H' n
      rw [List.length_map, List.take_length] at n
      exact q H' D n
abbrev s_row_along : Stmt := top 19
theorem sc_row_along : FnScope ["row", "laid", "known", "stand", "given", "p", "answer"] ["row", "laid", "known"] (defScope s_row_along) := ⟨rfl, rfl, rfl, by decide +kernel, rfl, by decide +kernel, by decide +kernel⟩
def sp_row_along (K : PySem.W.Frag) : Sp := fun vs H Q _ => ∃ (a : Addr) (row : List Nat) (m b k : Nat), vs = [.ref a, iV b, iV k] ∧ SqL K H a (row.map iV) ∧ row.length ≤ 1000000 ∧ Lets m ∧ b ≤ full m ∧ (∀ p ∈ row, p ≤ full m) ∧
  ∀ H' p, NewL H H' p ((answers m k b row).1.map iV) → Q (.ref p) H'
theorem ok_row_along (F : TxF K mg "row_along" s_row_along ["row", "laid", "known"]) (T : Txt K mg C) (c_answer_by : Cal P w K mg base k "answer_by" ["p", "stand", "known"] sp_answer_by)
    (c_still_standing : Cal P w K mg base k "still_standing" ["stand", "p", "answer"] sp_still) : Cal P w K mg base (k + 1) "row_along" ["row", "laid", "known"] (sp_row_along K) := by
  refine F.cal sc_row_along (fun vs H Q E h => ?_) (fun f cdv A outer s H vs Q E hr h => ?_)
  · obtain ⟨a, row, m, b, k, rfl, _⟩ := h
    rfl
  · obtain ⟨a, row, m, b, kn, rfl, hS, hl, hm, hb, hp, q⟩ := h
    have nd := sc_row_along.nd
    refine ⟨_, (pss_cons (ps_set (i := 3) nd rfl (Or.inl rfl) (pv 1))
      (pss_cons (ps_set (i := 4) nd rfl (Or.inl rfl) (pe_lst pa_nil))
      (pss_cons (ps_for PassesOwn.never rfl (pi_list (pv 0)) (pg_name (i := 5) nd rfl (Or.inl rfl)) (pss_cons (ps_set (i := 6) nd rfl (Or.inl rfl) (pe_cal c_answer_by hr rfl (pa_cons (pv 5) (pa_cons (pv 3) (pa_cons (pv 2) pa_nil)))))
      (pss_cons (ps_expr (pe_bm PySem.F.plainAttrs_list PySem.F.slot_list_append PySem.F.type_list_append mt_append (pv 4) (pa_cons (pv 6) pa_nil)))
      (pss_one (ps_set (i := 3) nd rfl (Or.inl rfl) (pe_cal c_still_standing hr rfl (pa_cons (pv 3) (pa_cons (pv 5) (pa_cons (pv 6) pa_nil)))))))))
      (pss_one (ps_ret (pv 4)))))), ?_⟩
    refine ⟨_, rfl, ?_⟩
    refine ⟨Nat.zero_le _, fun g hg => ?_⟩
    refine ⟨_, rfl, a, rfl, ⟨_, (Same.new hg).seq hS⟩, for_list (K := K) (a := a) (xs := row.map iV) (fun i σ H' => ∃ (st : Nat) (gv : List Nat) (v5 v6 : Option V), σ = [some (.ref a), some (iV b), some (iV kn), some (iV st), some (.ref g), v5, v6] ∧
        NewL H H' g (gv.map iV) ∧ gv.length ≤ i ∧ st ≤ full m ∧ gv ++ (answers m kn st (row.drop i)).1 = (answers m kn b row).1) ⟨b, [], none, none, rfl, NewL.mk Same.rfl hg, Nat.zero_le _, hb, rfl⟩ (fun i σ H' _ ⟨_, _, _, _, _, n, _⟩ => n.1.seq hS) ?_ ?_⟩
    · rintro i x σ H' hx ⟨st, gv, v5, v6, rfl, n, hgl, hst, he⟩
      obtain ⟨p, hpi, rfl⟩ := map_get hx
      have hil := (List.getElem?_eq_some_iff.mp hpi).1
      have hpf := hp p (List.mem_of_getElem? hpi)
      refine ⟨_, rfl, _, rfl, _, rfl, p, st, kn, rfl, ?_⟩
      refine ⟨_, rfl, .inl ⟨rfl, _, SqL.of n.2.2⟩, _, rfl, g, _, _, rfl, rfl, n.2.2, by rw [List.length_map]; exact small (by omega), ?_⟩
      refine ⟨_, rfl, _, rfl, _, rfl, m, st, p, right kn st p, hm, hst, hpf, rfl, ?_⟩
      refine ⟨behind m st p (right kn st p), gv ++ [right kn st p], _, _, rfl, ?_, by rw [List.length_append]; exact Nat.add_le_add hgl (Nat.le_refl _), behind_le hst, ?_⟩
      · rw [List.map_append]
        exact n.put
      · rw [drop_at hpi] at he
        rw [List.append_assoc]
        exact he
    · rintro σ H' ⟨st, gv, v5, v6, rfl, n, hgl, hst, he⟩
      rw [List.length_map, List.drop_length] at he
      have e : gv = (answers m kn b row).1 := by
        rw [← he]
        exact (List.append_nil gv).symm
      refine ⟨_, rfl, ?_⟩
      rw [e] at n
      exact q H' g n
end
end Ld
set_option Elab.async false
set_option linter.all false
set_option maxRecDepth 100000
set_option maxHeartbeats 2000000
namespace Ld
open PySem PySem.Spec PyProof.Rows L2
open Krb7 (full both not_ within truth right why behind count answers)
open Krb8 (House)
theorem answers_len (m k : Nat) : ∀ (l : List Nat) (b : Nat), (answers m k b l).1.length = l.length
  | [], _ => rfl
  | p :: l, b => congrArg (· + 1) (answers_len m k l _)
theorem getD_of {l : List Nat} {i d x : Nat} (h : l[i]? = some x) : l.getD i d = x := by
  rw [List.getD_eq_getElem?_getD, h]
  rfl
theorem iV_ne {a b : Nat} : (!decide (iV a = iV b)) = (a != b) := by
  by_cases e : a = b
  · subst e
    simp
  · have h : ¬ iV a = iV b := fun q => e (iV_inj q)
    rw [decide_eq_false h]
    simp [e]
section
variable {P : Program} {w : World} {K : PySem.W.Frag} {mg : Str → Option Value} {base : Heap} {C : Addr} {k : Nat}
abbrev s_places_apart : Stmt := top 20
theorem sc_places_apart : FnScope ["row", "laid", "known", "alone", "along", "place"] ["row", "laid", "known"] (defScope s_places_apart) := ⟨rfl, rfl, rfl, by decide +kernel, rfl, by decide +kernel, by decide +kernel⟩
def sp_places_apart (K : PySem.W.Frag) : Sp := fun vs H Q _ => ∃ (a : Addr) (row : List Nat) (h : House), vs = [.ref a, iV h.laid, iV h.known] ∧ SqL K H a (row.map iV) ∧ row.length ≤ 1000000 ∧ Lets h.m ∧ h.laid ≤ full h.m ∧ (∀ p ∈ row, p ≤ full h.m) ∧
  ∀ H' p, NewL H H' p ((h.parts row).map iV) → Q (.ref p) H'
theorem ok_places_apart (F : TxF K mg "places_apart" s_places_apart ["row", "laid", "known"]) (T : Txt K mg C) (c_row_alone : Cal P w K mg base k "row_alone" ["row", "laid", "known"] (sp_row_alone K))
    (c_row_along : Cal P w K mg base k "row_along" ["row", "laid", "known"] (sp_row_along K)) : Cal P w K mg base (k + 1) "places_apart" ["row", "laid", "known"] (sp_places_apart K) := by
  refine F.cal sc_places_apart (fun vs H Q E h => ?_) (fun f cdv A outer s H vs Q E hr h => ?_)
  · obtain ⟨a, row, h, rfl, _⟩ := h
    rfl
  · obtain ⟨a, row, h, rfl, hS, hl, hm, hb, hp, q⟩ := h
    have nd := sc_places_apart.nd
    refine ⟨_, (pss_cons (ps_set (i := 3) nd rfl (Or.inr rfl) (pe_cal c_row_alone hr rfl (pa_cons (pv 0) (pa_cons (pv 1) (pa_cons (pv 2) pa_nil)))))
      (pss_cons (ps_set (i := 4) nd rfl (Or.inr rfl) (pe_cal c_row_along hr rfl (pa_cons (pv 0) (pa_cons (pv 1) (pa_cons (pv 2) pa_nil)))))
      (pss_one (ps_ret (pe_lc rfl nd (pi_range1 rfl T.n_range (pa_cons (pe_callB call_len_seq (by rfl) T.n_len PySem.boot_len (pa_cons (pv 0) pa_nil)) pa_nil)) (blkOk_by (own := [("place", 5)]) (by rfl)) (fun _ _ _ _ _ => (pg_name (i := 5) nd rfl (Or.inl rfl))) (fun _ _ _ _ _ => (pts_one (pt_cmpR op_ne (pe_ixL (K := K) rfl (pv 3) (pv 5) (fun _ _ => rfl)) (pe_ixL (K := K) rfl (pv 4) (pv 5) (fun _ _ => rfl)) (nomark _)))) (fun _ _ _ _ _ => (pv 5))))))), ?_⟩
    refine ⟨_, rfl, _, rfl, _, rfl, a, row, h.laid, h.known, rfl, hS, hl, fun H1 x n1 => ?_⟩
    refine ⟨_, rfl, _, rfl, _, rfl, a, row, h.m, h.laid, h.known, rfl, n1.1.seq hS, hl, hm, hb, hp, fun H2 y n2 => ?_⟩
    have s2 : Same H H2 := n1.1.trans n2.1
    refine ⟨_, rfl, a, _, rfl, .inl (s2.seq hS), (row.length : Int), by rw [List.length_map], by omega, by have := hl; omega, fun D hD => ?_⟩
    refine lc_range (lo := 0) (n := (row.length : Int).toNat) (fun i H' => NewL H2 H' D (((List.range i).filter fun i => (h.along row).getD i 2 != h.alone (row.getD i 0)).map iV)) (NewL.mk Same.rfl hD) ?_ ?_
    · intro i H' hi n
      have hi : i < row.length := by omega
      obtain ⟨p, hp2⟩ : ∃ p, row[i]? = some p := ⟨_, List.getElem?_eq_getElem hi⟩
      obtain ⟨z, hz⟩ : ∃ z, (answers h.m h.known h.laid row).1[i]? = some z := ⟨_, List.getElem?_eq_getElem (by rw [answers_len]; exact hi)⟩
      have e0 : (0 : Int) + (i : Int) = (i : Int) := Int.zero_add _
      rw [e0]
      refine ⟨rfl, _, rfl, _, rfl, x, _, _, iV (right h.known h.laid p), rfl, rfl, SqL.of ((n2.on n.1).1 _ _ n1.2.2), at_of (j := i) rfl ?_, _, rfl, _, rfl, y, _, _, iV z, rfl, rfl, SqL.of (n.1 _ _ n2.2.2), at_of (j := i) rfl ?_, rfl, _, rfl, ?_⟩
      · rw [List.getElem?_map, List.getElem?_map, hp2]
        rfl
      · rw [List.getElem?_map, hz]
        rfl
      · have g1 : (h.along row).getD i 2 = z := getD_of hz
        have g2 : h.alone (row.getD i 0) = right h.known h.laid p := by rw [getD_of hp2]; rfl
        have cm : (right h.known h.laid p != z) = (z != right h.known h.laid p) := by
          rw [Bool.eq_iff_iff, bne_iff_ne, bne_iff_ne]
          exact ⟨Ne.symm, Ne.symm⟩
        rw [iV_ne, cm]
        have eR : ((List.range (i + 1)).filter fun i => (h.along row).getD i 2 != h.alone (row.getD i 0)) = ((List.range i).filter fun i => (h.along row).getD i 2 != h.alone (row.getD i 0)) ++ (if (z != right h.known h.laid p) = true then [i] else []) := by
          rw [List.range_succ, List.filter_append, List.filter_cons, g1, g2]
          rfl
        rw [eR]
        refine ite2 (c := (z != right h.known h.laid p) = true) (fun c => ?_) (fun c => ?_)
        · rw [if_pos c]
          refine ⟨_, rfl, _, n.2.2, ?_, ?_⟩
          · rw [List.length_map]
            have := List.length_filter_le (fun i => (h.along row).getD i 2 != h.alone (row.getD i 0)) (List.range i)
            rw [List.length_range] at this
            exact small (by omega)
          · rw [List.map_append]
            exact n.put
        · rw [if_neg c, List.append_nil]
          exact n
    · intro H' n
      exact q H' D ⟨s2.trans n.1, s2.free n.2.1, n.2.2⟩
abbrev s_two_clash : Stmt := top 23
theorem sc_two_clash : FnScope ["p", "q", "laid", "known"] ["p", "q", "laid", "known"] (defScope s_two_clash) := ⟨rfl, rfl, rfl, by decide +kernel, rfl, by decide +kernel, by decide +kernel⟩
def sp_two_clash : Sp := fun vs H Q _ => ∃ (x y : Nat) (h : House), vs = [iV x, iV y, iV h.laid, iV h.known] ∧ ∀ H', Same H H' → Q (.bl (h.clash x y)) H'
theorem cast_beq (a b : Nat) : ((a : Int) == (b : Int)) = (a == b) := by
  rw [Bool.eq_iff_iff, beq_iff_eq, beq_iff_eq]
  omega
theorem ok_two_clash (F : TxF K mg "two_clash" s_two_clash ["p", "q", "laid", "known"]) (T : Txt K mg C) (c_row_alone : Cal P w K mg base k "row_alone" ["row", "laid", "known"] (sp_row_alone K)) :
    Cal P w K mg base (k + 1) "two_clash" ["p", "q", "laid", "known"] sp_two_clash := by
  refine F.cal sc_two_clash (fun vs H Q E h => ?_) (fun f cdv A outer s H vs Q E hr h => ?_)
  · obtain ⟨x, y, h, rfl, _⟩ := h
    rfl
  · obtain ⟨x, y, h, rfl, q⟩ := h
    have nd := sc_two_clash.nd
    refine ⟨_, (pss_one (ps_ret (pe_cmpR (op_eqD hr.units) (pe_cal c_row_alone hr rfl (pa_cons (pe_lst (pa_cons (pv 0) (pa_cons (pv 1) (pa_cons (pe_op op_andN (pv 0) (pv 1)) pa_nil)))) (pa_cons (pv 2) (pa_cons (pv 3) pa_nil)))) (pe_lst (pa_cons (pe_cst T.c_CONCEDED rfl) (pa_cons (pe_cst T.c_CONCEDED rfl) (pa_cons (pe_cst T.c_DENIED rfl) pa_nil)))) (nomark _)))), ?_⟩
    refine ⟨_, rfl, _, rfl, _, rfl, _, rfl, x, y, rfl, rfl, (by show 3 ≤ sizeLine; decide), fun l hl => ?_⟩
    refine ⟨_, rfl, _, rfl, l, [x, y, x &&& y], h.laid, h.known, rfl, SqL.of upd_same, (by show 3 ≤ 1000000; decide), fun H1 r n1 => ?_⟩
    refine ⟨(by show 3 ≤ sizeLine; decide), fun u hu => ?_⟩
    have n2 := n1.on (Same.new (o := .lst [V.int 1, V.int 1, V.int 0]) hu)
    refine ⟨.list [.int (h.alone x : Nat), .int (h.alone y : Nat), .int (h.alone (both x y) : Nat)], .list [.int 1, .int 1, .int 0], .lst (SqL.of n2.2.2) (.cons (.int _) (.cons (.int _) (.cons (.int _) .nil))), .lst (SqL.of upd_same) (.cons (.int _) (.cons (.int _) (.cons (.int _) .nil))), rfl, rfl, ?_⟩
    have e : PyData.eqv (.list [.int (h.alone x : Nat), .int (h.alone y : Nat), .int (h.alone (both x y) : Nat)]) (.list [.int 1, .int 1, .int 0]) = h.clash x y := by
      simp only [PyData.eqv, PyData.eqvAll, Bool.and_true]
      exact congr (congrArg and (cast_beq _ 1)) (congr (congrArg and (cast_beq _ 1)) (cast_beq _ 0))
    rw [e]
    exact q _ ((Same.new hl).trans n2.1)
end
end Ld
set_option Elab.async false
set_option linter.all false
set_option maxRecDepth 100000
set_option maxHeartbeats 2000000
namespace Ld
open PySem PySem.Spec PyProof.Rows L2
open Krb7 (full both not_ within truth right why behind count answers)
open Krb8 (House)
theorem cut_nat {α : Type} (g : α → V) (l : List α) (i j : Nat) : cutV (l.map g) (some (i : Int)) (some (j : Int)) = ((l.drop i).take (j - i)).map g := by
  unfold cutV
  rw [HT.sIx_nat, HT.sIx_nat, List.length_map, List.map_take, List.map_drop]
  by_cases hi : i ≤ l.length
  · rw [Nat.min_eq_left hi]
    by_cases hj : j ≤ l.length
    · rw [Nat.min_eq_left hj]
    · rw [Nat.min_eq_right (by omega)]
      rw [List.take_of_length_le (by rw [List.length_drop, List.length_map]; omega), List.take_of_length_le (by rw [List.length_drop, List.length_map]; omega)]
  · rw [List.drop_of_length_le (by rw [List.length_map]; omega), List.drop_of_length_le (i := i) (by rw [List.length_map]; omega), List.take_nil, List.take_nil]
theorem cut_from {α : Type} (g : α → V) (l : List α) (i : Nat) : cutV (l.map g) (some (i : Int)) none = (l.drop i).map g := by
  unfold cutV
  rw [HT.sIx_nat, HT.sIx_none, List.length_map, List.map_drop]
  by_cases hi : i ≤ l.length
  · rw [Nat.min_eq_left hi, List.take_of_length_le (by rw [List.length_drop, List.length_map]; omega)]
  · rw [List.drop_of_length_le (i := i) (by rw [List.length_map]; omega), List.drop_of_length_le (by rw [List.length_map]; omega), List.take_nil]
def TupsAt (H : Hp) (ts : List Addr) (l : List (Nat × Nat)) : Prop := Paired (fun t x => H t = some (.tup [iV x.1, iV x.2])) ts l
theorem TupsAt.on {H H' : Hp} {ts : List Addr} {l : List (Nat × Nat)} (h : TupsAt H ts l) (s : ∀ t xs, H t = some (.tup xs) → H' t = some (.tup xs)) : TupsAt H' ts l := by
  unfold TupsAt at h ⊢
  induction h with
  | nil => exact .nil
  | cons a _ ih => exact .cons (s _ _ a) ih
/-- the list at p, new since H, holds the pairs l -/
def PairsAt (H H' : Hp) (p : Addr) (l : List (Nat × Nat)) : Prop := Same H H' ∧ H p = none ∧ ∃ ts, H' p = some (.lst (ts.map V.ref)) ∧ TupsAt H' ts l
theorem PairsAt.on {H H' H2 : Hp} {p : Addr} {l : List (Nat × Nat)} (n : PairsAt H H' p l) (s : Same H' H2) : PairsAt H H2 p l := by
  obtain ⟨a, b, ts, c, d⟩ := n
  exact ⟨a.trans s, b, ts, s _ _ c, d.on fun t xs h => s _ _ h⟩
theorem PairsAt.snoc {H H' : Hp} {p t : Addr} {l : List (Nat × Nat)} {x y : Nat} {ts : List Addr} (a : Same H H') (b : H p = none) (c : H' p = some (.lst (ts.map V.ref))) (d : TupsAt H' ts l) (ht : H' t = none) :
    PairsAt H (upd (upd H' t (.tup [iV x, iV y])) p (.lst (ts.map V.ref ++ [V.ref t]))) p (l ++ [(x, y)]) := by
  have ntp : t ≠ p := fun e => by rw [e, c] at ht; cases ht
  refine ⟨fun q o h => ?_, b, ts ++ [t], ?_, ?_⟩
  · rw [upd_ne (ne_of_none h b), upd_ne (ne_of_none (a _ _ h) ht)]
    exact a _ _ h
  · rw [upd_same, List.map_append]
    rfl
  · refine Paired.snoc (d.on fun u xs h => ?_) ?_
    · have n1 : u ≠ p := fun e => by rw [e, c] at h; cases h
      rw [upd_ne n1, upd_ne (ne_of_none h ht)]
      exact h
    · show upd (upd H' t (.tup [iV x, iV y])) p _ t = _
      rw [upd_ne ntp, upd_same]
theorem PairsAt.len {H H' : Hp} {ts : List Addr} {l : List (Nat × Nat)} (d : TupsAt H ts l) : ts.length = l.length := Paired.length d
section
variable {P : Program} {w : World} {K : PySem.W.Frag} {mg : Str → Option Value} {base : Heap} {C : Addr} {k : Nat}
abbrev s_clashing_pairs : Stmt := top 25
theorem sc_clashing_pairs : FnScope ["every", "laid", "known", "conceded", "p", "pairs", "place", "lesser", "greater"] ["every", "laid", "known"] (defScope s_clashing_pairs) := ⟨rfl, rfl, rfl, by decide +kernel, rfl, by decide +kernel, by decide +kernel⟩
def sp_clashing_pairs : Sp := fun vs H Q _ => ∃ h : House, vs = [iV (full h.m), iV h.laid, iV h.known] ∧ Lets h.m ∧ ∀ H' p, PairsAt H H' p h.clashes → Q (.ref p) H'
theorem ok_clashing_pairs (F : TxF K mg "clashing_pairs" s_clashing_pairs ["every", "laid", "known"]) (T : Txt K mg C) (c_answer_by : Cal P w K mg base k "answer_by" ["p", "stand", "known"] sp_answer_by) :
    Cal P w K mg base (k + 1) "clashing_pairs" ["every", "laid", "known"] sp_clashing_pairs := by
  refine F.cal sc_clashing_pairs (fun vs H Q E h => ?_) (fun f cdv A outer s H vs Q E hr h => ?_)
  · obtain ⟨h, rfl, _⟩ := h
    rfl
  · obtain ⟨h, rfl, hm, q⟩ := h
    have nd := sc_clashing_pairs.nd
    refine ⟨_, (pss_cons (ps_setLc (i := 3) rfl nd rfl rfl (sw_true rfl rfl rfl rfl) (pi_range1 rfl T.n_range (pa_cons (pe_op op_add (pv 0) pe_int) pa_nil)) (blkOk_by (own := [("p", 4)]) (by rfl)) (fun _ _ _ _ _ => (pg_name (i := 4) nd rfl (Or.inl rfl))) (fun _ _ _ _ _ => (pts_one (pt_cmpR op_eq (pe_cal c_answer_by hr rfl (pa_cons (pv 4) (pa_cons (pv 1) (pa_cons (pv 2) pa_nil)))) (pe_cst T.c_CONCEDED rfl) (nomark _)))) (fun _ _ _ _ _ => (pv 4)))
      (pss_cons (ps_set (i := 5) nd rfl (Or.inl rfl) (pe_lst pa_nil))
      (pss_cons (ps_for PassesOwn.never rfl (pi_enum rfl T.n_enumerate (pa_cons (pv 3) pa_nil)) (pg_tup rfl (pgs_cons (pg_name (i := 6) nd rfl (Or.inl rfl)) (pgs_cons (pg_name (i := 7) nd rfl (Or.inl rfl)) pgs_nil))) (pss_one (ps_for PassesOwn.never rfl (pi_list (pe_slice sl_list (pv 3) (po_some (pe_op op_add (pv 6) pe_int)) po_none)) (pg_name (i := 8) nd rfl (Or.inl rfl)) (pss_one (ps_if (pt_cmpR op_eq (pe_cal c_answer_by hr rfl (pa_cons (pe_op op_andN (pv 7) (pv 8)) (pa_cons (pv 1) (pa_cons (pv 2) pa_nil)))) (pe_cst T.c_DENIED rfl) (nomark _)) (pss_one (ps_expr (pe_bm PySem.F.plainAttrs_list PySem.F.slot_list_append PySem.F.type_list_append mt_append (pv 5) (pa_cons (pe_tup (pa_cons (pv 7) (pa_cons (pv 8) pa_nil))) pa_nil)))) pss_nil)))))
      (pss_one (ps_ret (pv 5)))))), ?_⟩
    have hf := full_le hm
    refine ⟨_, rfl, _, _, rfl, rfl, ((full h.m : Int) + 1), rfl, by omega, by omega, fun D hD => ?_⟩
    refine lc_range (lo := 0) (n := ((full h.m : Int) + 1).toNat) (fun i H' => NewL H H' D (((List.range i).filter fun p => h.alone p == 1).map iV)) (NewL.mk Same.rfl hD) ?_ ?_
    · intro p H' hi n
      have e0 : (0 : Int) + (p : Int) = (p : Int) := Int.zero_add _
      rw [e0]
      have eR : ((List.range (p + 1)).filter fun p => h.alone p == 1) = ((List.range p).filter fun p => h.alone p == 1) ++ (if h.alone p = 1 then [p] else []) := by
        rw [List.range_succ, List.filter_append, List.filter_cons]
        by_cases c : h.alone p = 1
        · simp [c]
        · simp [c]
      rw [eR]
      refine ⟨rfl, _, rfl, _, rfl, _, rfl, p, h.laid, h.known, rfl, rfl, _, rfl, ite2 (fun c => ?_) (fun c => ?_)⟩
      · have c : h.alone p = 1 := iV_dec (b := 1) c
        rw [if_pos c]
        refine ⟨_, rfl, _, n.2.2, ?_, ?_⟩
        · rw [List.length_map]
          have := List.length_filter_le (fun p => h.alone p == 1) (List.range p)
          rw [List.length_range] at this
          exact small (by omega)
        · rw [List.map_append]
          exact n.put
      · have c : ¬ h.alone p = 1 := iV_ndec (b := 1) c
        rw [if_neg c, List.append_nil]
        exact n
    · intro H1 n1
      have n1 : NewL H H1 D ((conc h).map iV) := by
        have e : ((full h.m : Int) + 1).toNat = full h.m + 1 := by omega
        rw [e] at n1
        exact n1
      refine ⟨Nat.zero_le _, fun r hrn => ?_⟩
      have s2 : Same H1 (upd H1 r (.lst [])) := Same.new hrn
      have g0 : H r = none := n1.1.free hrn
      refine ⟨_, rfl, D, _, rfl, SqL.of (s2 _ _ n1.2.2), for_enum (K := K) (a := D) (xs := (conc h).map iV) (fun i σ H' => ∃ (v6 v7 v8 : Option V) (acc : List (Nat × Nat)), σ = [some (iV (full h.m)), some (iV h.laid), some (iV h.known), some (.ref D), none, some (.ref r), v6, v7, v8] ∧
        H' D = some (.lst ((conc h).map iV)) ∧ PairsAt H H' r acc ∧ acc ++ tailPairs (clashG h) ((conc h).drop i) = h.clashes)
        ⟨none, none, none, [], rfl, s2 _ _ n1.2.2, ⟨n1.1.trans s2, g0, [], upd_same, .nil⟩, (clashes_eq h).symm⟩ (fun i σ H' _ ⟨_, _, _, _, _, hD', _⟩ => SqL.of hD') ?_ ?_⟩
      · rintro i x σ H2 t hx ⟨v6, v7, v8, acc, rfl, hD2, pa, he⟩ ht
        obtain ⟨p, hp, rfl⟩ := map_get hx
        rw [drop_at hp] at he
        have st : Same H2 (upd H2 t (.tup [.int (i : Nat), iV p])) := Same.new ht
        refine ⟨t, _, rfl, SqT.of upd_same, rfl, _, _, rfl, _, _, rfl, rfl, ?_⟩
        refine ⟨_, rfl, _, rfl, _, _, rfl, rfl, _, rfl, D, _, rfl, SqL.of (st _ _ hD2), fun l hl => ?_⟩
        have ec : cutV ((conc h).map iV) (some ((i : Int) + 1)) none = ((conc h).drop (i + 1)).map iV := cut_from iV (conc h) (i + 1)
        rw [ec]
        have sl : Same (upd H2 t (.tup [.int (i : Nat), iV p])) (upd (upd H2 t (.tup [.int (i : Nat), iV p])) l (.lst (((conc h).drop (i + 1)).map iV))) := Same.new hl
        have gl : H l = none := (pa.1.trans st).free hl
        have nlr : l ≠ r := fun e => by
          obtain ⟨_, _, ts, c, _⟩ := pa
          rw [e, st _ _ c] at hl
          cases hl
        have nDr : D ≠ r := fun e => by
          have h2 := n1.2.2
          rw [e, hrn] at h2
          cases h2
        refine ⟨l, rfl, ⟨_, SqL.of upd_same⟩, for_list (K := K) (a := l) (xs := ((conc h).drop (i + 1)).map iV) (fun j σ H' => ∃ (v8 : Option V) (acc' : List (Nat × Nat)), σ = [some (iV (full h.m)), some (iV h.laid), some (iV h.known), some (.ref D), none, some (.ref r), some (iV i), some (iV p), v8] ∧
          H' D = some (.lst ((conc h).map iV)) ∧ H' l = some (.lst (((conc h).drop (i + 1)).map iV)) ∧ PairsAt H H' r acc' ∧ acc' = acc ++ ((((conc h).drop (i + 1)).take j).filter fun y => clashG h p y).map fun y => (p, y))
          ⟨v8, acc, rfl, sl _ _ (st _ _ hD2), upd_same, (pa.on st).on sl, by simp⟩ (fun j σ H' _ ⟨_, _, _, _, hl', _⟩ => SqL.of hl') ?_ ?_⟩
        · rintro j x σ H3 hx ⟨v8, acc', rfl, hD3, hl3, pa3, hacc⟩
          obtain ⟨y, hy, rfl⟩ := map_get hx
          have eT : ((((conc h).drop (i + 1)).take (j + 1)).filter fun y => clashG h p y) = ((((conc h).drop (i + 1)).take j).filter fun y => clashG h p y) ++ (if h.alone (p &&& y) = 0 then [y] else []) := by
            rw [take_snoc hy, List.filter_append, List.filter_cons]
            unfold clashG both
            by_cases c : h.alone (p &&& y) = 0
            · simp [c]
            · simp [c]
          rw [eT]
          refine ⟨_, rfl, _, rfl, p, y, rfl, rfl, _, rfl, _, rfl, p &&& y, h.laid, h.known, rfl, rfl, _, rfl, ite2 (fun c => ?_) (fun c => ?_)⟩
          · have c : h.alone (p &&& y) = 0 := iV_dec (b := 0) c
            rw [if_pos c]
            obtain ⟨a1, a2, ts, a3, a4⟩ := pa3
            refine ⟨_, rfl, .inl ⟨rfl, _, SqL.of a3⟩, _, rfl, _, rfl, (by show 2 ≤ sizeLine; decide), fun t2 ht2 => ?_⟩
            refine ⟨r, _, _, rfl, rfl, (Same.new ht2) _ _ a3, ?_, ?_⟩
            · rw [List.length_map, PairsAt.len a4 (H' := H3)]
              have h1 := clashes_len h hm
              have h2 : acc'.length ≤ h.clashes.length := by
                rw [hacc, ← he]
                unfold tailPairs
                rw [List.length_append, List.length_append, List.length_append, List.length_map, List.length_map]
                have := ((List.take_sublist j ((conc h).drop (i + 1))).filter fun y => clashG h p y).length_le
                omega
              exact small (by omega)
            · refine ⟨_, acc' ++ [(p, y)], rfl, ?_, ?_, PairsAt.snoc a1 a2 a3 a4 ht2, ?_⟩
              · rw [upd_ne nDr, upd_ne (ne_of_none hD3 ht2)]
                exact hD3
              · rw [upd_ne nlr, upd_ne (ne_of_none hl3 ht2)]
                exact hl3
              · rw [hacc, List.map_append, List.append_assoc]
                rfl
          · have c : ¬ h.alone (p &&& y) = 0 := iV_ndec (b := 0) c
            rw [if_neg c, List.append_nil]
            exact ⟨_, acc', rfl, hD3, hl3, pa3, hacc⟩
        · rintro σ H3 ⟨v8, acc', rfl, hD3, hl3, pa3, hacc⟩
          rw [List.length_map, List.take_length] at hacc
          refine ⟨_, _, _, acc', rfl, hD3, pa3, ?_⟩
          rw [hacc, List.append_assoc]
          exact he
      · rintro σ H2 ⟨v6, v7, v8, acc, rfl, hD2, pa, he⟩
        rw [List.length_map, List.drop_length] at he
        have e : acc = h.clashes := by
          rw [← he]
          exact (List.append_nil acc).symm
        rw [e] at pa
        exact ⟨_, rfl, q H2 r pa⟩
end
end Ld
set_option Elab.async false
set_option linter.all false
set_option maxRecDepth 100000
set_option maxHeartbeats 2000000
namespace Ld
open PySem PySem.Spec PyProof.Rows L2
open Krb7 (full both not_ within truth right why behind count answers)
open Krb8 (House)
section
variable {P : Program} {w : World} {K : PySem.W.Frag} {mg : Str → Option Value} {base : Heap} {C : Addr} {k : Nat}
abbrev s_granted_alone : Stmt := top 21
theorem sc_granted_alone : FnScope ["row", "laid", "known", "stand", "p"] ["row", "laid", "known"] (defScope s_granted_alone) := ⟨rfl, rfl, rfl, by decide +kernel, rfl, by decide +kernel, by decide +kernel⟩
def sp_granted (K : PySem.W.Frag) : Sp := fun vs H Q _ => ∃ (a : Addr) (row : List Nat) (h : House), vs = [.ref a, iV h.laid, iV h.known] ∧ SqL K H a (row.map iV) ∧ Lets h.m ∧ h.laid ≤ full h.m ∧ (∀ p ∈ row, p ≤ full h.m) ∧ Q (iV (h.held row)) H
theorem ok_granted_alone (F : TxF K mg "granted_alone" s_granted_alone ["row", "laid", "known"]) (T : Txt K mg C) (c_answer_by : Cal P w K mg base k "answer_by" ["p", "stand", "known"] sp_answer_by)
    (c_still_standing : Cal P w K mg base k "still_standing" ["stand", "p", "answer"] sp_still) : Cal P w K mg base (k + 1) "granted_alone" ["row", "laid", "known"] (sp_granted K) := by
  refine F.cal sc_granted_alone (fun vs H Q E h => ?_) (fun f cdv A outer s H vs Q E hr h => ?_)
  · obtain ⟨a, row, h, rfl, _⟩ := h
    rfl
  · obtain ⟨a, row, h, rfl, hS, hm, hl, hp, q⟩ := h
    have nd := sc_granted_alone.nd
    refine ⟨_, (pss_cons (ps_set (i := 3) nd rfl (Or.inl rfl) (pv 1))
      (pss_cons (ps_for PassesOwn.never rfl (pi_list (pv 0)) (pg_name (i := 4) nd rfl (Or.inl rfl)) (pss_one (ps_set (i := 3) nd rfl (Or.inl rfl) (pe_cal c_still_standing hr rfl (pa_cons (pv 3) (pa_cons (pv 4) (pa_cons (pe_cal c_answer_by hr rfl (pa_cons (pv 4) (pa_cons (pv 1) (pa_cons (pv 2) pa_nil)))) pa_nil)))))))
      (pss_one (ps_ret (pv 3))))), ?_⟩
    refine ⟨_, rfl, ?_⟩
    refine ⟨_, rfl, a, rfl, ⟨_, hS⟩, for_list (K := K) (a := a) (xs := row.map iV) (fun i σ H' => H' = H ∧ ∃ v4 : Option V, σ = [some (.ref a), some (iV h.laid), some (iV h.known), some (iV (h.held (row.take i))), v4]) ⟨rfl, none, rfl⟩ (fun i σ H' _ z => by rw [z.1]; exact hS) ?_ ?_⟩
    · rintro i x σ H' hx ⟨rfl, v4, rfl⟩
      obtain ⟨p, hpi, rfl⟩ := map_get hx
      have hpf := hp p (List.mem_of_getElem? hpi)
      have hle : h.held (row.take i) ≤ full h.m := held_le hl (row.take i) h.laid hl
      refine ⟨_, rfl, _, rfl, _, rfl, _, rfl, _, rfl, p, h.laid, h.known, rfl, h.m, h.held (row.take i), p, h.alone p, hm, hle, hpf, rfl, rfl, some (iV p), ?_⟩
      rw [take_snoc hpi, held_snoc]
      rfl
    · rintro σ H' ⟨rfl, v4, rfl⟩
      refine ⟨_, rfl, ?_⟩
      rw [List.length_map, List.take_length]
      exact q
abbrev s_counts_alone : Stmt := top 22
theorem sc_counts_alone : FnScope ["every", "laid", "known", "given"] ["every", "laid", "known"] (defScope s_counts_alone) := ⟨rfl, rfl, rfl, by decide +kernel, rfl, by decide +kernel, by decide +kernel⟩
def cnt (h : House) (a : Nat) : Nat := (h.ps.filter fun p => h.alone p == a).length
def sp_counts_alone : Sp := fun vs H Q _ => ∃ h : House, vs = [iV (full h.m), iV h.laid, iV h.known] ∧ Lets h.m ∧ ∀ H' p, NewL H H' p [iV (cnt h 1), iV (cnt h 0), iV (cnt h 2)] → Q (.ref p) H'
theorem countP_iV (l : List Nat) (a : Nat) : ((l.map iV).countP fun z => eqV z (iV a)) = l.countP fun x => x == a := by
  rw [List.countP_map]
  congr 1
  funext x
  show ((x : Int) == (a : Int)) = _
  exact cast_beq x a
theorem cnt_eq (h : House) (a : Nat) : ((((List.range (full h.m + 1)).map (right h.known h.laid)).map iV).countP fun z => eqV z (iV a)) = cnt h a := by
  rw [countP_iV]
  exact count_filter h.ps h a
theorem flat_iV (l : List Nat) : (l.map iV).all flatV = true := by
  rw [List.all_map, List.all_eq_true]
  intro x _
  rfl
theorem ok_counts_alone (F : TxF K mg "counts_alone" s_counts_alone ["every", "laid", "known"]) (T : Txt K mg C) (c_row_alone : Cal P w K mg base k "row_alone" ["row", "laid", "known"] (sp_row_alone K)) :
    Cal P w K mg base (k + 1) "counts_alone" ["every", "laid", "known"] sp_counts_alone := by
  refine F.cal sc_counts_alone (fun vs H Q E h => ?_) (fun f cdv A outer s H vs Q E hr h => ?_)
  · obtain ⟨h, rfl, _⟩ := h
    rfl
  · obtain ⟨h, rfl, hm, q⟩ := h
    have nd := sc_counts_alone.nd
    refine ⟨_, (pss_cons (ps_set (i := 3) nd rfl (Or.inl rfl) (pe_cal c_row_alone hr rfl (pa_cons (pe_callTy (call_list_rng rfl) (by rfl) T.n_list rfl (pa_cons (pe_callTy call_rng (by rfl) T.n_range rfl (pa_cons (pe_op op_add (pv 0) pe_int) pa_nil)) pa_nil)) (pa_cons (pv 1) (pa_cons (pv 2) pa_nil)))))
      (pss_one (ps_ret (pe_lst (pa_cons (pe_bm PySem.F.plainAttrs_list PySem.F.slot_list_count PySem.F.type_list_count mt_countL (pv 3) (pa_cons (pe_cst T.c_CONCEDED rfl) pa_nil))
        (pa_cons (pe_bm PySem.F.plainAttrs_list PySem.F.slot_list_count PySem.F.type_list_count mt_countL (pv 3) (pa_cons (pe_cst T.c_DENIED rfl) pa_nil))
        (pa_cons (pe_bm PySem.F.plainAttrs_list PySem.F.slot_list_count PySem.F.type_list_count mt_countL (pv 3) (pa_cons (pe_cst T.c_DOUBTED rfl) pa_nil)) pa_nil))))))), ?_⟩
    have hf := full_le hm
    refine ⟨_, rfl, _, _, rfl, rfl, ((full h.m + 1 : Nat) : Int), rfl, fun r hr' => ?_⟩
    refine ⟨r, full h.m + 1, rfl, upd_same, by omega, fun l hl => ?_⟩
    have s1 : Same H (upd H r (.rng 0 ((full h.m + 1 : Nat) : Int))) := Same.new hr'
    refine ⟨_, rfl, _, rfl, l, List.range (full h.m + 1), h.laid, h.known, rfl, SqL.of upd_same, by rw [List.length_range]; omega, fun H2 g n2 => ?_⟩
    have s2 := (s1.trans (Same.new hl)).trans n2.1
    refine ⟨_, rfl, .inl ⟨rfl, _, SqL.of n2.2.2⟩, g, _, iV 1, rfl, rfl, SqL.of n2.2.2, rfl, flat_iV _, ?_⟩
    refine ⟨_, rfl, .inl ⟨rfl, _, SqL.of n2.2.2⟩, g, _, iV 0, rfl, rfl, SqL.of n2.2.2, rfl, flat_iV _, ?_⟩
    refine ⟨_, rfl, .inl ⟨rfl, _, SqL.of n2.2.2⟩, g, _, iV 2, rfl, rfl, SqL.of n2.2.2, rfl, flat_iV _, (by show 3 ≤ sizeLine; decide), fun u hu => ?_⟩
    rw [cnt_eq, cnt_eq, cnt_eq]
    exact q _ u (NewL.mk s2 hu)
abbrev s_partners : Stmt := top 24
theorem sc_partners : FnScope ["p", "every", "laid", "known", "q"] ["p", "every", "laid", "known"] (defScope s_partners) := ⟨rfl, rfl, rfl, by decide +kernel, rfl, by decide +kernel, by decide +kernel⟩
def sp_partners : Sp := fun vs H Q _ => ∃ (x : Nat) (h : House), vs = [iV x, iV (full h.m), iV h.laid, iV h.known] ∧ Lets h.m ∧ ∀ H' p, NewL H H' p ((h.ps.filter fun y => h.clash x y).map iV) → Q (.ref p) H'
theorem ok_partners (F : TxF K mg "partners" s_partners ["p", "every", "laid", "known"]) (T : Txt K mg C) (c_two_clash : Cal P w K mg base k "two_clash" ["p", "q", "laid", "known"] sp_two_clash) :
    Cal P w K mg base (k + 1) "partners" ["p", "every", "laid", "known"] sp_partners := by
  refine F.cal sc_partners (fun vs H Q E h => ?_) (fun f cdv A outer s H vs Q E hr h => ?_)
  · obtain ⟨x, h, rfl, _⟩ := h
    rfl
  · obtain ⟨x, h, rfl, hm, q⟩ := h
    have nd := sc_partners.nd
    refine ⟨_, (pss_one (ps_ret (pe_lc rfl nd (pi_range1 rfl T.n_range (pa_cons (pe_op op_add (pv 1) pe_int) pa_nil)) (blkOk_by (own := [("q", 4)]) (by rfl)) (fun _ _ _ _ _ => (pg_name (i := 4) nd rfl (Or.inl rfl))) (fun _ _ _ _ _ => (pts_one (pt_val (pe_cal c_two_clash hr rfl (pa_cons (pv 0) (pa_cons (pv 4) (pa_cons (pv 2) (pa_cons (pv 3) pa_nil)))))))) (fun _ _ _ _ _ => (pv 4))))), ?_⟩
    have hf := full_le hm
    refine ⟨_, rfl, _, _, rfl, rfl, ((full h.m : Int) + 1), rfl, by omega, by omega, fun D hD => ?_⟩
    refine lc_range (lo := 0) (n := ((full h.m : Int) + 1).toNat) (fun i H' => NewL H H' D (((List.range i).filter fun y => h.clash x y).map iV)) (NewL.mk Same.rfl hD) ?_ ?_
    · intro p H' hi n
      have e0 : (0 : Int) + (p : Int) = (p : Int) := Int.zero_add _
      rw [e0]
      have eR : ((List.range (p + 1)).filter fun y => h.clash x y) = ((List.range p).filter fun y => h.clash x y) ++ (if h.clash x p = true then [p] else []) := by
        rw [List.range_succ, List.filter_append, List.filter_cons]
        by_cases c : h.clash x p = true
        · simp [c]
        · simp [c]
      rw [eR]
      refine ⟨rfl, _, rfl, _, rfl, _, rfl, _, rfl, x, p, h, rfl, fun H1 s1 => ⟨_, rfl, ite2 (fun c => ?_) (fun c => ?_)⟩⟩
      · rw [if_pos c]
        have n1 := n.on s1
        refine ⟨_, rfl, _, n1.2.2, ?_, ?_⟩
        · rw [List.length_map]
          have := List.length_filter_le (fun y => h.clash x y) (List.range p)
          rw [List.length_range] at this
          exact small (by omega)
        · rw [List.map_append]
          exact n1.put
      · rw [if_neg c, List.append_nil]
        exact n.on s1
    · intro H1 n1
      have e : ((full h.m : Int) + 1).toNat = full h.m + 1 := by omega
      rw [e] at n1
      exact q H1 D n1
end
end Ld
set_option Elab.async false
set_option linter.all false
set_option maxRecDepth 100000
set_option maxHeartbeats 2000000
namespace Ld
open PySem PySem.Spec PyProof.Rows L2
open Krb7 (full both not_ within truth right why behind count answers)
open Krb8 (House)
def fs (m e k l : Nat) : List (Str × V) := [("letters", iV m), ("every", iV e), ("known", iV k), ("laid", iV l)]
theorem fs_letters (m e k l : Nat) : (fs m e k l).lookup ("letters" : Str) = some (iV m) := rfl
theorem fs_every (m e k l : Nat) : (fs m e k l).lookup ("every" : Str) = some (iV e) := rfl
theorem fs_known (m e k l : Nat) : (fs m e k l).lookup ("known" : Str) = some (iV k) := rfl
theorem fs_laid (m e k l : Nat) : (fs m e k l).lookup ("laid" : Str) = some (iV l) := rfl
def SesAt (C : Addr) (H : Hp) (p : Addr) (m e k l : Nat) : Prop := ∃ dx, H p = some (.ins C dx (fs m e k l))
/-- the object at p stands for the state a -/
def Ses (C : Addr) (H : Hp) (p : Addr) : Krb8.Abs → Prop
  | none => SesAt C H p 0 0 0 0
  | some h => SesAt C H p h.m (full h.m) h.known h.laid ∧ Lets h.m ∧ (0 < h.known ∧ h.known ≤ full h.m) ∧ 0 < h.laid ∧ h.laid ≤ full h.m
theorem SesAt.on {C : Addr} {H H' : Hp} {p : Addr} {m e k l : Nat} (h : SesAt C H p m e k l) (s : Same H H') : SesAt C H' p m e k l := by
  obtain ⟨dx, h⟩ := h
  exact ⟨dx, s _ _ h⟩
theorem Ses.on {C : Addr} {H H' : Hp} {p : Addr} {a : Krb8.Abs} (h : Ses C H p a) (s : Same H H') : Ses C H' p a := by
  cases a with
  | none => exact SesAt.on h s
  | some h' => exact ⟨h.1.on s, h.2⟩
/-- an answer: the list at r, new, the state behind it, all else as it was -/
structure Ans (C : Addr) (H H' : Hp) (p r : Addr) (a' : Krb8.Abs) (ns : List Int) : Prop where
  keep : ∀ b o, H b = some o → b ≠ p → H' b = some o
  ses : Ses C H' p a'
  new : H r = none
  lst : H' r = some (.lst (ns.map V.int))
theorem Ans.same {C : Addr} {H H' : Hp} {p r : Addr} {a : Krb8.Abs} {ns : List Int} {xs : List V} (n : NewL H H' r xs) (h : Ses C H p a) (e : xs = ns.map V.int) : Ans C H H' p r a ns :=
  ⟨fun b o q _ => n.1 b o q, h.on n.1, n.2.1, by rw [← e]; exact n.2.2⟩
section
variable {h : House}
theorem bad_no {p : Nat} (hp : p ≤ full h.m) : (!h.ok p) = false := by
  unfold House.ok
  rw [decide_eq_true hp]
  rfl
theorem bad_yes {p : Nat} (hp : ¬ p ≤ full h.m) : (!h.ok p) = true := by
  unfold House.ok
  rw [decide_eq_false hp]
  rfl
end
section
variable {P : Program} {w : World} {K : PySem.W.Frag} {mg : Str → Option Value} {base : Heap} {C : Addr} {k : Nat}
abbrev s_init : Stmt := inClass (top 33) 0
theorem sc_init : FnScope ["self"] ["self"] (defScope s_init) := ⟨rfl, rfl, rfl, by decide +kernel, rfl, by decide +kernel, by decide +kernel⟩
def sp_init (C : Addr) : Sp := fun vs H Q _ => ∃ (p dx : Addr), vs = [.ref p] ∧ H p = some (.ins C dx []) ∧ ∀ H' : Hp, SesAt C H' p 0 0 0 0 → (∀ b o, H b = some o → b ≠ p → H' b = some o) → Q .non H'
theorem ok_init (F : TxI K mg C "Session" "Session.__init__" s_init ["self"]) (T : Txt K mg C) : Mkr P w K mg base C (k + 1) "Session" ["self"] (sp_init C) := by
  refine F.mkr sc_init (fun vs H Q E h => ?_) (fun f cdv A outer s H vs Q E hr h => ?_)
  · obtain ⟨p, dx, rfl, _⟩ := h
    rfl
  · obtain ⟨p, dx, rfl, hp, q⟩ := h
    refine ⟨_, (pss_cons (ps_fld (pv 0) pe_int rfl)
      (pss_cons (ps_fld (pv 0) pe_int rfl)
      (pss_cons (ps_fld (pv 0) pe_int rfl)
      (pss_one (ps_fld (pv 0) pe_int rfl))))), ?_⟩
    refine ⟨_, rfl, p, C, dx, [], rfl, hp, T.cl, T.n_letters, (by show 0 < 1000; decide), ?_⟩
    refine ⟨_, rfl, p, C, dx, _, rfl, upd_same, T.cl, T.n_every, (by show 1 < 1000; decide), ?_⟩
    refine ⟨_, rfl, p, C, dx, _, rfl, upd_same, T.cl, T.n_known, (by show 2 < 1000; decide), ?_⟩
    refine ⟨_, rfl, p, C, dx, _, rfl, upd_same, T.cl, T.n_laid, (by show 3 < 1000; decide), ?_⟩
    exact q _ ⟨dx, upd_same⟩ fun b o e hb => by rw [upd_ne hb, upd_ne hb, upd_ne hb, upd_ne hb]; exact e
abbrev s_has_begun : Stmt := inClass (top 33) 1
theorem sc_has_begun : FnScope ["self"] ["self"] (defScope s_has_begun) := ⟨rfl, rfl, rfl, by decide +kernel, rfl, by decide +kernel, by decide +kernel⟩
def sp_has_begun (C : Addr) : Sp := fun vs H Q _ => ∃ (p : Addr) (a : Krb8.Abs), vs = [.ref p] ∧ Ses C H p a ∧ Q (.bl a.isSome) H
theorem ok_has_begun (F : TxM K C "has_begun" "Session.has_begun" s_has_begun ["self"]) (T : Txt K mg C) : Mth P w K mg base C (k + 1) "has_begun" ["self"] (sp_has_begun C) := by
  refine F.mth sc_has_begun (fun vs H Q E h => ?_) (fun f cdv A outer s H vs Q E hr h => ?_)
  · obtain ⟨p, a, rfl, _⟩ := h
    rfl
  · obtain ⟨p, a, rfl, hs, q⟩ := h
    refine ⟨_, (pss_one (ps_ret (pe_cmpR op_gt (pe_fld (pv 0) rfl) pe_int (nomark _)))), ?_⟩
    cases a with
    | none =>
      obtain ⟨dx, hp⟩ := hs
      exact ⟨_, rfl, p, C, dx, _, _, rfl, hp, T.cl, T.n_letters, fs_letters _ _ _ _, _, _, rfl, rfl, q⟩
    | some h =>
      obtain ⟨⟨dx, hp⟩, hm, _⟩ := hs
      refine ⟨_, rfl, p, C, dx, _, _, rfl, hp, T.cl, T.n_letters, fs_letters _ _ _ _, _, _, rfl, rfl, ?_⟩
      have e : decide ((0 : Int) < (h.m : Int)) = true := decide_eq_true (by unfold Lets at hm; omega)
      show Q (.bl (decide ((0 : Int) < (h.m : Int)))) H
      rw [e]
      exact q
abbrev s_are_propositions : Stmt := inClass (top 33) 2
theorem sc_are_propositions : FnScope ["self", "numbers", "number"] ["self", "numbers"] (defScope s_are_propositions) := ⟨rfl, rfl, rfl, by decide +kernel, rfl, by decide +kernel, by decide +kernel⟩
def sp_are (C : Addr) (K : PySem.W.Frag) : Sp := fun vs H Q _ => ∃ (p l : Addr) (m e k x : Nat) (ns : List Nat), vs = [.ref p, .ref l] ∧ SesAt C H p m e k x ∧ SqL K H l (ns.map iV) ∧ ns.length ≤ 1000000 ∧ ∀ H', Same H H' → Q (.bl (ns.all fun n => decide (n ≤ e))) H'
theorem ok_are (F : TxM K C "are_propositions" "Session.are_propositions" s_are_propositions ["self", "numbers"]) (T : Txt K mg C) : Mth P w K mg base C (k + 1) "are_propositions" ["self", "numbers"] (sp_are C K) := by
  refine F.mth sc_are_propositions (fun vs H Q E h => ?_) (fun f cdv A outer s H vs Q E hr h => ?_)
  · obtain ⟨p, l, m, e, k, x, ns, rfl, _⟩ := h
    rfl
  · obtain ⟨p, l, m, e, kn, x, ns, rfl, ⟨dx, hp⟩, hS, hl, q⟩ := h
    have nd := sc_are_propositions.nd
    refine ⟨_, (pss_one (ps_ret (pe_callB (cr_all rfl) (by rfl) T.n_all rfl (pa_cons (pe_lc rfl nd (pi_list (pv 1)) (blkOk_by (own := [("number", 2)]) (by rfl)) (fun _ _ _ _ _ => (pg_name (i := 2) nd rfl (Or.inl rfl))) (fun _ _ _ _ _ => pts_nil) (fun _ _ _ _ _ => (pe_cmpR op_le (pv 2) (pe_fldK (K := K) rfl (pv 0) rfl) (nomark _)))) pa_nil)))), ?_⟩
    refine ⟨_, rfl, l, rfl, ⟨_, hS⟩, fun D hD => ?_⟩
    refine lc_list (K := K) (a := l) (xs := ns.map iV) (fun i H' => NewL H H' D (((ns.take i).map fun n => decide (n ≤ e)).map V.bl)) (NewL.mk Same.rfl hD) (fun i H' _ n => n.1.seq hS) ?_ ?_
    · intro i v H' hx n
      obtain ⟨y, hy, rfl⟩ := map_get hx
      refine ⟨rfl, _, rfl, _, rfl, p, C, dx, _, _, rfl, n.1 _ _ hp, T.cl, T.n_every, fs_every _ _ _ _, _, _, rfl, rfl, _, n.2.2, ?_, ?_⟩
      · rw [List.length_map, List.length_map, List.length_take]
        exact small (by omega)
      · have e2 : ((ns.take (i + 1)).map fun n => decide (n ≤ e)).map V.bl = ((ns.take i).map fun n => decide (n ≤ e)).map V.bl ++ [V.bl (decide ((y : Int) ≤ (e : Int)))] := by
          rw [take_snoc hy, List.map_append, List.map_append]
          have e3 : decide ((y : Int) ≤ (e : Int)) = decide (y ≤ e) := by
            rw [Bool.eq_iff_iff, decide_eq_true_iff, decide_eq_true_iff]
            omega
          rw [e3]
          rfl
        show NewL H _ D _
        rw [e2]
        exact n.put
    · intro H' n
      rw [List.length_map, List.take_length] at n
      refine ⟨D, _, rfl, SqL.of n.2.2, ?_⟩
      have e2 : (ns.map fun n => decide (n ≤ e)).all id = ns.all fun n => decide (n ≤ e) := by
        rw [List.all_map]
        rfl
      rw [e2]
      exact q H' n.1
abbrev s_lay : Stmt := inClass (top 33) 4
theorem sc_lay : FnScope ["self", "p"] ["self", "p"] (defScope s_lay) := ⟨rfl, rfl, rfl, by decide +kernel, rfl, by decide +kernel, by decide +kernel⟩
def sp_lay (C : Addr) : Sp := fun vs H Q _ => ∃ (p : Addr) (m e k l x : Nat), vs = [.ref p, iV x] ∧ SesAt C H p m e k l ∧ (x = 0 → ∀ H' r, NewL H H' r [V.int (-33)] → Q (.ref r) H') ∧
  (x ≠ 0 → ∀ H' r, (∀ b o, H b = some o → b ≠ p → H' b = some o) → SesAt C H' p m e k x → H r = none → H' r = some (.lst [iV (truth k x)]) → Q (.ref r) H')
theorem ok_lay (F : TxM K C "lay" "Session.lay" s_lay ["self", "p"]) (T : Txt K mg C) (c_answer_by_one_set : Cal P w K mg base k "answer_by_one_set" ["p", "worlds"] sp_one) : Mth P w K mg base C (k + 1) "lay" ["self", "p"] (sp_lay C) := by
  refine F.mth sc_lay (fun vs H Q E h => ?_) (fun f cdv A outer s H vs Q E hr h => ?_)
  · obtain ⟨p, m, e, k, l, x, rfl, _⟩ := h
    rfl
  · obtain ⟨p, m, e, kn, l, x, rfl, ⟨dx, hp⟩, q1, q2⟩ := h
    refine ⟨_, (pss_cons (ps_if (pt_cmpR op_eq (pv 1) pe_int (nomark _)) (pss_one (ps_ret (pe_lst (pa_cons (pe_cst T.c_CANNOT_BE rfl) pa_nil)))) pss_nil)
      (pss_cons (ps_fld (pv 0) (pv 1) rfl)
      (pss_one (ps_ret (pe_lst (pa_cons (pe_cal c_answer_by_one_set hr rfl (pa_cons (pv 1) (pa_cons (pe_fld (pv 0) rfl) pa_nil))) pa_nil)))))), ?_⟩
    refine ⟨_, rfl, rfl, _, rfl, ite2 (fun c => ?_) (fun c => ?_)⟩
    · exact ⟨(by show 1 ≤ sizeLine; decide), fun r hr' => q1 (iV_dec (b := 0) c) _ r (NewL.mk Same.rfl hr')⟩
    · refine ⟨_, rfl, _, rfl, p, C, dx, _, rfl, hp, T.cl, T.n_laid, (by show 4 < 1000; decide), ?_⟩
      refine ⟨_, rfl, _, rfl, p, C, dx, _, _, rfl, upd_same, T.cl, T.n_known, fs_known _ _ _ _, x, kn, rfl, (by show 1 ≤ sizeLine; decide), fun r hr' => ?_⟩
      have nrp : p ≠ r := fun z => by rw [← z, upd_same] at hr'; cases hr'
      have h0 : H r = none := by
        rw [upd_ne (Ne.symm nrp)] at hr'
        exact hr'
      refine q2 (iV_ndec (b := 0) c) _ r (fun b o z hb => ?_) ⟨dx, ?_⟩ h0 upd_same
      · rw [upd_ne (ne_of_none z h0), upd_ne hb]
        exact z
      · rw [upd_ne nrp, upd_same]
        rfl
end
end Ld
set_option Elab.async false
set_option linter.all false
set_option maxRecDepth 100000
set_option maxHeartbeats 2000000
namespace Ld
open PySem PySem.Spec PyProof.Rows L2
open Krb7 (full both not_ within truth right why behind count answers)
open Krb8 (House act)
/-- the call's answer is what is wanted -/
def Gives (C : Addr) (H : Hp) (Q : VK) (p : Addr) (a : Krb8.Abs) (c : Krb8.Call) : Prop := ∀ H' r, Ans C H H' p r (act a c).1 (Krb8Neutral.told (act a c).2) → Q (.ref r) H'
theorem Gives.same {C : Addr} {H H' : Hp} {Q : VK} {p r : Addr} {a : Krb8.Abs} {c : Krb8.Call} {z : Krb8.Ans} {xs : List V} (g : Gives C H Q p a c) (e : act a c = (a, z)) (s : Ses C H p a) (n : NewL H H' r xs) (ex : xs = (Krb8Neutral.told z).map V.int) : Q (.ref r) H' := by
  refine g H' r ?_
  rw [e]
  exact Ans.same n s ex
theorem ints_iV (l : List Nat) : (Krb8.ints l).map V.int = l.map iV := by
  unfold Krb8.ints
  rw [List.map_map]
  rfl
theorem told_list (l : List Nat) : (Krb8Neutral.told (Krb8.list l)).map V.int = V.int l.length :: l.map iV := by
  show V.int l.length :: (Krb8.ints l).map V.int = _
  rw [ints_iV]
section
variable {h : House} {x y : Nat} {l : List Nat}
theorem row_ok (hl : l.length ≤ 16) (hp : ∀ p ∈ l, p ≤ full h.m) : (decide (Krb8.mostRow < l.length) || l.any fun p => !(h.ok p)) = false := by
  rw [decide_eq_false (show ¬ Krb8.mostRow < l.length by unfold Krb8.mostRow; omega), Bool.false_or, List.any_eq_false]
  intro p hm
  rw [bad_no (hp p hm)]
  decide
theorem act_alone (hx : x ≤ full h.m) : act (some h) (.alone x) = (some h, { num := h.alone x, nums := Krb8.ints [why h.laid x] }) := by
  show (some h, if (!(h.ok x)) = true then _ else _) = _
  rw [bad_no hx]
  rfl
theorem act_lay (hx : x ≤ full h.m) : act (some h) (.lay x) = if x = 0 then (some h, Krb8.say (-33)) else (some { h with laid := x }, Krb8.say (truth h.known x)) := by
  show (if (!(h.ok x)) = true then _ else _) = _
  rw [bad_no hx]
  rfl
theorem act_learn (hx : x ≤ full h.m) : act (some h) (.learn x) = if both h.known x = 0 then (some h, Krb8.say (-33)) else (some { h with known := both h.known x }, Krb8.say (count h.m (both h.known x))) := by
  show (if (!(h.ok x)) = true then _ else _) = _
  rw [bad_no hx]
  rfl
theorem act_aloneRow (hl : l.length ≤ 16) (hp : ∀ p ∈ l, p ≤ full h.m) : act (some h) (.aloneRow l) = (some h, Krb8.list (l.map fun p => h.alone p)) := by
  show (some h, if (decide (Krb8.mostRow < l.length) || l.any fun p => !(h.ok p)) = true then _ else _) = _
  rw [row_ok hl hp]
  rfl
theorem act_along (hl : l.length ≤ 16) (hp : ∀ p ∈ l, p ≤ full h.m) : act (some h) (.along l) = (some h, Krb8.list (h.along l)) := by
  show (some h, if (decide (Krb8.mostRow < l.length) || l.any fun p => !(h.ok p)) = true then _ else _) = _
  rw [row_ok hl hp]
  rfl
theorem act_parts (hl : l.length ≤ 16) (hp : ∀ p ∈ l, p ≤ full h.m) : act (some h) (.parts l) = (some h, Krb8.list (h.parts l)) := by
  show (some h, if (decide (Krb8.mostRow < l.length) || l.any fun p => !(h.ok p)) = true then _ else _) = _
  rw [row_ok hl hp]
  rfl
theorem act_clash (hx : x ≤ full h.m) (hy : y ≤ full h.m) : act (some h) (.clash x y) = (some h, Krb8.say (if h.clash x y = true then 1 else 0)) := by
  show (some h, if ((!(h.ok x)) || (!(h.ok y))) = true then _ else _) = _
  rw [bad_no hx, bad_no hy]
  rfl
theorem act_clashes : act (some h) .clashes = (some h, Krb8.say h.clashes.length) := rfl
theorem act_nth : act (some h) (.nth x) = (some h, match h.clashes[x]? with
    | none => Krb8.say (-33)
    | some z => { num := z.1, nums := [(z.2 : Int)] }) := rfl
theorem act_begin {a : Krb8.Abs} {m k p : Nat} : act a (.begin_ m k p) = if m = 0 ∨ Krb7.mostLetters < m ∨ k = 0 ∨ full m < k ∨ full m < p then (a, Krb8.say (-22)) else if p = 0 then (a, Krb8.say (-33)) else (some ⟨m, k, p⟩, Krb8.say (truth k p)) := rfl
end
section
variable {P : Program} {w : World} {K : PySem.W.Frag} {mg : Str → Option Value} {base : Heap} {C : Addr} {k : Nat}
abbrev s_begin : Stmt := inClass (top 33) 3
theorem sc_begin : FnScope ["self", "letters", "known", "laid", "every"] ["self", "letters", "known", "laid"] (defScope s_begin) := ⟨rfl, rfl, rfl, by decide +kernel, rfl, by decide +kernel, by decide +kernel⟩
def sp_begin (C : Addr) : Sp := fun vs H Q _ => ∃ (p : Addr) (a : Krb8.Abs) (m kn x : Nat), vs = [.ref p, iV m, iV kn, iV x] ∧ Ses C H p a ∧ Gives C H Q p a (.begin_ m kn x)
theorem ses_at {C : Addr} {H : Hp} {p : Addr} {a : Krb8.Abs} (s : Ses C H p a) : ∃ m e k l, SesAt C H p m e k l := by
  cases a with
  | none => exact ⟨_, _, _, _, s⟩
  | some h => exact ⟨_, _, _, _, s.1⟩
theorem ok_begin (F : TxM K C "begin" "Session.begin" s_begin ["self", "letters", "known", "laid"]) (T : Txt K mg C) (c_all_worlds : Cal P w K mg base k "all_worlds" ["letters"] sp_all_worlds) (m_lay : Mth P w K mg base C k "lay" ["self", "p"] (sp_lay C)) :
    Mth P w K mg base C (k + 1) "begin" ["self", "letters", "known", "laid"] (sp_begin C) := by
  refine F.mth sc_begin (fun vs H Q E h => ?_) (fun f cdv A outer s H vs Q E hr h => ?_)
  · obtain ⟨p, a, m, kn, x, rfl, _⟩ := h
    rfl
  · obtain ⟨p, a, m, kn, x, rfl, hs, q⟩ := h
    have nd := sc_begin.nd
    refine ⟨_, (pss_cons (ps_set (i := 4) nd rfl (Or.inl rfl) (pe_cal c_all_worlds hr rfl (pa_cons (pv 1) pa_nil)))
      (pss_cons (ps_if ((pw_or (pt_cmpR op_eq (pv 4) pe_int (nomark _)) (pw_or (pt_cmpR op_gt (pv 2) (pv 4) (nomark _)) (pw_or (pt_cmpR op_gt (pv 3) (pv 4) (nomark _)) (pw_or1 (pt_cmpR op_eq (pv 2) pe_int (nomark _)))))).pt) (pss_one (ps_ret (pe_lst (pa_cons (pe_cst T.c_NOT_RIGHT rfl) pa_nil)))) pss_nil)
      (pss_cons (ps_if (pt_cmpR op_eq (pv 3) pe_int (nomark _)) (pss_one (ps_ret (pe_lst (pa_cons (pe_cst T.c_CANNOT_BE rfl) pa_nil)))) pss_nil)
      (pss_cons (ps_fld (pv 0) (pv 1) rfl)
      (pss_cons (ps_fld (pv 0) (pv 4) rfl)
      (pss_cons (ps_fld (pv 0) (pv 2) rfl)
      (pss_one (ps_ret (pe_mth (pv 0) T.cl m_lay hr (pa_cons (pv 3) pa_nil)))))))))), ?_⟩
    have no : (m = 0 ∨ Krb7.mostLetters < m ∨ kn = 0 ∨ full m < kn ∨ full m < x) → ∀ r, H r = none → Q (.ref r) (upd H r (.lst [V.int (-22)])) := fun c r hr' =>
      q.same (by rw [act_begin, if_pos c]) hs (NewL.mk Same.rfl hr') rfl
    refine ⟨_, rfl, m, rfl, ?_⟩
    refine ⟨_, rfl, rfl, _, rfl, ite2 (fun c => ?_) (fun c => ?_)⟩
    · have c := every_zero.mp (iV_dec (b := 0) c)
      exact ⟨(by show 1 ≤ sizeLine; decide), no (by unfold Lets at c; unfold Krb7.mostLetters; omega)⟩
    have hm : Lets m := Classical.byContradiction fun z => iV_ndec (b := 0) c (every_zero.mpr z)
    have ev := every_lets hm
    have hm2 : ¬ m = 0 ∧ ¬ Krb7.mostLetters < m := by unfold Lets at hm; unfold Krb7.mostLetters; omega
    rw [ev]
    refine ⟨_, rfl, _, rfl, _, _, rfl, rfl, _, rfl, ite2 (fun c => ?_) (fun c => ?_)⟩
    · have c := of_decide_eq_true c
      exact ⟨(by show 1 ≤ sizeLine; decide), no (by omega)⟩
    have c1 := of_decide_eq_false (eq_false_of_ne_true c)
    refine ⟨_, rfl, _, rfl, _, _, rfl, rfl, _, rfl, ite2 (fun c => ?_) (fun c => ?_)⟩
    · have c := of_decide_eq_true c
      exact ⟨(by show 1 ≤ sizeLine; decide), no (by omega)⟩
    have c2 := of_decide_eq_false (eq_false_of_ne_true c)
    refine ⟨_, rfl, rfl, _, rfl, ite2 (fun c => ?_) (fun c => ?_)⟩
    · have c := iV_dec (b := 0) c
      exact ⟨(by show 1 ≤ sizeLine; decide), no (by omega)⟩
    have c3 := iV_ndec (b := 0) c
    have nno : ¬ (m = 0 ∨ Krb7.mostLetters < m ∨ kn = 0 ∨ full m < kn ∨ full m < x) := by omega
    refine ⟨_, rfl, rfl, _, rfl, ite2 (fun c => ?_) (fun c => ?_)⟩
    · have c := iV_dec (b := 0) c
      exact ⟨(by show 1 ≤ sizeLine; decide), fun r hr' => q.same (by rw [act_begin, if_neg nno, if_pos c]) hs (NewL.mk Same.rfl hr') rfl⟩
    have c4 := iV_ndec (b := 0) c
    obtain ⟨m0, e0, k0, l0, dx, hp⟩ := ses_at hs
    refine ⟨_, rfl, _, rfl, p, C, dx, _, rfl, hp, T.cl, T.n_letters, (by show 4 < 1000; decide), ?_⟩
    refine ⟨_, rfl, _, rfl, p, C, dx, _, rfl, upd_same, T.cl, T.n_every, (by show 4 < 1000; decide), ?_⟩
    refine ⟨_, rfl, _, rfl, p, C, dx, _, rfl, upd_same, T.cl, T.n_known, (by show 4 < 1000; decide), ?_⟩
    refine ⟨_, rfl, p, dx, _, rfl, upd_same, rfl, _, rfl, p, m, full m, kn, l0, x, rfl, ⟨dx, upd_same⟩, fun z => absurd z c4, fun _ H' r kp sa hr' hl => ?_⟩
    refine q H' r ?_
    rw [act_begin, if_neg nno, if_neg c4]
    have npr : p ≠ r := fun z => by rw [← z, upd_same] at hr'; cases hr'
    refine ⟨fun b o z hb => kp b o (by rw [upd_ne hb, upd_ne hb, upd_ne hb]; exact z) hb, ⟨sa, hm, ?_⟩, ?_, hl⟩
    · show (0 < kn ∧ kn ≤ full m) ∧ 0 < x ∧ x ≤ full m
      omega
    · rw [upd_ne (Ne.symm npr), upd_ne (Ne.symm npr), upd_ne (Ne.symm npr)] at hr'
      exact hr'
abbrev s_learn : Stmt := inClass (top 33) 5
theorem sc_learn : FnScope ["self", "worlds", "left"] ["self", "worlds"] (defScope s_learn) := ⟨rfl, rfl, rfl, by decide +kernel, rfl, by decide +kernel, by decide +kernel⟩
def sp_one_p (C : Addr) (c : Nat → Krb8.Call) : Sp := fun vs H Q _ => ∃ (p : Addr) (h : House) (x : Nat), vs = [.ref p, iV x] ∧ Ses C H p (some h) ∧ x ≤ full h.m ∧ Gives C H Q p (some h) (c x)
theorem ok_learn (F : TxM K C "learn" "Session.learn" s_learn ["self", "worlds"]) (T : Txt K mg C) (c_how_many : Cal P w K mg base k "how_many" ["worlds"] sp_how_many) : Mth P w K mg base C (k + 1) "learn" ["self", "worlds"] (sp_one_p C .learn) := by
  refine F.mth sc_learn (fun vs H Q E h => ?_) (fun f cdv A outer s H vs Q E hr h => ?_)
  · obtain ⟨p, h, x, rfl, _⟩ := h
    rfl
  · obtain ⟨p, h, x, rfl, hs, hx, q⟩ := h
    have nd := sc_learn.nd
    obtain ⟨⟨dx, hp⟩, hm, hk, hl⟩ := hs
    refine ⟨_, (pss_cons (ps_set (i := 2) nd rfl (Or.inl rfl) (pe_op op_andN (pe_fld (pv 0) rfl) (pv 1)))
      (pss_cons (ps_if (pt_cmpR op_eq (pv 2) pe_int (nomark _)) (pss_one (ps_ret (pe_lst (pa_cons (pe_cst T.c_CANNOT_BE rfl) pa_nil)))) pss_nil)
      (pss_cons (ps_fld (pv 0) (pv 2) rfl)
      (pss_one (ps_ret (pe_lst (pa_cons (pe_cal c_how_many hr rfl (pa_cons (pv 2) pa_nil)) pa_nil))))))), ?_⟩
    refine ⟨_, rfl, p, C, dx, _, _, rfl, hp, T.cl, T.n_known, fs_known _ _ _ _, _, rfl, h.known, x, rfl, rfl, ?_⟩
    refine ⟨_, rfl, rfl, _, rfl, ite2 (fun c => ?_) (fun c => ?_)⟩
    · have c : both h.known x = 0 := iV_dec (b := 0) c
      exact ⟨(by show 1 ≤ sizeLine; decide), fun r hr' => q.same (by rw [act_learn hx, if_pos c]) ⟨⟨dx, hp⟩, hm, hk, hl⟩ (NewL.mk Same.rfl hr') rfl⟩
    · have c : ¬ both h.known x = 0 := iV_ndec (b := 0) c
      have hle : h.known &&& x ≤ full h.m := and_le_full hk.2
      have hf := full_le hm
      refine ⟨_, rfl, _, rfl, p, C, dx, _, rfl, hp, T.cl, T.n_known, (by show 4 < 1000; decide), ?_⟩
      refine ⟨_, rfl, h.known &&& x, by omega, rfl, (by show 1 ≤ sizeLine; decide), fun r hr' => ?_⟩
      have npr : p ≠ r := fun z => by rw [← z, upd_same] at hr'; cases hr'
      have h0 : H r = none := by
        rw [upd_ne (Ne.symm npr)] at hr'
        exact hr'
      refine q _ r ?_
      rw [act_learn hx, if_neg c]
      refine ⟨fun b o z hb => ?_, ⟨⟨dx, ?_⟩, hm, ⟨Nat.pos_of_ne_zero c, hle⟩, hl⟩, h0, ?_⟩
      · rw [upd_ne (ne_of_none z h0), upd_ne hb]
        exact z
      · rw [upd_ne npr, upd_same]
        rfl
      · rw [upd_same, ← count_pc hm hle]
        rfl
abbrev s_alone : Stmt := inClass (top 33) 6
theorem sc_alone : FnScope ["self", "p"] ["self", "p"] (defScope s_alone) := ⟨rfl, rfl, rfl, by decide +kernel, rfl, by decide +kernel, by decide +kernel⟩
theorem ok_alone (F : TxM K C "alone" "Session.alone" s_alone ["self", "p"]) (T : Txt K mg C) (c_answer_by : Cal P w K mg base k "answer_by" ["p", "stand", "known"] sp_answer_by) (c_bearing : Cal P w K mg base k "bearing" ["p", "stand"] sp_bearing) :
    Mth P w K mg base C (k + 1) "alone" ["self", "p"] (sp_one_p C .alone) := by
  refine F.mth sc_alone (fun vs H Q E h => ?_) (fun f cdv A outer s H vs Q E hr h => ?_)
  · obtain ⟨p, h, x, rfl, _⟩ := h
    rfl
  · obtain ⟨p, h, x, rfl, hs, hx, q⟩ := h
    obtain ⟨⟨dx, hp⟩, hm, hk, hl⟩ := hs
    refine ⟨_, (pss_one (ps_ret (pe_lst (pa_cons (pe_cal c_answer_by hr rfl (pa_cons (pv 1) (pa_cons (pe_fld (pv 0) rfl) (pa_cons (pe_fld (pv 0) rfl) pa_nil)))) (pa_cons (pe_cal c_bearing hr rfl (pa_cons (pv 1) (pa_cons (pe_fld (pv 0) rfl) pa_nil))) pa_nil))))), ?_⟩
    refine ⟨_, rfl, _, rfl, p, C, dx, _, _, rfl, hp, T.cl, T.n_laid, fs_laid _ _ _ _, _, rfl, p, C, dx, _, _, rfl, hp, T.cl, T.n_known, fs_known _ _ _ _, x, h.laid, h.known, rfl, ?_⟩
    refine ⟨_, rfl, _, rfl, p, C, dx, _, _, rfl, hp, T.cl, T.n_laid, fs_laid _ _ _ _, x, h.laid, rfl, (by show 2 ≤ sizeLine; decide), fun r hr' => ?_⟩
    exact q.same (act_alone hx) ⟨⟨dx, hp⟩, hm, hk, hl⟩ (NewL.mk Same.rfl hr') rfl
def sp_row_c (C : Addr) (c : List Nat → Krb8.Call) : Sp := fun vs H Q _ => ∃ (p l : Addr) (h : House) (row : List Nat), vs = [.ref p, .ref l] ∧ Ses C H p (some h) ∧ H l = some (.lst (row.map iV)) ∧ row.length ≤ 16 ∧ (∀ x ∈ row, x ≤ full h.m) ∧ Gives C H Q p (some h) (c row)
abbrev s_alonerow : Stmt := inClass (top 33) 7
theorem sc_alonerow : FnScope ["self", "row"] ["self", "row"] (defScope s_alonerow) := ⟨rfl, rfl, rfl, by decide +kernel, rfl, by decide +kernel, by decide +kernel⟩
theorem ok_alonerow (F : TxM K C "alonerow" "Session.alonerow" s_alonerow ["self", "row"]) (T : Txt K mg C) (c_row_alone : Cal P w K mg base k "row_alone" ["row", "laid", "known"] (sp_row_alone K)) :
    Mth P w K mg base C (k + 1) "alonerow" ["self", "row"] (sp_row_c C .aloneRow) := by
  refine F.mth sc_alonerow (fun vs H Q E h => ?_) (fun f cdv A outer s H vs Q E hr h => ?_)
  · obtain ⟨p, l, h, row, rfl, _⟩ := h
    rfl
  · obtain ⟨p, l, h, row, rfl, hs, hl, hlen, hrow, q⟩ := h
    obtain ⟨⟨dx, hp⟩, hm, hk, hla⟩ := hs
    refine ⟨_, (pss_one (ps_ret (pe_op op_cat (pe_lst (pa_cons (pe_callB call_len_seq (by rfl) T.n_len PySem.boot_len (pa_cons (pv 1) pa_nil)) pa_nil)) (pe_cal c_row_alone hr rfl (pa_cons (pv 1) (pa_cons (pe_fld (pv 0) rfl) (pa_cons (pe_fld (pv 0) rfl) pa_nil))))))), ?_⟩
    refine ⟨_, rfl, l, _, rfl, .inl (SqL.of hl), (by show 1 ≤ sizeLine; decide), fun u hu => ?_⟩
    have s1 : Same H (upd H u (.lst [V.int (row.map iV).length])) := Same.new hu
    refine ⟨_, rfl, _, rfl, p, C, dx, _, _, rfl, s1 _ _ hp, T.cl, T.n_laid, fs_laid _ _ _ _, _, rfl, p, C, dx, _, _, rfl, s1 _ _ hp, T.cl, T.n_known, fs_known _ _ _ _, l, row, h.laid, h.known, rfl, SqL.of (s1 _ _ hl), by omega, fun H2 z n2 => ?_⟩
    refine ⟨u, z, _, _, rfl, rfl, n2.1 _ _ upd_same, n2.2.2, ?_, fun r hr' => ?_⟩
    · simp only [List.length_map, List.length_cons, List.length_nil]
      exact Nat.le_of_lt (small (by omega))
    · refine q.same (act_aloneRow hlen hrow) ⟨⟨dx, hp⟩, hm, hk, hla⟩ (NewL.mk (s1.trans n2.1) hr') ?_
      rw [told_list, List.length_map, List.length_map]
      rfl
abbrev s_along : Stmt := inClass (top 33) 8
theorem sc_along : FnScope ["self", "row"] ["self", "row"] (defScope s_along) := ⟨rfl, rfl, rfl, by decide +kernel, rfl, by decide +kernel, by decide +kernel⟩
theorem ok_along (F : TxM K C "along" "Session.along" s_along ["self", "row"]) (T : Txt K mg C) (c_row_along : Cal P w K mg base k "row_along" ["row", "laid", "known"] (sp_row_along K)) :
    Mth P w K mg base C (k + 1) "along" ["self", "row"] (sp_row_c C .along) := by
  refine F.mth sc_along (fun vs H Q E h => ?_) (fun f cdv A outer s H vs Q E hr h => ?_)
  · obtain ⟨p, l, h, row, rfl, _⟩ := h
    rfl
  · obtain ⟨p, l, h, row, rfl, hs, hl, hlen, hrow, q⟩ := h
    obtain ⟨⟨dx, hp⟩, hm, hk, hla⟩ := hs
    refine ⟨_, (pss_one (ps_ret (pe_op op_cat (pe_lst (pa_cons (pe_callB call_len_seq (by rfl) T.n_len PySem.boot_len (pa_cons (pv 1) pa_nil)) pa_nil)) (pe_cal c_row_along hr rfl (pa_cons (pv 1) (pa_cons (pe_fld (pv 0) rfl) (pa_cons (pe_fld (pv 0) rfl) pa_nil))))))), ?_⟩
    refine ⟨_, rfl, l, _, rfl, .inl (SqL.of hl), (by show 1 ≤ sizeLine; decide), fun u hu => ?_⟩
    have s1 : Same H (upd H u (.lst [V.int (row.map iV).length])) := Same.new hu
    refine ⟨_, rfl, _, rfl, p, C, dx, _, _, rfl, s1 _ _ hp, T.cl, T.n_laid, fs_laid _ _ _ _, _, rfl, p, C, dx, _, _, rfl, s1 _ _ hp, T.cl, T.n_known, fs_known _ _ _ _, l, row, h.m, h.laid, h.known, rfl, SqL.of (s1 _ _ hl), by omega, hm, hla.2, hrow, fun H2 z n2 => ?_⟩
    refine ⟨u, z, _, _, rfl, rfl, n2.1 _ _ upd_same, n2.2.2, ?_, fun r hr' => ?_⟩
    · simp only [List.length_map, List.length_cons, List.length_nil, answers_len]
      exact Nat.le_of_lt (small (by omega))
    · refine q.same (act_along hlen hrow) ⟨⟨dx, hp⟩, hm, hk, hla⟩ (NewL.mk (s1.trans n2.1) hr') ?_
      rw [told_list, List.length_map]
      show _ = V.int ((answers h.m h.known h.laid row).1.length : Nat) :: _
      rw [answers_len]
      rfl
abbrev s_parts : Stmt := inClass (top 33) 9
theorem sc_parts : FnScope ["self", "row", "places"] ["self", "row"] (defScope s_parts) := ⟨rfl, rfl, rfl, by decide +kernel, rfl, by decide +kernel, by decide +kernel⟩
theorem parts_len (h : House) (l : List Nat) : (h.parts l).length ≤ l.length := by
  have := List.length_filter_le (fun i => (h.along l).getD i 2 != h.alone (l.getD i 0)) (List.range l.length)
  rw [List.length_range] at this
  exact this
theorem ok_parts (F : TxM K C "parts" "Session.parts" s_parts ["self", "row"]) (T : Txt K mg C) (c_places_apart : Cal P w K mg base k "places_apart" ["row", "laid", "known"] (sp_places_apart K)) :
    Mth P w K mg base C (k + 1) "parts" ["self", "row"] (sp_row_c C .parts) := by
  refine F.mth sc_parts (fun vs H Q E h => ?_) (fun f cdv A outer s H vs Q E hr h => ?_)
  · obtain ⟨p, l, h, row, rfl, _⟩ := h
    rfl
  · obtain ⟨p, l, h, row, rfl, hs, hl, hlen, hrow, q⟩ := h
    have nd := sc_parts.nd
    obtain ⟨⟨dx, hp⟩, hm, hk, hla⟩ := hs
    refine ⟨_, (pss_cons (ps_set (i := 2) nd rfl (Or.inl rfl) (pe_cal c_places_apart hr rfl (pa_cons (pv 1) (pa_cons (pe_fld (pv 0) rfl) (pa_cons (pe_fld (pv 0) rfl) pa_nil)))))
      (pss_one (ps_ret (pe_op op_cat (pe_lst (pa_cons (pe_callB call_len_seq (by rfl) T.n_len PySem.boot_len (pa_cons (pv 2) pa_nil)) pa_nil)) (pv 2))))), ?_⟩
    refine ⟨_, rfl, _, rfl, p, C, dx, _, _, rfl, hp, T.cl, T.n_laid, fs_laid _ _ _ _, _, rfl, p, C, dx, _, _, rfl, hp, T.cl, T.n_known, fs_known _ _ _ _, l, row, h, rfl, SqL.of hl, by omega, hm, hla.2, hrow, fun H1 z n1 => ?_⟩
    refine ⟨_, rfl, z, _, rfl, .inl (SqL.of n1.2.2), (by show 1 ≤ sizeLine; decide), fun u hu => ?_⟩
    have s1 : Same H1 (upd H1 u (.lst [V.int ((h.parts row).map iV).length])) := Same.new hu
    refine ⟨_, rfl, u, z, _, _, rfl, rfl, upd_same, s1 _ _ n1.2.2, ?_, fun r hr' => ?_⟩
    · rw [List.length_map]
      have := parts_len h row
      show 1 + (h.parts row).length ≤ sizeLine
      exact Nat.le_of_lt (small (by omega))
    · refine q.same (act_parts hlen hrow) ⟨⟨dx, hp⟩, hm, hk, hla⟩ (NewL.mk (n1.1.trans s1) hr') ?_
      rw [told_list, List.length_map]
      rfl
end
end Ld
set_option Elab.async false
set_option linter.all false
set_option maxRecDepth 100000
set_option maxHeartbeats 2000000
namespace Ld
open PySem PySem.Spec PyProof.Rows L2
open Krb7 (full both not_ within truth right why behind count answers)
open Krb8 (House act)
theorem TupsAt.get {H : Hp} : ∀ {ts : List Addr} {l : List (Nat × Nat)}, TupsAt H ts l → ∀ {i : Nat} {z : Nat × Nat}, l[i]? = some z → ∃ t, ts[i]? = some t ∧ H t = some (.tup [iV z.1, iV z.2])
  | _, _, .nil, i, z, h => by simp at h
  | t :: ts, y :: l, .cons a r, 0, z, h => by
    have e : y = z := Option.some.inj h
    subst e
    exact ⟨t, rfl, a⟩
  | t :: ts, y :: l, .cons a r, i + 1, z, h => TupsAt.get (ts := ts) (l := l) r h
section
variable {P : Program} {w : World} {K : PySem.W.Frag} {mg : Str → Option Value} {base : Heap} {C : Addr} {k : Nat}
abbrev s_clash : Stmt := inClass (top 33) 10
theorem sc_clash : FnScope ["self", "p", "q"] ["self", "p", "q"] (defScope s_clash) := ⟨rfl, rfl, rfl, by decide +kernel, rfl, by decide +kernel, by decide +kernel⟩
def sp_two_p (C : Addr) (c : Nat → Nat → Krb8.Call) : Sp := fun vs H Q _ => ∃ (p : Addr) (h : House) (x y : Nat), vs = [.ref p, iV x, iV y] ∧ Ses C H p (some h) ∧ x ≤ full h.m ∧ y ≤ full h.m ∧ Gives C H Q p (some h) (c x y)
theorem ok_clash (F : TxM K C "clash" "Session.clash" s_clash ["self", "p", "q"]) (T : Txt K mg C) (c_two_clash : Cal P w K mg base k "two_clash" ["p", "q", "laid", "known"] sp_two_clash) :
    Mth P w K mg base C (k + 1) "clash" ["self", "p", "q"] (sp_two_p C .clash) := by
  refine F.mth sc_clash (fun vs H Q E h => ?_) (fun f cdv A outer s H vs Q E hr h => ?_)
  · obtain ⟨p, h, x, y, rfl, _⟩ := h
    rfl
  · obtain ⟨p, h, x, y, rfl, hs, hx, hy, q⟩ := h
    obtain ⟨⟨dx, hp⟩, hm, hk, hla⟩ := hs
    refine ⟨_, (pss_cons (ps_if (pt_val (pe_cal c_two_clash hr rfl (pa_cons (pv 1) (pa_cons (pv 2) (pa_cons (pe_fld (pv 0) rfl) (pa_cons (pe_fld (pv 0) rfl) pa_nil)))))) (pss_one (ps_ret (pe_lst (pa_cons pe_int pa_nil)))) pss_nil)
      (pss_one (ps_ret (pe_lst (pa_cons pe_int pa_nil))))), ?_⟩
    refine ⟨_, rfl, _, rfl, _, rfl, p, C, dx, _, _, rfl, hp, T.cl, T.n_laid, fs_laid _ _ _ _, _, rfl, p, C, dx, _, _, rfl, hp, T.cl, T.n_known, fs_known _ _ _ _, x, y, h, rfl, fun H1 s1 => ⟨_, rfl, ite2 (fun c => ?_) (fun c => ?_)⟩⟩
    · exact ⟨(by show 1 ≤ sizeLine; decide), fun r hr' => q.same (by rw [act_clash hx hy, if_pos c]) ⟨⟨dx, hp⟩, hm, hk, hla⟩ (NewL.mk s1 hr') rfl⟩
    · exact ⟨(by show 1 ≤ sizeLine; decide), fun r hr' => q.same (by rw [act_clash hx hy, if_neg c]) ⟨⟨dx, hp⟩, hm, hk, hla⟩ (NewL.mk s1 hr') rfl⟩
abbrev s_clashes : Stmt := inClass (top 33) 11
theorem sc_clashes : FnScope ["self"] ["self"] (defScope s_clashes) := ⟨rfl, rfl, rfl, by decide +kernel, rfl, by decide +kernel, by decide +kernel⟩
def sp_no (C : Addr) (c : Krb8.Call) : Sp := fun vs H Q _ => ∃ (p : Addr) (h : House), vs = [.ref p] ∧ Ses C H p (some h) ∧ Gives C H Q p (some h) c
theorem ok_clashes (F : TxM K C "clashes" "Session.clashes" s_clashes ["self"]) (T : Txt K mg C) (c_clashing_pairs : Cal P w K mg base k "clashing_pairs" ["every", "laid", "known"] sp_clashing_pairs) :
    Mth P w K mg base C (k + 1) "clashes" ["self"] (sp_no C .clashes) := by
  refine F.mth sc_clashes (fun vs H Q E h => ?_) (fun f cdv A outer s H vs Q E hr h => ?_)
  · obtain ⟨p, h, rfl, _⟩ := h
    rfl
  · obtain ⟨p, h, rfl, hs, q⟩ := h
    obtain ⟨⟨dx, hp⟩, hm, hk, hla⟩ := hs
    refine ⟨_, (pss_one (ps_ret (pe_lst (pa_cons (pe_callB call_len_seq (by rfl) T.n_len PySem.boot_len (pa_cons (pe_cal c_clashing_pairs hr rfl (pa_cons (pe_fld (pv 0) rfl) (pa_cons (pe_fld (pv 0) rfl) (pa_cons (pe_fld (pv 0) rfl) pa_nil)))) pa_nil)) pa_nil)))), ?_⟩
    refine ⟨_, rfl, p, C, dx, _, _, rfl, hp, T.cl, T.n_every, fs_every _ _ _ _, _, rfl, p, C, dx, _, _, rfl, hp, T.cl, T.n_laid, fs_laid _ _ _ _, _, rfl, p, C, dx, _, _, rfl, hp, T.cl, T.n_known, fs_known _ _ _ _, h, rfl, hm, fun H1 z n1 => ?_⟩
    obtain ⟨s1, hz, ts, hts, ht⟩ := n1
    refine ⟨z, _, rfl, .inl (SqL.of hts), (by show 1 ≤ sizeLine; decide), fun r hr' => ?_⟩
    refine q.same act_clashes ⟨⟨dx, hp⟩, hm, hk, hla⟩ (NewL.mk s1 hr') ?_
    rw [List.length_map, PairsAt.len ht (H' := H1)]
    rfl
abbrev s_nth : Stmt := inClass (top 33) 12
theorem sc_nth : FnScope ["self", "which", "pairs"] ["self", "which"] (defScope s_nth) := ⟨rfl, rfl, rfl, by decide +kernel, rfl, by decide +kernel, by decide +kernel⟩
def sp_any_k (C : Addr) (c : Nat → Krb8.Call) : Sp := fun vs H Q _ => ∃ (p : Addr) (h : House) (x : Nat), vs = [.ref p, iV x] ∧ Ses C H p (some h) ∧ Gives C H Q p (some h) (c x)
theorem ok_nth (F : TxM K C "nth" "Session.nth" s_nth ["self", "which"]) (T : Txt K mg C) (c_clashing_pairs : Cal P w K mg base k "clashing_pairs" ["every", "laid", "known"] sp_clashing_pairs) :
    Mth P w K mg base C (k + 1) "nth" ["self", "which"] (sp_any_k C .nth) := by
  refine F.mth sc_nth (fun vs H Q E h => ?_) (fun f cdv A outer s H vs Q E hr h => ?_)
  · obtain ⟨p, h, x, rfl, _⟩ := h
    rfl
  · obtain ⟨p, h, x, rfl, hs, q⟩ := h
    have nd := sc_nth.nd
    obtain ⟨⟨dx, hp⟩, hm, hk, hla⟩ := hs
    refine ⟨_, (pss_cons (ps_set (i := 2) nd rfl (Or.inl rfl) (pe_cal c_clashing_pairs hr rfl (pa_cons (pe_fld (pv 0) rfl) (pa_cons (pe_fld (pv 0) rfl) (pa_cons (pe_fld (pv 0) rfl) pa_nil)))))
      (pss_cons (ps_if (pt_cmpR op_ge (pv 1) (pe_callB call_len_seq (by rfl) T.n_len PySem.boot_len (pa_cons (pv 2) pa_nil)) (nomark _)) (pss_one (ps_ret (pe_lst (pa_cons (pe_cst T.c_CANNOT_BE rfl) pa_nil)))) pss_nil)
      (pss_one (ps_ret (pe_callTy call_list_of (by rfl) T.n_list rfl (pa_cons (pe_ix ix_list (pv 2) (pv 1) (fun _ _ => rfl)) pa_nil)))))), ?_⟩
    refine ⟨_, rfl, p, C, dx, _, _, rfl, hp, T.cl, T.n_every, fs_every _ _ _ _, _, rfl, p, C, dx, _, _, rfl, hp, T.cl, T.n_laid, fs_laid _ _ _ _, _, rfl, p, C, dx, _, _, rfl, hp, T.cl, T.n_known, fs_known _ _ _ _, h, rfl, hm, fun H1 z n1 => ?_⟩
    obtain ⟨s1, hz, ts, hts, ht⟩ := n1
    have hlen : ts.length = h.clashes.length := PairsAt.len ht (H' := H1)
    refine ⟨_, rfl, _, rfl, z, _, rfl, .inl (SqL.of hts), _, _, rfl, rfl, _, rfl, ite2 (fun c => ?_) (fun c => ?_)⟩
    · have c := of_decide_eq_true c
      rw [List.length_map, hlen] at c
      have e : h.clashes[x]? = none := List.getElem?_eq_none (by omega)
      exact ⟨(by show 1 ≤ sizeLine; decide), fun r hr' => q.same (by rw [act_nth, e]) ⟨⟨dx, hp⟩, hm, hk, hla⟩ (NewL.mk s1 hr') rfl⟩
    · have c := of_decide_eq_false (eq_false_of_ne_true c)
      rw [List.length_map, hlen] at c
      obtain ⟨y, e⟩ : ∃ y, h.clashes[x]? = some y := ⟨_, List.getElem?_eq_getElem (by omega)⟩
      obtain ⟨t, ht1, ht2⟩ := ht.get e
      refine ⟨_, rfl, _, rfl, z, _, _, V.ref t, rfl, rfl, SqL.of hts, at_of (j := x) rfl (by rw [List.getElem?_map, ht1]; rfl), t, _, rfl, .inr (SqT.of ht2), fun r hr' => ?_⟩
      exact q.same (by rw [act_nth, e]) ⟨⟨dx, hp⟩, hm, hk, hla⟩ (NewL.mk s1 hr') rfl
end
end Ld
set_option Elab.async false
set_option linter.all false
set_option maxRecDepth 100000
set_option maxHeartbeats 4000000
namespace Ld
open PySem PySem.Spec PyProof.Rows L2
open Krb7 (full both not_ within truth right why behind count answers)
open Krb8 (House ordersOf)
def TupRows (H : Hp) (ts : List Addr) (rows : List (List Nat)) : Prop := Paired (fun t r => H t = some (.tup (r.map iV))) ts rows
theorem TupRows.on {H H' : Hp} {ts : List Addr} {rows : List (List Nat)} (h : TupRows H ts rows) (s : ∀ t xs, H t = some (.tup xs) → H' t = some (.tup xs)) : TupRows H' ts rows := by
  unfold TupRows at h ⊢
  induction h with
  | nil => exact .nil
  | cons a _ ih => exact .cons (s _ _ a) ih
/-- the list at p, new since H, holds tuples with these rows -/
def OrdsAt (H H' : Hp) (p : Addr) (rows : List (List Nat)) : Prop := Same H H' ∧ H p = none ∧ ∃ ts, H' p = some (.lst (ts.map V.ref)) ∧ TupRows H' ts rows
theorem OrdsAt.snoc {H H' : Hp} {p t : Addr} {rows : List (List Nat)} {r : List Nat} {ts : List Addr} (a : Same H H') (b : H p = none) (c : H' p = some (.lst (ts.map V.ref))) (d : TupRows H' ts rows) (ht : H' t = some (.tup (r.map iV))) :
    OrdsAt H (upd H' p (.lst (ts.map V.ref ++ [V.ref t]))) p (rows ++ [r]) := by
  have kp : ∀ u xs, H' u = some (.tup xs) → upd H' p (.lst (ts.map V.ref ++ [V.ref t])) u = some (.tup xs) := fun u xs h => by
    rw [upd_ne (ne_of h c (fun z => nomatch z))]
    exact h
  refine ⟨fun q o h => ?_, b, ts ++ [t], ?_, ?_⟩
  · rw [upd_ne (ne_of_none h b)]
    exact a _ _ h
  · rw [upd_same, List.map_append]
    rfl
  · exact Paired.snoc (d.on kp) (kp _ _ ht)
theorem in_row (b : List Nat) (p : Nat) : inV (iV p) (b.map iV) = b.contains p := by
  unfold inV
  rw [List.any_map, Bool.eq_iff_iff, List.any_eq_true, List.contains_iff_mem]
  constructor
  · rintro ⟨x, hx, e⟩
    have e : ((x : Int) == (p : Int)) = true := e
    rw [cast_beq, beq_iff_eq] at e
    rw [← e]
    exact hx
  · intro hp
    refine ⟨p, hp, ?_⟩
    show ((p : Int) == (p : Int)) = true
    exact beq_self_eq_true _
theorem ext_one (all b : List Nat) : ext all [b] = (all.filter fun x => !b.contains x).map fun x => b ++ [x] := by
  unfold ext
  rw [List.flatMap_cons, List.flatMap_nil, List.append_nil]
section
variable {P : Program} {w : World} {K : PySem.W.Frag} {mg : Str → Option Value} {base : Heap} {C : Addr} {k : Nat}
abbrev s_all_orders : Stmt := top 28
theorem sc_all_orders : FnScope ["size", "orders", "length", "longer", "begun", "place"] ["size"] (defScope s_all_orders) := ⟨rfl, rfl, rfl, by decide +kernel, rfl, by decide +kernel, by decide +kernel⟩
def sp_all_orders : Sp := fun vs H Q _ => ∃ n : Nat, vs = [iV n] ∧ n ≤ 5 ∧ ∀ H' p, OrdsAt H H' p (extN (List.range n) n [[]]) → Q (.ref p) H'
theorem ok_all_orders (F : TxF K mg "all_orders" s_all_orders ["size"]) (T : Txt K mg C) : Cal P w K mg base (k + 1) "all_orders" ["size"] sp_all_orders := by
  refine F.cal sc_all_orders (fun vs H Q E h => ?_) (fun f cdv A outer s H vs Q E hr h => ?_)
  · obtain ⟨n, rfl, _⟩ := h
    rfl
  · obtain ⟨n, rfl, hn, q⟩ := h
    have nd := sc_all_orders.nd
    refine ⟨_, (pss_cons (ps_set (i := 1) nd rfl (Or.inl rfl) (pe_lst (pa_cons (pe_tup pa_nil) pa_nil)))
      (pss_cons (ps_for PassesOwn.never rfl (pi_range1 rfl T.n_range (pa_cons (pv 0) pa_nil)) (pg_name (i := 2) nd rfl (Or.inl rfl)) (pss_cons (ps_set (i := 3) nd rfl (Or.inl rfl) (pe_lst pa_nil))
      (pss_cons (ps_for PassesOwn.never rfl (pi_list (pv 1)) (pg_name (i := 4) nd rfl (Or.inl rfl)) (pss_one (ps_for PassesOwn.never rfl (pi_range1 rfl T.n_range (pa_cons (pv 0) pa_nil)) (pg_name (i := 5) nd rfl (Or.inl rfl)) (pss_one (ps_if (pt_cmpR op_notIn_seq (pv 5) (pv 4) (by rfl)) (pss_one (ps_expr (pe_bm PySem.F.plainAttrs_list PySem.F.slot_list_append PySem.F.type_list_append mt_append (pv 3) (pa_cons (pe_op op_catN (pv 4) (pe_tup (pa_cons (pv 5) pa_nil))) pa_nil)))) pss_nil)))))
      (pss_one (ps_set (i := 1) nd rfl (Or.inl rfl) (pv 3))))))
      (pss_one (ps_ret (pv 1))))), ?_⟩
    refine ⟨Nat.zero_le _, fun t ht => ⟨(by show 1 ≤ sizeLine; decide), fun l hl => ?_⟩⟩
    have s1 : Same H (upd H t (.tup [])) := Same.new ht
    have start : OrdsAt H (upd (upd H t (.tup [])) l (.lst [V.ref t])) l [[]] :=
      ⟨s1.trans (Same.new hl), s1.free hl, [t], upd_same, .cons (by rw [upd_ne (ne_of_none upd_same hl), upd_same]; rfl) .nil⟩
    refine ⟨_, rfl, (n : Int), rfl, by omega, by omega, for_range (lo := 0) (n := (n : Int).toNat) (fun i σ H' => ∃ (o : Addr) (v2 v3 v4 v5 : Option V), σ = [some (iV n), some (.ref o), v2, v3, v4, v5] ∧ OrdsAt H H' o (extN (List.range n) i [[]]))
      ⟨l, none, none, none, none, rfl, start⟩ ?_ ?_⟩
    · rintro i σ H1 hi ⟨o, v2, v3, v4, v5, rfl, a1, a2, ts, a3, a4⟩
      have hi : i < n := by omega
      generalize hrows : extN (List.range n) i [[]] = rows at a4
      have hrl : rows.length ≤ 15625 := by rw [← hrows]; exact extN_bound hn (by omega)
      have hr5 : ∀ r ∈ rows, r.length ≤ 5 := fun r hr' => by
        have := extN_len (all := List.range n) i (os := [[]]) (j := 0) (fun o ho => by rw [List.mem_singleton.mp ho]; rfl) r (by rw [hrows]; exact hr')
        omega
      refine ⟨Nat.zero_le _, fun g hg => ?_⟩
      have s2 : Same H1 (upd H1 g (.lst [])) := Same.new hg
      have g0 : H g = none := a1.free hg
      have ngo : o ≠ g := ne_of_none a3 hg
      refine ⟨_, rfl, o, rfl, ⟨_, SqL.of (s2 _ _ a3)⟩, for_list (K := K) (a := o) (xs := ts.map V.ref) (fun j σ H' => ∃ (v4 v5 : Option V), σ = [some (iV n), some (.ref o), some (.int (0 + (i : Int))), some (.ref g), v4, v5] ∧
        H' o = some (.lst (ts.map V.ref)) ∧ TupRows H' ts rows ∧ OrdsAt H H' g (ext (List.range n) (rows.take j)))
        ⟨v4, v5, rfl, s2 _ _ a3, a4.on fun t xs z => s2 _ _ z, a1.trans s2, g0, [], upd_same, .nil⟩ (fun j σ H' _ ⟨_, _, _, z, _⟩ => SqL.of z) ?_ ?_⟩
      · rintro j x σ H2 hx ⟨v4, v5, rfl, b1, b2, b3⟩
        obtain ⟨tb, htb, rfl⟩ := map_get hx
        obtain ⟨b, hb, hbt⟩ := paired_at' b2 htb
        have hb5 := hr5 b (List.mem_of_getElem? hb)
        refine ⟨_, rfl, (n : Int), rfl, by omega, by omega, for_range (lo := 0) (n := (n : Int).toNat) (fun p σ H' => ∃ v5 : Option V, σ = [some (iV n), some (.ref o), some (.int (0 + (i : Int))), some (.ref g), some (.ref tb), v5] ∧
          H' o = some (.lst (ts.map V.ref)) ∧ TupRows H' ts rows ∧ H' tb = some (.tup (b.map iV)) ∧ OrdsAt H H' g (ext (List.range n) (rows.take j) ++ ((List.range p).filter fun x => !b.contains x).map fun x => b ++ [x]))
          ⟨v5, rfl, b1, b2, hbt, by simpa using b3⟩ ?_ ?_⟩
        · rintro p σ H3 hp ⟨v5, rfl, c1, c2, c3, c4⟩
          have e0 : (0 : Int) + (p : Int) = (p : Int) := Int.zero_add _
          rw [e0]
          have eR : (((List.range (p + 1)).filter fun x => !b.contains x).map fun x => b ++ [x]) = (((List.range p).filter fun x => !b.contains x).map fun x => b ++ [x]) ++ (if b.contains p = true then [] else [b ++ [p]]) := by
            rw [List.range_succ, List.filter_append, List.map_append, List.filter_cons]
            by_cases c : b.contains p = true
            · rw [c]
              rfl
            · rw [eq_false_of_ne_true c]
              rfl
          rw [eR]
          obtain ⟨d1, d2, us, d3, d4⟩ := c4
          refine ⟨_, rfl, _, rfl, tb, _, rfl, .inr (SqT.of c3), rfl, flat_iV _, _, rfl, ite2 (fun c => ?_) (fun c => ?_)⟩
          · have c : b.contains p = false := by
              have z : (!inV (iV p) (b.map iV)) = true := c
              rw [in_row] at z
              simpa using z
            rw [if_neg (by rw [c]; exact Bool.false_ne_true)]
            have fin : ∀ (H4 : Hp) (a : Addr), Same H3 H4 → H4 a = some (.tup ((b ++ [p]).map iV)) → ∃ v5' : Option V, [some (iV n), some (V.ref o), some (.int (0 + (i : Int))), some (V.ref g), some (V.ref tb), some (iV p)] = [some (iV n), some (V.ref o), some (.int (0 + (i : Int))), some (V.ref g), some (V.ref tb), v5'] ∧
                upd H4 g (.lst (us.map V.ref ++ [V.ref a])) o = some (.lst (ts.map V.ref)) ∧ TupRows (upd H4 g (.lst (us.map V.ref ++ [V.ref a]))) ts rows ∧ upd H4 g (.lst (us.map V.ref ++ [V.ref a])) tb = some (.tup (b.map iV)) ∧
                OrdsAt H (upd H4 g (.lst (us.map V.ref ++ [V.ref a]))) g (ext (List.range n) (rows.take j) ++ (((List.range p).filter fun x => !b.contains x).map (fun x => b ++ [x]) ++ [b ++ [p]])) := by
              intro H4 a s4 ha
              have kp : ∀ u xs, H4 u = some (.tup xs) → upd H4 g (.lst (us.map V.ref ++ [V.ref a])) u = some (.tup xs) := fun u xs h => by
                rw [upd_ne (ne_of h (s4 _ _ d3) (fun z => nomatch z))]
                exact h
              refine ⟨_, rfl, ?_, ?_, kp _ _ (s4 _ _ c3), ?_⟩
              · rw [upd_ne ngo]
                exact s4 _ _ c1
              · exact c2.on fun u xs h => kp _ _ (s4 _ _ h)
              · rw [← List.append_assoc]
                exact OrdsAt.snoc (d1.trans s4) d2 (s4 _ _ d3) (d4.on fun t xs h => s4 _ _ h) ha
            have hlen : us.length < sizeLine := by
              have h1 : us.length = _ := Paired.length d4
              have h2 := ext_many (List.range n) (rows.take j)
              have h3 := List.length_filter_le (fun x => !b.contains x) (List.range p)
              rw [List.length_append, List.length_map] at h1
              rw [List.length_range] at h2 h3
              have h4 : (rows.take j).length ≤ rows.length := by rw [List.length_take]; exact Nat.min_le_right _ _
              have h5 : n * (rows.take j).length ≤ 5 * 15625 := Nat.mul_le_mul hn (by omega)
              exact small (by omega)
            refine ⟨_, rfl, .inl ⟨rfl, _, SqL.of d3⟩, _, rfl, _, rfl, (by show 1 ≤ sizeLine; decide), fun u hu => ?_⟩
            have s3 : Same H3 (upd H3 u (.tup [iV p])) := Same.new hu
            refine ⟨tb, u, _, _, rfl, rfl, SqT.of (s3 _ _ c3), SqT.of upd_same, (fun z => nomatch z), ?_, fun hx => ?_, fun hx a ha => ?_⟩
            · rw [List.length_map]
              show b.length + 1 ≤ sizeLine
              exact Nat.le_of_lt (small (by omega))
            · have eb : b = [] := List.map_eq_nil_iff.mp hx
              refine ⟨g, _, _, rfl, rfl, s3 _ _ d3, by rw [List.length_map]; exact hlen, ?_⟩
              exact fin _ u s3 (by rw [upd_same, eb]; rfl)
            · have s4 := s3.trans (Same.new (o := .tup (b.map iV ++ [iV p])) ha)
              refine ⟨g, _, _, rfl, rfl, s4 _ _ d3, by rw [List.length_map]; exact hlen, ?_⟩
              exact fin _ a s4 (by rw [upd_same, List.map_append]; rfl)
          · have c : b.contains p = true := by
              have z : ¬ (!inV (iV p) (b.map iV)) = true := c
              rw [in_row] at z
              simpa using z
            rw [if_pos c, List.append_nil]
            exact ⟨_, rfl, c1, c2, c3, d1, d2, us, d3, d4⟩
        · rintro σ H3 ⟨v5, rfl, c1, c2, c3, c4⟩
          have en : (n : Int).toNat = n := Int.toNat_natCast n
          rw [en] at c4
          refine ⟨_, _, rfl, c1, c2, ?_⟩
          rw [take_snoc hb, ext_app, ext_one]
          exact c4
      · rintro σ H2 ⟨v4, v5, rfl, b1, b2, b3⟩
        rw [List.length_map, show ts.length = rows.length from Paired.length b2, List.take_length] at b3
        refine ⟨_, rfl, g, _, _, _, _, rfl, ?_⟩
        rw [extN_succ, hrows]
        exact b3
    · rintro σ H' ⟨o, v2, v3, v4, v5, rfl, a⟩
      have en : (n : Int).toNat = n := Int.toNat_natCast n
      rw [en] at a
      exact ⟨_, rfl, q H' o a⟩
abbrev s_way_by_order : Stmt := top 29
theorem sc_way_by_order : FnScope ["row", "order", "laid", "known", "given", "place"] ["row", "order", "laid", "known"] (defScope s_way_by_order) := ⟨rfl, rfl, rfl, by decide +kernel, rfl, by decide +kernel, by decide +kernel⟩
/-- what a row must be, to be gone through in all its orders -/
structure Few (h : House) (row : List Nat) : Prop where
  len : row.length ≤ 5
  m : Lets h.m
  laid : h.laid ≤ full h.m
  ok : ∀ p ∈ row, p ≤ full h.m
def sp_way (K : PySem.W.Frag) : Sp := fun vs H Q _ => ∃ (a t : Addr) (row o : List Nat) (h : House), vs = [.ref a, .ref t, iV h.laid, iV h.known] ∧ SqL K H a (row.map iV) ∧ H t = some (.tup (o.map iV)) ∧ o ∈ ordersOf row ∧ Few h row ∧
  ∀ H' p, Same H H' → H p = none → H' p = some (.tup ((h.byPlace row o).map iV)) → Q (.ref p) H'
theorem getD_some {l : List Nat} {i z d : Nat} (h : l[i]? = some z) : l.getD i d = z := by
  rw [List.getD_eq_getElem?_getD, h]
  rfl
theorem idx_before {o : List Nat} {m i z : Nat} (hm : m < o.idxOf i) (h : o[m]? = some z) : z ≠ i := by
  intro e
  subst e
  obtain ⟨h1, h2⟩ := List.getElem?_eq_some_iff.mp h
  have := List.not_of_lt_findIdx (p := fun y => y == z) (xs := o) hm
  rw [h2] at this
  simp at this
theorem ok_way_by_order (F : TxF K mg "way_by_order" s_way_by_order ["row", "order", "laid", "known"]) (T : Txt K mg C) (c_row_along : Cal P w K mg base k "row_along" ["row", "laid", "known"] (sp_row_along K)) :
    Cal P w K mg base (k + 1) "way_by_order" ["row", "order", "laid", "known"] (sp_way K) := by
  refine F.cal sc_way_by_order (fun vs H Q E h => ?_) (fun f cdv A outer s H vs Q E hr h => ?_)
  · obtain ⟨a, t, row, o, h, rfl, _⟩ := h
    rfl
  · obtain ⟨a, t, row, o, h, rfl, hS, ht, ho, hw, q⟩ := h
    have nd := sc_way_by_order.nd
    refine ⟨_, (pss_cons (ps_set (i := 4) nd rfl (Or.inr rfl) (pe_cal c_row_along hr rfl (pa_cons (pe_lc rfl nd (pi_tup (pv 1)) (blkOk_by (own := [("place", 5)]) (by rfl)) (fun _ _ _ _ _ => (pg_name (i := 5) nd rfl (Or.inl rfl))) (fun _ _ _ _ _ => pts_nil) (fun _ _ _ _ _ => (pe_ixL (K := K) rfl (pv 0) (pv 5) (fun _ _ => rfl)))) (pa_cons (pv 2) (pa_cons (pv 3) pa_nil)))))
      (pss_one (ps_ret (pe_callTy call_tuple_of (by rfl) T.n_tuple rfl (pa_cons (pe_lc rfl nd (pi_range1 rfl T.n_range (pa_cons (pe_callB call_len_seq (by rfl) T.n_len PySem.boot_len (pa_cons (pv 0) pa_nil)) pa_nil)) (blkOk_by (own := [("place", 5)]) (by rfl)) (fun _ _ _ _ _ => (pg_name (i := 5) nd rfl (Or.inl rfl))) (fun _ _ _ _ _ => pts_nil) (fun _ _ _ _ _ => (pe_ixL (K := K) rfl (pv 4) (pe_bmT PySem.F.slot_tuple_index PySem.F.type_tuple_index mt_indexT (pv 1) (pa_cons (pv 5) pa_nil)) (fun _ _ => rfl)))) pa_nil))))), ?_⟩
    have hol : o.length = row.length := orderOf_len ho
    have h5 := hw.len
    refine ⟨_, rfl, t, rfl, ⟨_, SqT.of ht⟩, fun D hD => ?_⟩
    refine lc_tup (K := K) (a := t) (xs := o.map iV) (fun i H' => NewL H H' D (((o.take i).map fun j => row.getD j 0).map iV)) (NewL.mk Same.rfl hD) (fun i H' _ n => SqT.of (n.1 _ _ ht)) ?_ ?_
    · intro i v H' hx n
      obtain ⟨y, hy, rfl⟩ := map_get hx
      have hyl : y < row.length := (orderOf_mem ho y).mp (List.mem_of_getElem? hy)
      obtain ⟨z, hz⟩ : ∃ z, row[y]? = some z := ⟨_, List.getElem?_eq_getElem hyl⟩
      refine ⟨rfl, _, rfl, _, rfl, a, _, _, iV z, rfl, rfl, n.1.seq hS, at_of (j := y) rfl (by rw [List.getElem?_map, hz]; rfl), _, n.2.2, ?_, ?_⟩
      · rw [List.length_map, List.length_map, List.length_take]
        exact small (by omega)
      · have e : (((o.take (i + 1)).map fun j => row.getD j 0).map iV) = ((o.take i).map fun j => row.getD j 0).map iV ++ [iV z] := by
          rw [take_snoc hy, List.map_append, List.map_append, List.map_cons, List.map_nil, getD_some hz]
          rfl
        show NewL H _ D _
        rw [e]
        exact n.put
    · intro H1 n1
      rw [List.length_map, List.take_length] at n1
      have hin : ∀ p ∈ Krb8.inOrder row o, p ≤ full h.m := by
        intro p hp
        obtain ⟨j, hj, rfl⟩ := List.mem_map.mp hp
        have hjl : j < row.length := (orderOf_mem ho j).mp hj
        rw [getD_some (List.getElem?_eq_getElem hjl)]
        exact hw.ok _ (List.getElem_mem hjl)
      refine ⟨_, rfl, _, rfl, D, Krb8.inOrder row o, h.m, h.laid, h.known, rfl, SqL.of n1.2.2, by rw [inOrder_len]; omega, hw.m, hw.laid, hin, fun H2 g n2 => ?_⟩
      have s2 : Same H H2 := n1.1.trans n2.1
      refine ⟨_, rfl, a, _, rfl, .inl (s2.seq hS), (row.length : Int), by rw [List.length_map], by omega, by omega, fun D2 hD2 => ?_⟩
      refine lc_range (lo := 0) (n := (row.length : Int).toNat) (fun i H' => NewL H2 H' D2 (((List.range i).map fun p => h.gets row o p).map iV)) (NewL.mk Same.rfl hD2) ?_ ?_
      · intro i H' hi n
        have hi : i < row.length := by omega
        have e0 : (0 : Int) + (i : Int) = (i : Int) := Int.zero_add _
        rw [e0]
        have hia := idx_at ho hi
        have hil := idx_lt ho hi
        obtain ⟨z, hz⟩ : ∃ z, (h.along (Krb8.inOrder row o))[o.idxOf i]? = some z := ⟨_, List.getElem?_eq_getElem (by unfold House.along; rw [along_len, inOrder_len]; exact hil)⟩
        have hgz : h.gets row o i = z := gets_at ho hia hz
        refine ⟨rfl, _, rfl, _, rfl, ⟨t, _, rfl, n.1 _ _ (s2 _ _ ht)⟩, _, rfl, t, o.map iV, iV i, o.idxOf i, iV i, rfl, rfl, n.1 _ _ (s2 _ _ ht), rfl, flat_iV _, by rw [List.getElem?_map, hia]; rfl, ?_, ?_,
          g, _, _, iV z, rfl, rfl, SqL.of (n.1 _ _ n2.2.2), at_of (j := o.idxOf i) rfl (by rw [List.getElem?_map]; show Option.map iV (h.along (Krb8.inOrder row o))[o.idxOf i]? = _; rw [hz]; rfl), _, n.2.2, ?_, ?_⟩
        · show ((i : Int) == (i : Int)) = true
          exact beq_self_eq_true _
        · intro m z' hm hz'
          obtain ⟨y, hy, rfl⟩ := map_get hz'
          show ((y : Int) == (i : Int)) = false
          rw [cast_beq, beq_eq_false_iff_ne]
          exact idx_before hm hy
        · rw [List.length_map, List.length_map, List.length_range]
          exact small (by omega)
        · have e : (((List.range (i + 1)).map fun p => h.gets row o p).map iV) = ((List.range i).map fun p => h.gets row o p).map iV ++ [iV z] := by
            rw [List.range_succ, List.map_append, List.map_append, List.map_cons, List.map_nil, hgz]
            rfl
          show NewL H2 _ D2 _
          rw [e]
          exact n.put
      · intro H3 n3
        have en : (row.length : Int).toNat = row.length := Int.toNat_natCast _
        rw [en] at n3
        refine ⟨D2, _, rfl, .inl ⟨SqL.of n3.2.2, fun l hl => ?_⟩⟩
        have s3 := s2.trans n3.1
        exact q _ l (s3.trans (Same.new hl)) (s3.free hl) upd_same
abbrev s_first_orders_by_way : Stmt := top 30
theorem sc_first_orders_by_way : FnScope ["row", "laid", "known", "found", "order"] ["row", "laid", "known"] (defScope s_first_orders_by_way) := ⟨rfl, rfl, rfl, by decide +kernel, rfl, by decide +kernel, by decide +kernel⟩
/-- a row as a dict's key -/
def kk (l : List Nat) : List Key := l.map fun (n : Nat) => (Sum.inl (n : Int) : Key)
theorem kk_kV (l : List Nat) : (kk l).map kV = l.map iV := by
  unfold kk
  rw [List.map_map]
  rfl
theorem kk_inj : ∀ {a b : List Nat}, kk a = kk b → a = b
  | [], [], _ => rfl
  | [], _ :: _, h => by simp [kk] at h
  | _ :: _, [], h => by simp [kk] at h
  | x :: a, y :: b, h => by
    have h : (Sum.inl (x : Int) : Key) :: kk a = Sum.inl (y : Int) :: kk b := h
    injection h with h1 h2
    have e : (x : Int) = (y : Int) := Sum.inl.inj h1
    have e : x = y := by omega
    rw [e, kk_inj h2]
def KW (H : Hp) (kvs : List (List Key × V)) (fs : List (List Nat × List Nat)) : Prop := Paired (fun kv f => kv.1 = kk f.1 ∧ ∃ t, kv.2 = .ref t ∧ H t = some (.tup (f.2.map iV))) kvs fs
theorem KW.on {H H' : Hp} {kvs : List (List Key × V)} {fs : List (List Nat × List Nat)} (h : KW H kvs fs) (s : ∀ t xs, H t = some (.tup xs) → H' t = some (.tup xs)) : KW H' kvs fs := by
  unfold KW at h ⊢
  induction h with
  | nil => exact .nil
  | cons a _ ih => exact .cons ⟨a.1, let ⟨t, e, z⟩ := a.2; ⟨t, e, s _ _ z⟩⟩ ih
theorem KW.val {H : Hp} (w : List Nat) : ∀ {kvs : List (List Key × V)} {fs : List (List Nat × List Nat)}, KW H kvs fs → (valV kvs (kk w)).isSome = (fs.map (·.1)).contains w
  | _, _, .nil => rfl
  | kv :: kvs, f :: fs, .cons a r => by
    have ih := KW.val w (kvs := kvs) (fs := fs) r
    rw [List.map_cons, List.contains_cons]
    by_cases e : w = f.1
    · rw [valV_pos (by rw [a.1, e]), e]
      simp
    · rw [valV_neg (fun z => e (kk_inj (a.1.symm.trans z)).symm), ih]
      have : (w == f.1) = false := beq_eq_false_iff_ne.mpr e
      rw [this, Bool.false_or]
/-- the dict at d holds the ways, each with its first order -/
def DictW (H : Hp) (d : Addr) (fs : List (List Nat × List Nat)) : Prop := ∃ kvs, H d = some (.dT kvs) ∧ KW H kvs fs
def sp_first (K : PySem.W.Frag) : Sp := fun vs H Q _ => ∃ (a : Addr) (row : List Nat) (h : House), vs = [.ref a, iV h.laid, iV h.known] ∧ SqL K H a (row.map iV) ∧ Few h row ∧
  ∀ H' d, Same H H' → H d = none → DictW H' d (firsts (h.byPlace row) (ordersOf row)) → Q (.ref d) H'
theorem ok_first_orders (F : TxF K mg "first_orders_by_way" s_first_orders_by_way ["row", "laid", "known"]) (T : Txt K mg C) (c_all_orders : Cal P w K mg base k "all_orders" ["size"] sp_all_orders)
    (c_way_by_order : Cal P w K mg base k "way_by_order" ["row", "order", "laid", "known"] (sp_way K)) : Cal P w K mg base (k + 1) "first_orders_by_way" ["row", "laid", "known"] (sp_first K) := by
  refine F.cal sc_first_orders_by_way (fun vs H Q E h => ?_) (fun f cdv A outer s H vs Q E hr h => ?_)
  · obtain ⟨a, row, h, rfl, _⟩ := h
    rfl
  · obtain ⟨a, row, h, rfl, hS, hw, q⟩ := h
    have nd := sc_first_orders_by_way.nd
    refine ⟨_, (pss_cons (ps_set (i := 3) nd rfl (Or.inl rfl) pe_dnewT)
      (pss_cons (ps_for PassesOwn.never rfl (pi_list (pe_cal c_all_orders hr rfl (pa_cons (pe_callB call_len_seq (by rfl) T.n_len PySem.boot_len (pa_cons (pv 0) pa_nil)) pa_nil))) (pg_name (i := 4) nd rfl (Or.inl rfl)) (pss_one (ps_expr (pe_dsetdef (hu_of hr) (pv 3) (pe_cal c_way_by_order hr rfl (pa_cons (pv 0) (pa_cons (pv 4) (pa_cons (pv 1) (pa_cons (pv 2) pa_nil))))) (pv 4) ⟨rfl, rfl, rfl, rfl⟩))))
      (pss_one (ps_ret (pv 3))))), ?_⟩
    intro d hd
    have s1 : Same H (upd H d (.dT [])) := Same.new hd
    have h5 := hw.len
    refine ⟨_, rfl, a, _, rfl, .inl (s1.seq hS), row.length, by rw [List.length_map]; rfl, h5, fun H1 p n1 => ?_⟩
    rw [← orders_ext] at n1
    obtain ⟨a1, a2, ts, a3, a4⟩ := n1
    have hz : ts.length = (ordersOf row).length := Paired.length a4
    have hob := orders_bound h5
    refine ⟨p, rfl, ⟨_, SqL.of a3⟩, for_list (K := K) (a := p) (xs := ts.map V.ref) (fun j σ H' => ∃ v4 : Option V, σ = [some (.ref a), some (iV h.laid), some (iV h.known), some (.ref d), v4] ∧
      Same H H' ∧ H' p = some (.lst (ts.map V.ref)) ∧ TupRows H' ts (ordersOf row) ∧ DictW H' d (firsts (h.byPlace row) ((ordersOf row).take j)))
      ⟨none, rfl, s1.trans a1, a3, a4, [], a1 _ _ upd_same, .nil⟩ (fun j σ H' _ ⟨_, _, _, z, _⟩ => SqL.of z) ?_ ?_⟩
    · rintro j x σ H2 hx ⟨v4, rfl, b1, b2, b3, kvs, b4, b5⟩
      obtain ⟨t, htj, rfl⟩ := map_get hx
      obtain ⟨o, hoj, hto⟩ := paired_at' b3 htj
      have ho : o ∈ ordersOf row := List.mem_of_getElem? hoj
      have hkl : kvs.length ≤ 15625 := by
        have h1 : kvs.length = _ := Paired.length b5
        have h2 := firsts_le (h.byPlace row) ((ordersOf row).take j)
        rw [List.length_take] at h2
        omega
      refine ⟨_, rfl, d, rfl, .inr ⟨_, .inl b4⟩, _, rfl, _, rfl, _, rfl, _, rfl, a, t, row, o, h, rfl, b1.seq hS, hto, ho, hw, fun H3 u s3 hu3 hu => ?_⟩
      have b5' : KW H3 kvs (firsts (h.byPlace row) ((ordersOf row).take j)) := b5.on fun t xs z => s3 _ _ z
      have hval := b5'.val (h.byPlace row o)
      rw [take_snoc hoj, firsts_snoc]
      refine ⟨_, rfl, kvs, kk (h.byPlace row o), u, s3 _ _ b4, rfl, by rw [kk_kV]; exact hu, small (by omega), fun v hv => ?_, fun hv => ?_⟩
      · rw [hv] at hval
        have c : ((firsts (h.byPlace row) ((ordersOf row).take j)).map (·.1)).contains (h.byPlace row o) = true := hval.symm
        refine ⟨_, rfl, b1.trans s3, s3 _ _ b2, b3.on fun t xs z => s3 _ _ z, kvs, s3 _ _ b4, ?_⟩
        unfold addWay
        rw [if_pos c]
        exact b5'
      · rw [hv] at hval
        have c : ((firsts (h.byPlace row) ((ordersOf row).take j)).map (·.1)).contains (h.byPlace row o) = false := hval.symm
        have kp : ∀ c0 xs, H3 c0 = some (.tup xs) → upd H3 d (.dT (kvs ++ [(kk (h.byPlace row o), V.ref t)])) c0 = some (.tup xs) := fun c0 xs z => by
          rw [upd_ne (ne_of z (s3 _ _ b4) (fun z => nomatch z))]
          exact z
        refine ⟨_, rfl, ?_, ?_, b3.on fun t xs z => kp _ _ (s3 _ _ z), _, upd_same, ?_⟩
        · intro b0 o0 z
          rw [upd_ne (ne_of_none z hd)]
          exact (b1.trans s3) _ _ z
        · rw [upd_ne (ne_of (s3 _ _ b2) (s3 _ _ b4) (fun z => nomatch z))]
          exact s3 _ _ b2
        · unfold addWay
          rw [if_neg (by rw [c]; exact Bool.false_ne_true)]
          exact Paired.snoc (b5'.on kp) ⟨rfl, t, rfl, kp _ _ (s3 _ _ hto)⟩
    · rintro σ H2 ⟨v4, rfl, b1, b2, b3, b4⟩
      rw [List.length_map, hz, List.take_length] at b4
      exact ⟨_, rfl, q H2 d b1 hd b4⟩
abbrev s_answers_as_set : Stmt := top 31
theorem sc_answers_as_set : FnScope ["given", "answer"] ["given"] (defScope s_answers_as_set) := ⟨rfl, rfl, rfl, by decide +kernel, rfl, by decide +kernel, by decide +kernel⟩
def sp_set (K : PySem.W.Frag) : Sp := fun vs H Q _ => ∃ (a : Addr) (l : List Nat), vs = [.ref a] ∧ SqL K H a (l.map iV) ∧ ∀ H', Same H H' → Q (iV (Krb8.bits l)) H'
/-- what is counted of the first i answers -/
def bw (l : List Nat) (i : Nat) : List Nat := ((([0, 1, 2] : List Nat).take i).filter fun a => l.contains a).map fun a => 2 ^ a
theorem bw_step (l : List Nat) {i a : Nat} (h : ([0, 1, 2] : List Nat)[i]? = some a) : bw l (i + 1) = bw l i ++ (if l.contains a = true then [2 ^ a] else []) := by
  unfold bw
  rw [take_snoc h, List.filter_append, List.map_append, List.filter_cons]
  by_cases c : l.contains a = true
  · rw [c]
    rfl
  · rw [eq_false_of_ne_true c]
    rfl
theorem bw_len (l : List Nat) (i : Nat) : (bw l i).length ≤ 3 := by
  unfold bw
  rw [List.length_map]
  have h1 := List.length_filter_le (fun a => l.contains a) (([0, 1, 2] : List Nat).take i)
  rw [List.length_take] at h1
  have : ([0, 1, 2] : List Nat).length = 3 := rfl
  omega
theorem bw_sum (l : List Nat) : ((bw l 3).map fun (n : Nat) => (n : Int)).sum = ((Krb8.bits l : Nat) : Int) := by
  rw [bits_eq]
  have e : bw l 3 = (if l.contains 0 = true then [1] else []) ++ (if l.contains 1 = true then [2] else []) ++ (if l.contains 2 = true then [4] else []) := by
    rw [bw_step l (i := 2) (a := 2) rfl, bw_step l (i := 1) (a := 1) rfl, bw_step l (i := 0) (a := 0) rfl]
    rfl
  rw [e]
  cases l.contains 0 <;> cases l.contains 1 <;> cases l.contains 2 <;> rfl
theorem ok_answers_as_set (F : TxF K mg "answers_as_set" s_answers_as_set ["given"]) (T : Txt K mg C) : Cal P w K mg base (k + 1) "answers_as_set" ["given"] (sp_set K) := by
  refine F.cal sc_answers_as_set (fun vs H Q E h => ?_) (fun f cdv A outer s H vs Q E hr h => ?_)
  · obtain ⟨a, l, rfl, _⟩ := h
    rfl
  · obtain ⟨a, l, rfl, hS, q⟩ := h
    have nd := sc_answers_as_set.nd
    refine ⟨_, (pss_one (ps_ret (pe_callB (cr_sum rfl) (by rfl) T.n_sum rfl (pa_cons (pe_lc rfl nd (pi_tup (pe_tup (pa_cons (pe_cst T.c_DENIED rfl) (pa_cons (pe_cst T.c_CONCEDED rfl) (pa_cons (pe_cst T.c_DOUBTED rfl) pa_nil))))) (blkOk_by (own := [("answer", 1)]) (by rfl)) (fun _ _ _ _ _ => (pg_name (i := 1) nd rfl (Or.inl rfl))) (fun _ _ _ _ _ => (pts_one (pt_cmpR (op_inK (K := K) rfl) (pv 1) (pv 0) (by rfl)))) (fun _ _ _ _ _ => (pe_ixT (K := K) rfl (pe_adrK (K := K) (mg := mg) rfl rfl T.a_COUNTED rfl) (pv 1) (fun _ _ => rfl)))) pa_nil)))), ?_⟩
    refine ⟨(by show 3 ≤ sizeLine; decide), fun t ht => ⟨t, rfl, ⟨_, SqT.of upd_same⟩, fun D hD => ?_⟩⟩
    have s1 : Same H (upd H t (.tup [V.int 0, V.int 1, V.int 2])) := Same.new ht
    refine lc_tup (K := K) (a := t) (xs := ([0, 1, 2] : List Nat).map iV) (fun i H' => NewL (upd H t (.tup [V.int 0, V.int 1, V.int 2])) H' D ((bw l i).map iV)) (NewL.mk Same.rfl hD) (fun i H' _ n => SqT.of (n.1 _ _ upd_same)) ?_ ?_
    · intro i v H' hx n
      obtain ⟨y, hy, rfl⟩ := map_get hx
      have hy2 : y ≤ 2 := by
        have hm := List.mem_of_getElem? hy
        have : ∀ z ∈ ([0, 1, 2] : List Nat), z ≤ 2 := by decide
        exact this y hm
      rw [bw_step l hy]
      refine ⟨rfl, _, rfl, _, rfl, a, _, rfl, .inl ((s1.trans n.1).seq hS), rfl, flat_iV _, _, rfl, ite2 (fun c => ?_) (fun c => ?_)⟩
      · have c : l.contains y = true := by
          have z : inV (iV y) (l.map iV) = true := c
          rw [in_row] at z
          exact z
        rw [if_pos c]
        have e4 : (([1, 2, 4] : List Int).map V.int)[y]? = some (iV (2 ^ y)) := by
          have c3 : y = 0 ∨ y = 1 ∨ y = 2 := by omega
          rcases c3 with rfl | rfl | rfl <;> rfl
        refine fun b hb => ⟨_, rfl, b, _, _, iV (2 ^ y), rfl, rfl, hb _, at_of (j := y) rfl e4, _, n.2.2, ?_, ?_⟩
        · rw [List.length_map]
          have := bw_len l i
          exact small (by omega)
        · rw [List.map_append]
          exact n.put
      · have c : ¬ l.contains y = true := by
          have z : ¬ inV (iV y) (l.map iV) = true := c
          rw [in_row] at z
          exact z
        rw [if_neg c, List.append_nil]
        exact n
    · intro H2 n2
      refine ⟨D, (bw l 3).map fun (n : Nat) => (n : Int), rfl, SqL.of (by rw [List.map_map]; exact n2.2.2), ?_⟩
      rw [bw_sum]
      exact q H2 (s1.trans n2.1)
end
end Ld
set_option Elab.async false
set_option linter.all false
set_option maxRecDepth 100000
set_option maxHeartbeats 4000000
namespace Ld
open PySem PySem.Spec PyProof.Rows L2
open Krb7 (full both not_ within truth right why behind count answers)
open Krb8 (House act ordersOf)
theorem keys_rows {H : Hp} : ∀ {ts : List Addr} {kvs : List (List Key × V)} {fs : List (List Nat × List Nat)}, Paired (fun (t : Addr) (kv : List Key × V) => H t = some (.tup (kv.1.map kV))) ts kvs → KW H kvs fs → TupRows H ts (fs.map (·.1))
  | _, _, _, .nil, .nil => .nil
  | _, _, _, .cons a r, .cons b s => .cons (by rw [b.1, kk_kV] at a; exact a) (keys_rows r s)
theorem find_at {α : Type} {p : α → Bool} : ∀ {l : List α} {i : Nat} {x : α}, (∀ y ∈ l.take i, p y = false) → l[i]? = some x → p x = true → l.find? p = some x
  | [], i, x, _, h, _ => by simp at h
  | a :: l, 0, x, _, h, hp => by
    have e : a = x := Option.some.inj h
    rw [List.find?_cons, e, hp]
  | a :: l, i + 1, x, hb, h, hp => by
    have ha : p a = false := hb a (by rw [List.take_succ_cons]; exact List.mem_cons_self)
    rw [List.find?_cons, ha]
    exact find_at (l := l) (i := i) (fun y hy => hb y (by rw [List.take_succ_cons]; exact List.mem_cons_of_mem _ hy)) h hp
theorem ways_bound {h : House} {l : List Nat} (hl : l.length ≤ 5) : (h.ways l).length ≤ 15625 := by
  rw [← firsts_len]
  exact Nat.le_trans (firsts_le _ _) (orders_bound hl)
theorem order_find {h : House} {l : List Nat} {i a : Nat} (hi : i < l.length) : ((ordersOf l).find? fun o => h.gets l o i == a) = ((firsts (h.byPlace l) (ordersOf l)).find? fun x => x.1.getD i 0 == a).map (·.2) := by
  have e := firsts_find (h.byPlace l) (fun w => w.getD i 0 == a) (ordersOf l)
  rw [e]
  congr 1
  funext o
  rw [byPlace_at hi]
section
variable {P : Program} {w : World} {K : PySem.W.Frag} {mg : Str → Option Value} {base : Heap} {C : Addr} {k : Nat}
abbrev s_partner : Stmt := inClass (top 33) 13
theorem sc_partner : FnScope ["self", "p", "found"] ["self", "p"] (defScope s_partner) := ⟨rfl, rfl, rfl, by decide +kernel, rfl, by decide +kernel, by decide +kernel⟩
theorem ok_partner (F : TxM K C "partner" "Session.partner" s_partner ["self", "p"]) (T : Txt K mg C) (c_partners : Cal P w K mg base k "partners" ["p", "every", "laid", "known"] sp_partners) :
    Mth P w K mg base C (k + 1) "partner" ["self", "p"] (sp_one_p C .partner) := by
  refine F.mth sc_partner (fun vs H Q E h => ?_) (fun f cdv A outer s H vs Q E hr h => ?_)
  · obtain ⟨p, h, x, rfl, _⟩ := h
    rfl
  · obtain ⟨p, h, x, rfl, hs, hx, q⟩ := h
    have nd := sc_partner.nd
    obtain ⟨⟨dx, hp⟩, hm, hk, hla⟩ := hs
    refine ⟨_, (pss_cons (ps_set (i := 2) nd rfl (Or.inl rfl) (pe_cal c_partners hr rfl (pa_cons (pv 1) (pa_cons (pe_fld (pv 0) rfl) (pa_cons (pe_fld (pv 0) rfl) (pa_cons (pe_fld (pv 0) rfl) pa_nil))))))
      (pss_cons (ps_if (pt_cmpR op_eq (pe_callB call_len_seq (by rfl) T.n_len PySem.boot_len (pa_cons (pv 2) pa_nil)) pe_int (nomark _)) (pss_one (ps_ret (pe_lst (pa_cons (pe_cst T.c_CANNOT_BE rfl) pa_nil)))) pss_nil)
      (pss_one (ps_ret (pe_lst (pa_cons (pe_ix ix_list (pv 2) pe_int (fun _ _ => rfl)) pa_nil)))))), ?_⟩
    refine ⟨_, rfl, _, rfl, p, C, dx, _, _, rfl, hp, T.cl, T.n_every, fs_every _ _ _ _, _, rfl, p, C, dx, _, _, rfl, hp, T.cl, T.n_laid, fs_laid _ _ _ _, _, rfl, p, C, dx, _, _, rfl, hp, T.cl, T.n_known, fs_known _ _ _ _, x, h, rfl, hm, fun H1 z n1 => ?_⟩
    have hfind : (h.ps.find? fun y => h.clash x y) = (h.ps.filter fun y => h.clash x y).head? := (List.head?_filter ..).symm
    refine ⟨_, rfl, z, _, rfl, .inl (SqL.of n1.2.2), rfl, _, rfl, ite2 (fun c => ?_) (fun c => ?_)⟩
    · have c := iV_dec (b := 0) c
      rw [List.length_map] at c
      have e : (h.ps.filter fun y => h.clash x y) = [] := List.length_eq_zero_iff.mp c
      rw [e] at hfind
      exact ⟨(by show 1 ≤ sizeLine; decide), fun r hr' => q.same (by rw [act_partner hx, hfind]) ⟨⟨dx, hp⟩, hm, hk, hla⟩ (NewL.mk n1.1 hr') rfl⟩
    · have c := iV_ndec (b := 0) c
      rw [List.length_map] at c
      obtain ⟨y, ys, e⟩ : ∃ y ys, (h.ps.filter fun y => h.clash x y) = y :: ys := by
        cases e : (h.ps.filter fun y => h.clash x y) with
        | nil => rw [e] at c; exact absurd rfl c
        | cons y ys => exact ⟨y, ys, rfl⟩
      rw [e] at hfind
      refine ⟨_, rfl, z, _, _, iV y, rfl, rfl, SqL.of n1.2.2, at_of (j := 0) rfl (by rw [e]; rfl), (by show 1 ≤ sizeLine; decide), fun r hr' => ?_⟩
      exact q.same (by rw [act_partner hx, hfind]) ⟨⟨dx, hp⟩, hm, hk, hla⟩ (NewL.mk n1.1 hr') rfl
abbrev s_caught : Stmt := inClass (top 33) 14
theorem sc_caught : FnScope ["self", "row", "stand"] ["self", "row"] (defScope s_caught) := ⟨rfl, rfl, rfl, by decide +kernel, rfl, by decide +kernel, by decide +kernel⟩
theorem ok_caught (F : TxM K C "caught" "Session.caught" s_caught ["self", "row"]) (T : Txt K mg C) (c_granted_alone : Cal P w K mg base k "granted_alone" ["row", "laid", "known"] (sp_granted K)) (c_how_many : Cal P w K mg base k "how_many" ["worlds"] sp_how_many) :
    Mth P w K mg base C (k + 1) "caught" ["self", "row"] (sp_row_c C .caught) := by
  refine F.mth sc_caught (fun vs H Q E h => ?_) (fun f cdv A outer s H vs Q E hr h => ?_)
  · obtain ⟨p, l, h, row, rfl, _⟩ := h
    rfl
  · obtain ⟨p, l, h, row, rfl, hs, hl, hlen, hrow, q⟩ := h
    have nd := sc_caught.nd
    obtain ⟨⟨dx, hp⟩, hm, hk, hla⟩ := hs
    refine ⟨_, (pss_cons (ps_set (i := 2) nd rfl (Or.inl rfl) (pe_cal c_granted_alone hr rfl (pa_cons (pv 1) (pa_cons (pe_fld (pv 0) rfl) (pa_cons (pe_fld (pv 0) rfl) pa_nil)))))
      (pss_one (ps_ret (pe_lst (pa_cons (pe_cal c_how_many hr rfl (pa_cons (pv 2) pa_nil)) (pa_cons (pv 2) pa_nil)))))), ?_⟩
    have hle : h.held row ≤ full h.m := held_le hla.2 row h.laid hla.2
    have hf := full_le hm
    refine ⟨_, rfl, _, rfl, p, C, dx, _, _, rfl, hp, T.cl, T.n_laid, fs_laid _ _ _ _, _, rfl, p, C, dx, _, _, rfl, hp, T.cl, T.n_known, fs_known _ _ _ _, l, row, h, rfl, SqL.of hl, hm, hla.2, hrow, ?_⟩
    refine ⟨_, rfl, h.held row, by omega, rfl, _, rfl, (by show 2 ≤ sizeLine; decide), fun r hr' => ?_⟩
    refine q.same (act_caught hlen hrow) ⟨⟨dx, hp⟩, hm, hk, hla⟩ (NewL.mk Same.rfl hr') ?_
    rw [count_pc hm hle]
    rfl
abbrev s_counts : Stmt := inClass (top 33) 20
theorem sc_counts : FnScope ["self"] ["self"] (defScope s_counts) := ⟨rfl, rfl, rfl, by decide +kernel, rfl, by decide +kernel, by decide +kernel⟩
theorem ok_counts (F : TxM K C "counts" "Session.counts" s_counts ["self"]) (T : Txt K mg C) (c_counts_alone : Cal P w K mg base k "counts_alone" ["every", "laid", "known"] sp_counts_alone) :
    Mth P w K mg base C (k + 1) "counts" ["self"] (sp_no C .counts) := by
  refine F.mth sc_counts (fun vs H Q E h => ?_) (fun f cdv A outer s H vs Q E hr h => ?_)
  · obtain ⟨p, h, rfl, _⟩ := h
    rfl
  · obtain ⟨p, h, rfl, hs, q⟩ := h
    obtain ⟨⟨dx, hp⟩, hm, hk, hla⟩ := hs
    refine ⟨_, (pss_one (ps_ret (pe_cal c_counts_alone hr rfl (pa_cons (pe_fld (pv 0) rfl) (pa_cons (pe_fld (pv 0) rfl) (pa_cons (pe_fld (pv 0) rfl) pa_nil)))))), ?_⟩
    refine ⟨_, rfl, p, C, dx, _, _, rfl, hp, T.cl, T.n_every, fs_every _ _ _ _, _, rfl, p, C, dx, _, _, rfl, hp, T.cl, T.n_laid, fs_laid _ _ _ _, _, rfl, p, C, dx, _, _, rfl, hp, T.cl, T.n_known, fs_known _ _ _ _, h, rfl, hm, fun H1 z n1 => ?_⟩
    exact q.same act_counts ⟨⟨dx, hp⟩, hm, hk, hla⟩ n1 rfl
abbrev s_bound : Stmt := inClass (top 33) 21
theorem sc_bound : FnScope ["self", "p"] ["self", "p"] (defScope s_bound) := ⟨rfl, rfl, rfl, by decide +kernel, rfl, by decide +kernel, by decide +kernel⟩
theorem ok_bound (F : TxM K C "bound" "Session.bound" s_bound ["self", "p"]) (T : Txt K mg C) (c_bearing : Cal P w K mg base k "bearing" ["p", "stand"] sp_bearing) : Mth P w K mg base C (k + 1) "bound" ["self", "p"] (sp_one_p C .bound) := by
  refine F.mth sc_bound (fun vs H Q E h => ?_) (fun f cdv A outer s H vs Q E hr h => ?_)
  · obtain ⟨p, h, x, rfl, _⟩ := h
    rfl
  · obtain ⟨p, h, x, rfl, hs, hx, q⟩ := h
    obtain ⟨⟨dx, hp⟩, hm, hk, hla⟩ := hs
    refine ⟨_, (pss_cons (ps_if (pt_cmpR op_eq (pe_cal c_bearing hr rfl (pa_cons (pv 1) (pa_cons (pe_fld (pv 0) rfl) pa_nil))) (pe_cst T.c_NO_MATTER rfl) (nomark _)) (pss_one (ps_ret (pe_lst (pa_cons pe_int pa_nil)))) pss_nil)
      (pss_one (ps_ret (pe_lst (pa_cons pe_int pa_nil))))), ?_⟩
    refine ⟨_, rfl, _, rfl, p, C, dx, _, _, rfl, hp, T.cl, T.n_laid, fs_laid _ _ _ _, x, h.laid, rfl, rfl, _, rfl, ite2 (fun c => ?_) (fun c => ?_)⟩
    · have c := iV_dec (b := 0) c
      exact ⟨(by show 1 ≤ sizeLine; decide), fun r hr' => q.same (by rw [act_bound hx, if_pos c]) ⟨⟨dx, hp⟩, hm, hk, hla⟩ (NewL.mk Same.rfl hr') rfl⟩
    · have c := iV_ndec (b := 0) c
      exact ⟨(by show 1 ≤ sizeLine; decide), fun r hr' => q.same (by rw [act_bound hx, if_neg c]) ⟨⟨dx, hp⟩, hm, hk, hla⟩ (NewL.mk Same.rfl hr') rfl⟩
abbrev s_state : Stmt := inClass (top 33) 22
theorem sc_state : FnScope ["self"] ["self"] (defScope s_state) := ⟨rfl, rfl, rfl, by decide +kernel, rfl, by decide +kernel, by decide +kernel⟩
theorem ok_state (F : TxM K C "state" "Session.state" s_state ["self"]) (T : Txt K mg C) : Mth P w K mg base C (k + 1) "state" ["self"] (sp_no C .state) := by
  refine F.mth sc_state (fun vs H Q E h => ?_) (fun f cdv A outer s H vs Q E hr h => ?_)
  · obtain ⟨p, h, rfl, _⟩ := h
    rfl
  · obtain ⟨p, h, rfl, hs, q⟩ := h
    obtain ⟨⟨dx, hp⟩, hm, hk, hla⟩ := hs
    refine ⟨_, (pss_one (ps_ret (pe_lst (pa_cons (pe_fld (pv 0) rfl) (pa_cons (pe_fld (pv 0) rfl) (pa_cons (pe_fld (pv 0) rfl) pa_nil)))))), ?_⟩
    refine ⟨_, rfl, p, C, dx, _, _, rfl, hp, T.cl, T.n_letters, fs_letters _ _ _ _, _, rfl, p, C, dx, _, _, rfl, hp, T.cl, T.n_known, fs_known _ _ _ _, _, rfl, p, C, dx, _, _, rfl, hp, T.cl, T.n_laid, fs_laid _ _ _ _, (by show 3 ≤ sizeLine; decide), fun r hr' => ?_⟩
    exact q.same act_state ⟨⟨dx, hp⟩, hm, hk, hla⟩ (NewL.mk Same.rfl hr') rfl
def sp_row5 (C : Addr) (c : List Nat → Krb8.Call) : Sp := fun vs H Q _ => ∃ (p l : Addr) (h : House) (row : List Nat), vs = [.ref p, .ref l] ∧ Ses C H p (some h) ∧ H l = some (.lst (row.map iV)) ∧ row.length ≤ 5 ∧ (∀ x ∈ row, x ≤ full h.m) ∧ Gives C H Q p (some h) (c row)
abbrev s_ways : Stmt := inClass (top 33) 15
theorem sc_ways : FnScope ["self", "row"] ["self", "row"] (defScope s_ways) := ⟨rfl, rfl, rfl, by decide +kernel, rfl, by decide +kernel, by decide +kernel⟩
theorem ok_ways (F : TxM K C "ways" "Session.ways" s_ways ["self", "row"]) (T : Txt K mg C) (c_first_orders_by_way : Cal P w K mg base k "first_orders_by_way" ["row", "laid", "known"] (sp_first K)) :
    Mth P w K mg base C (k + 1) "ways" ["self", "row"] (sp_row5 C .ways) := by
  refine F.mth sc_ways (fun vs H Q E h => ?_) (fun f cdv A outer s H vs Q E hr h => ?_)
  · obtain ⟨p, l, h, row, rfl, _⟩ := h
    rfl
  · obtain ⟨p, l, h, row, rfl, hs, hl, hlen, hrow, q⟩ := h
    obtain ⟨⟨dx, hp⟩, hm, hk, hla⟩ := hs
    refine ⟨_, (pss_one (ps_ret (pe_lst (pa_cons (pe_callB call_lenT (by rfl) T.n_len PySem.boot_len (pa_cons (pe_cal c_first_orders_by_way hr rfl (pa_cons (pv 1) (pa_cons (pe_fld (pv 0) rfl) (pa_cons (pe_fld (pv 0) rfl) pa_nil)))) pa_nil)) pa_nil)))), ?_⟩
    refine ⟨_, rfl, _, rfl, p, C, dx, _, _, rfl, hp, T.cl, T.n_laid, fs_laid _ _ _ _, _, rfl, p, C, dx, _, _, rfl, hp, T.cl, T.n_known, fs_known _ _ _ _, l, row, h, rfl, SqL.of hl, ⟨hlen, hm, hla.2, hrow⟩, fun H1 d s1 hd dw => ?_⟩
    obtain ⟨kvs, hkv, kw⟩ := dw
    refine ⟨d, kvs, rfl, hkv, (by show 1 ≤ sizeLine; decide), fun r hr' => ?_⟩
    have e : kvs.length = (h.ways row).length := (Paired.length kw).trans (firsts_len h row)
    refine q.same (act_ways hlen hrow) ⟨⟨dx, hp⟩, hm, hk, hla⟩ (NewL.mk s1 hr') ?_
    rw [e]
    rfl
abbrev s_matters : Stmt := inClass (top 33) 19
theorem sc_matters : FnScope ["self", "row"] ["self", "row"] (defScope s_matters) := ⟨rfl, rfl, rfl, by decide +kernel, rfl, by decide +kernel, by decide +kernel⟩
theorem ok_matters (F : TxM K C "matters" "Session.matters" s_matters ["self", "row"]) (T : Txt K mg C) (c_first_orders_by_way : Cal P w K mg base k "first_orders_by_way" ["row", "laid", "known"] (sp_first K)) :
    Mth P w K mg base C (k + 1) "matters" ["self", "row"] (sp_row5 C .matters) := by
  refine F.mth sc_matters (fun vs H Q E h => ?_) (fun f cdv A outer s H vs Q E hr h => ?_)
  · obtain ⟨p, l, h, row, rfl, _⟩ := h
    rfl
  · obtain ⟨p, l, h, row, rfl, hs, hl, hlen, hrow, q⟩ := h
    obtain ⟨⟨dx, hp⟩, hm, hk, hla⟩ := hs
    refine ⟨_, (pss_cons (ps_if (pt_cmpR op_eq (pe_callB call_lenT (by rfl) T.n_len PySem.boot_len (pa_cons (pe_cal c_first_orders_by_way hr rfl (pa_cons (pv 1) (pa_cons (pe_fld (pv 0) rfl) (pa_cons (pe_fld (pv 0) rfl) pa_nil)))) pa_nil)) pe_int (nomark _)) (pss_one (ps_ret (pe_lst (pa_cons pe_int pa_nil)))) pss_nil)
      (pss_one (ps_ret (pe_lst (pa_cons pe_int pa_nil))))), ?_⟩
    refine ⟨_, rfl, _, rfl, p, C, dx, _, _, rfl, hp, T.cl, T.n_laid, fs_laid _ _ _ _, _, rfl, p, C, dx, _, _, rfl, hp, T.cl, T.n_known, fs_known _ _ _ _, l, row, h, rfl, SqL.of hl, ⟨hlen, hm, hla.2, hrow⟩, fun H1 d s1 hd dw => ?_⟩
    obtain ⟨kvs, hkv, kw⟩ := dw
    have e : kvs.length = (h.ways row).length := (Paired.length kw).trans (firsts_len h row)
    have h1 := ways_ne h row
    refine ⟨d, kvs, rfl, hkv, rfl, _, rfl, ite2 (fun c => ?_) (fun c => ?_)⟩
    · have c := iV_dec (b := 1) c
      exact ⟨(by show 1 ≤ sizeLine; decide), fun r hr' => q.same (by rw [act_matters hlen hrow, if_pos (by omega)]) ⟨⟨dx, hp⟩, hm, hk, hla⟩ (NewL.mk s1 hr') rfl⟩
    · have c := iV_ndec (b := 1) c
      exact ⟨(by show 1 ≤ sizeLine; decide), fun r hr' => q.same (by rw [act_matters hlen hrow, if_neg (by omega)]) ⟨⟨dx, hp⟩, hm, hk, hla⟩ (NewL.mk s1 hr') rfl⟩
def sp_k_row (C : Addr) (c : Nat → List Nat → Krb8.Call) : Sp := fun vs H Q _ => ∃ (p l : Addr) (h : House) (x : Nat) (row : List Nat), vs = [.ref p, iV x, .ref l] ∧ Ses C H p (some h) ∧ H l = some (.lst (row.map iV)) ∧ row.length ≤ 5 ∧ (∀ x ∈ row, x ≤ full h.m) ∧ Gives C H Q p (some h) (c x row)
abbrev s_way : Stmt := inClass (top 33) 16
theorem sc_way : FnScope ["self", "which", "row", "found"] ["self", "which", "row"] (defScope s_way) := ⟨rfl, rfl, rfl, by decide +kernel, rfl, by decide +kernel, by decide +kernel⟩
theorem way_len {h : House} {l v : List Nat} {i : Nat} (e : (h.ways l)[i]? = some v) : v.length = l.length := by
  obtain ⟨o, _, rfl⟩ := (ways_mem h l v).mp (List.mem_of_getElem? e)
  exact byPlace_len o
theorem ok_way (F : TxM K C "way" "Session.way" s_way ["self", "which", "row"]) (T : Txt K mg C) (c_first_orders_by_way : Cal P w K mg base k "first_orders_by_way" ["row", "laid", "known"] (sp_first K)) :
    Mth P w K mg base C (k + 1) "way" ["self", "which", "row"] (sp_k_row C .way) := by
  refine F.mth sc_way (fun vs H Q E h => ?_) (fun f cdv A outer s H vs Q E hr h => ?_)
  · obtain ⟨p, l, h, x, row, rfl, _⟩ := h
    rfl
  · obtain ⟨p, l, h, x, row, rfl, hs, hl, hlen, hrow, q⟩ := h
    have nd := sc_way.nd
    obtain ⟨⟨dx, hp⟩, hm, hk, hla⟩ := hs
    refine ⟨_, (pss_cons (ps_set (i := 3) nd rfl (Or.inl rfl) (pe_callTy (call_listT rfl) (by rfl) T.n_list rfl (pa_cons (pe_cal c_first_orders_by_way hr rfl (pa_cons (pv 2) (pa_cons (pe_fld (pv 0) rfl) (pa_cons (pe_fld (pv 0) rfl) pa_nil)))) pa_nil)))
      (pss_cons (ps_if (pt_cmpR op_ge (pv 1) (pe_callB call_len_seq (by rfl) T.n_len PySem.boot_len (pa_cons (pv 3) pa_nil)) (nomark _)) (pss_one (ps_ret (pe_lst (pa_cons (pe_cst T.c_CANNOT_BE rfl) pa_nil)))) pss_nil)
      (pss_one (ps_ret (pe_op op_cat (pe_lst (pa_cons (pe_callB call_len_seq (by rfl) T.n_len PySem.boot_len (pa_cons (pv 2) pa_nil)) pa_nil)) (pe_callTy call_list_of (by rfl) T.n_list rfl (pa_cons (pe_ix ix_list (pv 3) (pv 1) (fun _ _ => rfl)) pa_nil))))))), ?_⟩
    refine ⟨_, rfl, _, rfl, p, C, dx, _, _, rfl, hp, T.cl, T.n_laid, fs_laid _ _ _ _, _, rfl, p, C, dx, _, _, rfl, hp, T.cl, T.n_known, fs_known _ _ _ _, l, row, h, rfl, SqL.of hl, ⟨hlen, hm, hla.2, hrow⟩, fun H1 d s1 hd dw => ?_⟩
    obtain ⟨kvs, hkv, kw⟩ := dw
    refine ⟨d, kvs, rfl, hkv, fun ts hts z hz => ?_⟩
    have tr : TupRows H1 ts (h.ways row) := by rw [← firsts_ways]; exact keys_rows hts kw
    have e : ts.length = (h.ways row).length := Paired.length tr
    have s2 : Same H1 (upd H1 z (.lst (ts.map V.ref))) := Same.new hz
    have s12 := s1.trans s2
    refine ⟨_, rfl, _, rfl, z, _, rfl, .inl (SqL.of upd_same), _, _, rfl, rfl, _, rfl, ite2 (fun c => ?_) (fun c => ?_)⟩
    · have c := of_decide_eq_true c
      rw [List.length_map, e] at c
      have e2 : (h.ways row)[x]? = none := List.getElem?_eq_none (by omega)
      exact ⟨(by show 1 ≤ sizeLine; decide), fun r hr' => q.same (by rw [act_way hlen hrow, e2]) ⟨⟨dx, hp⟩, hm, hk, hla⟩ (NewL.mk s12 hr') rfl⟩
    · have c := of_decide_eq_false (eq_false_of_ne_true c)
      rw [List.length_map, e] at c
      obtain ⟨v, hv⟩ : ∃ v, (h.ways row)[x]? = some v := ⟨_, List.getElem?_eq_getElem (by omega)⟩
      obtain ⟨t, ht1, ht2⟩ := paired_at tr hv
      have hvl := way_len hv
      refine ⟨_, rfl, l, _, rfl, .inl (SqL.of (s12 _ _ hl)), (by show 1 ≤ sizeLine; decide), fun u hu => ?_⟩
      have s3 : Same (upd H1 z (.lst (ts.map V.ref))) (upd (upd H1 z (.lst (ts.map V.ref))) u (.lst [V.int (row.map iV).length])) := Same.new hu
      have s23 := s2.trans s3
      refine ⟨_, rfl, _, rfl, z, _, _, V.ref t, rfl, rfl, SqL.of (s3 _ _ upd_same), at_of (j := x) rfl (by rw [List.getElem?_map, ht1]; rfl), t, _, rfl, .inr (SqT.of (s23 _ _ ht2)), fun y hy => ?_⟩
      have s4 : Same (upd (upd H1 z (.lst (ts.map V.ref))) u (.lst [V.int (row.map iV).length])) (upd (upd (upd H1 z (.lst (ts.map V.ref))) u (.lst [V.int (row.map iV).length])) y (.lst (v.map iV))) := Same.new hy
      refine ⟨u, y, _, _, rfl, rfl, s4 _ _ upd_same, upd_same, ?_, fun r hr' => ?_⟩
      · simp only [List.length_map, List.length_cons, List.length_nil]
        exact Nat.le_of_lt (small (by omega))
      · refine q.same (by rw [act_way hlen hrow, hv]) ⟨⟨dx, hp⟩, hm, hk, hla⟩ (NewL.mk ((s1.trans s23).trans s4) hr') ?_
        rw [told_list, List.length_map, hvl]
        rfl
abbrev s_may : Stmt := inClass (top 33) 17
theorem sc_may : FnScope ["self", "place", "row", "found", "way"] ["self", "place", "row"] (defScope s_may) := ⟨rfl, rfl, rfl, by decide +kernel, rfl, by decide +kernel, by decide +kernel⟩
theorem ok_may (F : TxM K C "may" "Session.may" s_may ["self", "place", "row"]) (T : Txt K mg C) (c_first_orders_by_way : Cal P w K mg base k "first_orders_by_way" ["row", "laid", "known"] (sp_first K)) (c_answers_as_set : Cal P w K mg base k "answers_as_set" ["given"] (sp_set K)) :
    Mth P w K mg base C (k + 1) "may" ["self", "place", "row"] (sp_k_row C .may) := by
  refine F.mth sc_may (fun vs H Q E h => ?_) (fun f cdv A outer s H vs Q E hr h => ?_)
  · obtain ⟨p, l, h, x, row, rfl, _⟩ := h
    rfl
  · obtain ⟨p, l, h, x, row, rfl, hs, hl, hlen, hrow, q⟩ := h
    have nd := sc_may.nd
    obtain ⟨⟨dx, hp⟩, hm, hk, hla⟩ := hs
    refine ⟨_, (pss_cons (ps_if (pt_cmpR op_ge (pv 1) (pe_callB call_len_seq (by rfl) T.n_len PySem.boot_len (pa_cons (pv 2) pa_nil)) (nomark _)) (pss_one (ps_ret (pe_lst (pa_cons (pe_cst T.c_NOT_RIGHT rfl) pa_nil)))) pss_nil)
      (pss_cons (ps_set (i := 3) nd rfl (Or.inl rfl) (pe_callTy (call_listT rfl) (by rfl) T.n_list rfl (pa_cons (pe_cal c_first_orders_by_way hr rfl (pa_cons (pv 2) (pa_cons (pe_fld (pv 0) rfl) (pa_cons (pe_fld (pv 0) rfl) pa_nil)))) pa_nil)))
      (pss_one (ps_ret (pe_lst (pa_cons (pe_cal c_answers_as_set hr rfl (pa_cons (pe_lc rfl nd (pi_list (pv 3)) (blkOk_by (own := [("way", 4)]) (by rfl)) (fun _ _ _ _ _ => (pg_name (i := 4) nd rfl (Or.inl rfl))) (fun _ _ _ _ _ => pts_nil) (fun _ _ _ _ _ => (pe_ixT (K := K) rfl (pv 4) (pv 1) (fun _ _ => rfl)))) pa_nil)) pa_nil)))))), ?_⟩
    refine ⟨_, rfl, _, rfl, l, _, rfl, .inl (SqL.of hl), _, _, rfl, rfl, _, rfl, ite2 (fun c => ?_) (fun c => ?_)⟩
    · have c := of_decide_eq_true c
      rw [List.length_map] at c
      exact ⟨(by show 1 ≤ sizeLine; decide), fun r hr' => q.same (no_may (.inr (by omega))) ⟨⟨dx, hp⟩, hm, hk, hla⟩ (NewL.mk Same.rfl hr') rfl⟩
    have c := of_decide_eq_false (eq_false_of_ne_true c)
    rw [List.length_map] at c
    have hi : x < row.length := by omega
    refine ⟨_, rfl, _, rfl, p, C, dx, _, _, rfl, hp, T.cl, T.n_laid, fs_laid _ _ _ _, _, rfl, p, C, dx, _, _, rfl, hp, T.cl, T.n_known, fs_known _ _ _ _, l, row, h, rfl, SqL.of hl, ⟨hlen, hm, hla.2, hrow⟩, fun H1 d s1 hd dw => ?_⟩
    obtain ⟨kvs, hkv, kw⟩ := dw
    refine ⟨d, kvs, rfl, hkv, fun ts hts z hz => ?_⟩
    have tr : TupRows H1 ts (h.ways row) := by rw [← firsts_ways]; exact keys_rows hts kw
    have e : ts.length = (h.ways row).length := Paired.length tr
    have hwb : (h.ways row).length ≤ 15625 := ways_bound hlen
    have s2 : Same H1 (upd H1 z (.lst (ts.map V.ref))) := Same.new hz
    refine ⟨_, rfl, z, rfl, ⟨_, SqL.of upd_same⟩, fun D hD => ?_⟩
    refine lc_list (K := K) (a := z) (xs := ts.map V.ref) (fun i H' => NewL (upd H1 z (.lst (ts.map V.ref))) H' D ((((h.ways row).take i).map fun v => v.getD x 0).map iV)) (NewL.mk Same.rfl hD) (fun i H' _ n => SqL.of (n.1 _ _ upd_same)) ?_ ?_
    · intro i v H' hx n
      obtain ⟨t, ht, rfl⟩ := map_get hx
      obtain ⟨wv, hw1, hw2⟩ := paired_at' tr ht
      have hwl := way_len hw1
      obtain ⟨y, hy⟩ : ∃ y, wv[x]? = some y := ⟨_, List.getElem?_eq_getElem (by omega)⟩
      refine ⟨rfl, _, rfl, _, rfl, t, _, _, iV y, rfl, rfl, SqT.of (n.1 _ _ (s2 _ _ hw2)), at_of (j := x) rfl (by rw [List.getElem?_map, hy]; rfl), _, n.2.2, ?_, ?_⟩
      · rw [List.length_map, List.length_map, List.length_take]
        exact small (by omega)
      · have e2 : ((((h.ways row).take (i + 1)).map fun v => v.getD x 0).map iV) = (((h.ways row).take i).map fun v => v.getD x 0).map iV ++ [iV y] := by
          rw [take_snoc hw1, List.map_append, List.map_append, List.map_cons, List.map_nil, getD_some hy]
          rfl
        show NewL _ _ D _
        rw [e2]
        exact n.put
    · intro H2 n2
      rw [List.length_map, e, List.take_length] at n2
      refine ⟨D, _, rfl, SqL.of n2.2.2, fun H3 s3 => ⟨(by show 1 ≤ sizeLine; decide), fun r hr' => ?_⟩⟩
      refine q.same (act_may hlen hrow hi) ⟨⟨dx, hp⟩, hm, hk, hla⟩ (NewL.mk (((s1.trans s2).trans n2.1).trans s3) hr') ?_
      rw [bits_ways hi]
      rfl
abbrev s_order : Stmt := inClass (top 33) 18
theorem sc_order : FnScope ["self", "place", "answer", "row", "found", "way", "first_order"] ["self", "place", "answer", "row"] (defScope s_order) := ⟨rfl, rfl, rfl, by decide +kernel, rfl, by decide +kernel, by decide +kernel⟩
def sp_order (C : Addr) : Sp := fun vs H Q _ => ∃ (p l : Addr) (h : House) (x y : Nat) (row : List Nat), vs = [.ref p, iV x, iV y, .ref l] ∧ Ses C H p (some h) ∧ H l = some (.lst (row.map iV)) ∧ row.length ≤ 5 ∧ (∀ x ∈ row, x ≤ full h.m) ∧ Gives C H Q p (some h) (.order x y row)
theorem ok_order (F : TxM K C "order" "Session.order" s_order ["self", "place", "answer", "row"]) (T : Txt K mg C) (c_first_orders_by_way : Cal P w K mg base k "first_orders_by_way" ["row", "laid", "known"] (sp_first K)) :
    Mth P w K mg base C (k + 1) "order" ["self", "place", "answer", "row"] (sp_order C) := by
  refine F.mth sc_order (fun vs H Q E h => ?_) (fun f cdv A outer s H vs Q E hr h => ?_)
  · obtain ⟨p, l, h, x, y, row, rfl, _⟩ := h
    rfl
  · obtain ⟨p, l, h, x, y, row, rfl, hs, hl, hlen, hrow, q⟩ := h
    have nd := sc_order.nd
    obtain ⟨⟨dx, hp⟩, hm, hk, hla⟩ := hs
    refine ⟨_, (pss_cons (ps_if (PW.pt (pw_or (pt_cmpR op_ge (pv 1) (pe_callB call_len_seq (by rfl) T.n_len PySem.boot_len (pa_cons (pv 3) pa_nil)) (nomark _)) (pw_or1 (pt_cmpR op_gt (pv 2) (pe_cst T.c_DOUBTED rfl) (nomark _))))) (pss_one (ps_ret (pe_lst (pa_cons (pe_cst T.c_NOT_RIGHT rfl) pa_nil)))) pss_nil)
      (pss_cons (ps_set (i := 4) nd rfl (Or.inl rfl) (pe_cal c_first_orders_by_way hr rfl (pa_cons (pv 3) (pa_cons (pe_fld (pv 0) rfl) (pa_cons (pe_fld (pv 0) rfl) pa_nil)))))
      (pss_cons (ps_lock (ps_for PassesOwn.never rfl (pi_itemsT (pv 4)) (pg_tup rfl (pgs_cons (pg_name (i := 5) nd rfl (Or.inl rfl)) (pgs_cons (pg_name (i := 6) nd rfl (Or.inl rfl)) pgs_nil))) (pss_one (ps_if (pt_cmpR op_eq (pe_ix ix_tup (pv 5) (pv 1) (fun _ _ => rfl)) (pv 2) (nomark _)) (pss_one (ps_ret (pe_op op_cat (pe_lst (pa_cons (pe_callB call_len_seq (by rfl) T.n_len PySem.boot_len (pa_cons (pv 3) pa_nil)) pa_nil)) (pe_callTy call_list_of (by rfl) T.n_list rfl (pa_cons (pv 6) pa_nil))))) pss_nil))))
      (pss_one (ps_ret (pe_lst (pa_cons (pe_cst T.c_CANNOT_BE rfl) pa_nil))))))), ?_⟩
    refine ⟨_, rfl, _, rfl, l, _, rfl, .inl (SqL.of hl), _, _, rfl, rfl, _, rfl, ite2 (fun c => ?_) (fun c => ?_)⟩
    · have c := of_decide_eq_true c
      rw [List.length_map] at c
      exact ⟨(by show 1 ≤ sizeLine; decide), fun r hr' => q.same (no_order (.inr (.inl (by omega)))) ⟨⟨dx, hp⟩, hm, hk, hla⟩ (NewL.mk Same.rfl hr') rfl⟩
    have c := of_decide_eq_false (eq_false_of_ne_true c)
    rw [List.length_map] at c
    have hi : x < row.length := by omega
    refine ⟨_, rfl, _, _, rfl, rfl, _, rfl, ite2 (fun c => ?_) (fun c => ?_)⟩
    · have c := of_decide_eq_true c
      exact ⟨(by show 1 ≤ sizeLine; decide), fun r hr' => q.same (no_order (.inr (.inr (by omega)))) ⟨⟨dx, hp⟩, hm, hk, hla⟩ (NewL.mk Same.rfl hr') rfl⟩
    have c := of_decide_eq_false (eq_false_of_ne_true c)
    have hy2 : y ≤ 2 := by omega
    refine ⟨_, rfl, _, rfl, p, C, dx, _, _, rfl, hp, T.cl, T.n_laid, fs_laid _ _ _ _, _, rfl, p, C, dx, _, _, rfl, hp, T.cl, T.n_known, fs_known _ _ _ _, l, row, h, rfl, SqL.of hl, ⟨hlen, hm, hla.2, hrow⟩, fun H1 d s1 hd dw => ?_⟩
    obtain ⟨kvs, hkv, kw⟩ := dw
    have hfl : kvs.length = (firsts (h.byPlace row) (ordersOf row)).length := Paired.length kw
    refine ⟨d, _, hkv, trivial, fun od => ?_⟩
    have su : ∀ b o, H b = some o → upd H1 d (.frz od (.dT kvs)) b = some o := fun b o z => by
      rw [upd_ne (ne_of_none z hd)]
      exact s1 _ _ z
    have back : ∀ (H' : Hp), Same (upd H1 d (.frz od (.dT kvs))) H' → Same H (upd H' d (.dT kvs)) := fun H' sx b o z => by
      rw [upd_ne (ne_of_none z hd)]
      exact sx _ _ (su _ _ z)
    refine ⟨_, rfl, d, od, kvs, rfl, upd_same, for_itemsT (fun i σ H' => ∃ v5 v6 : Option V, σ = [some (.ref p), some (iV x), some (iV y), some (.ref l), some (.ref d), v5, v6] ∧
      Same (upd H1 d (.frz od (.dT kvs))) H' ∧ ∀ f ∈ (firsts (h.byPlace row) (ordersOf row)).take i, (f.1.getD x 0 == y) = false) ⟨none, none, rfl, Same.rfl, fun f z => nomatch z⟩ (fun i σ H' _ ⟨_, _, _, z, _⟩ => z _ _ upd_same) ?_ ?_⟩
    · rintro i kx v σ H2 t kq hkx ⟨v5, v6, rfl, b1, b2⟩ ht hkq
      obtain ⟨f, hf, ek, tf, ev, htf⟩ := paired_at' kw hkx
      have ek : kx = kk f.1 := ek
      have ev : v = V.ref tf := ev
      subst ek ev
      rw [kk_kV] at hkq
      have hfm := firsts_mem (List.mem_of_getElem? hf)
      have hol : f.2.length = row.length := orderOf_len hfm.1
      have hf1 : f.1.length = row.length := by rw [hfm.2]; exact byPlace_len _
      obtain ⟨z, hz⟩ : ∃ z, f.1[x]? = some z := ⟨_, List.getElem?_eq_getElem (by omega)⟩
      have hgz : f.1.getD x 0 = z := getD_some hz
      have htf2 : H2 tf = some (.tup (f.2.map iV)) := b1 _ _ (by rw [upd_ne (ne_of htf hkv (fun z => nomatch z))]; exact htf)
      have st : Same H2 (upd H2 t (.tup [V.ref kq, V.ref tf])) := Same.new ht
      refine ⟨t, _, rfl, SqT.of upd_same, rfl, _, _, rfl, _, _, rfl, rfl, ?_⟩
      refine ⟨_, rfl, _, rfl, kq, _, _, iV z, rfl, rfl, SqT.of (st _ _ hkq), at_of (j := x) rfl (by rw [List.getElem?_map, hz]; rfl), _, rfl, rfl, _, rfl, ite2 (fun c => ?_) (fun c => ?_)⟩
      · have c := iV_dec c
        have hsx := b1.trans st
        refine ⟨_, rfl, l, _, rfl, .inl (SqL.of (hsx _ _ (su _ _ hl))), (by show 1 ≤ sizeLine; decide), fun u hu => ?_⟩
        have s3 : Same (upd H2 t (.tup [V.ref kq, V.ref tf])) (upd (upd H2 t (.tup [V.ref kq, V.ref tf])) u (.lst [V.int (row.map iV).length])) := Same.new hu
        refine ⟨_, rfl, tf, _, rfl, .inr (SqT.of (s3 _ _ (st _ _ htf2))), fun g hg => ?_⟩
        have s4 : Same (upd (upd H2 t (.tup [V.ref kq, V.ref tf])) u (.lst [V.int (row.map iV).length])) (upd (upd (upd H2 t (.tup [V.ref kq, V.ref tf])) u (.lst [V.int (row.map iV).length])) g (.lst (f.2.map iV))) := Same.new hg
        refine ⟨u, g, _, _, rfl, rfl, s4 _ _ upd_same, upd_same, ?_, fun r hr' => ?_⟩
        · simp only [List.length_map, List.length_cons, List.length_nil]
          exact Nat.le_of_lt (small (by omega))
        · have s5 := (hsx.trans s3).trans s4
          have hdr := s5 _ _ (upd_same (H := H1) (a := d) (o := .frz od (.dT kvs)))
          have ndr : d ≠ r := ne_of_none hdr hr'
          refine ⟨by rw [upd_ne ndr]; exact hdr, ?_⟩
          have sF := back _ (s5.trans (Same.new (o := .lst ([V.int (row.map iV).length] ++ f.2.map iV)) hr'))
          have efind : ((ordersOf row).find? fun o => h.gets row o x == y) = some f.2 := by
            rw [order_find hi, find_at b2 hf (by rw [hgz, c]; exact beq_self_eq_true _)]
            rfl
          refine q.same (by rw [act_order hlen hrow hi hy2, efind]) ⟨⟨dx, hp⟩, hm, hk, hla⟩ ⟨sF, ?_, by rw [upd_ne (Ne.symm ndr), upd_same]⟩ ?_
          · cases hHr : H r with
            | none => rfl
            | some o =>
              rw [s5 _ _ (su _ _ hHr)] at hr'
              cases hr'
          · rw [told_list, List.length_map, hol]
            rfl
      · have c := iV_ndec c
        refine ⟨_, _, rfl, b1.trans st, fun f' hf' => ?_⟩
        rw [take_snoc hf] at hf'
        rcases List.mem_append.mp hf' with hf' | hf'
        · exact b2 f' hf'
        · rw [List.mem_singleton.mp hf', hgz]
          exact beq_eq_false_iff_ne.mpr c
    · rintro σ H2 ⟨v5, v6, rfl, b1, b2⟩
      refine ⟨b1 _ _ upd_same, (by show 1 ≤ sizeLine; decide), fun r hr' => ?_⟩
      have efind : ((ordersOf row).find? fun o => h.gets row o x == y) = none := by
        rw [order_find hi]
        have e : ((firsts (h.byPlace row) (ordersOf row)).find? fun x_1 => x_1.1.getD x 0 == y) = none := by
          rw [List.find?_eq_none]
          intro f hf
          rw [hfl, List.take_length] at b2
          rw [b2 f hf]
          exact Bool.false_ne_true
        rw [e]
        rfl
      exact q.same (by rw [act_order hlen hrow hi hy2, efind]) ⟨⟨dx, hp⟩, hm, hk, hla⟩ (NewL.mk (back _ b1) hr') rfl
end
end Ld
set_option Elab.async false
set_option linter.all false
set_option maxRecDepth 100000
set_option maxHeartbeats 4000000
namespace Ld
open PySem PySem.Spec PyProof.Rows L2
open Krb7 (full both not_ within truth right why behind count answers)
open Krb8 (House act)
section
variable {h : House}
theorem refused_props {n : Nat} {nums row : List Nat} {c : Krb8.Call} (hc : CallIs n nums row c) (hn : n = 1 ∨ n = 2 ∨ n = 3 ∨ n = 7 ∨ n = 10 ∨ n = 18) (hb : ∃ z ∈ nums, ¬ z ≤ full h.m) : act (some h) c = (some h, Krb8.say (-22)) := by
  cases hc <;> first
    | (exfalso; omega)
    | skip
  case lay p =>
    have hp : ¬ p ≤ full h.m := by simpa using hb
    show (if (!(h.ok p)) = true then _ else _) = _
    rw [if_pos (bad_yes hp)]
  case learn p =>
    have hp : ¬ p ≤ full h.m := by simpa using hb
    show (if (!(h.ok p)) = true then _ else _) = _
    rw [if_pos (bad_yes hp)]
  case alone p =>
    have hp : ¬ p ≤ full h.m := by simpa using hb
    show (some h, if (!(h.ok p)) = true then _ else _) = _
    rw [if_pos (bad_yes hp)]
  case clash p q =>
    have hp : full h.m < p ∨ full h.m < q := by simpa using hb
    show (some h, if ((!(h.ok p)) || (!(h.ok q))) = true then _ else _) = _
    rw [if_pos]
    rw [Bool.or_eq_true]
    rcases hp with hp | hp
    · exact .inl (bad_yes (by omega))
    · exact .inr (bad_yes (by omega))
  case partner p => exact no_partner (by simpa using hb)
  case bound p => exact no_bound (by simpa using hb)
theorem refused_row {n : Nat} {nums row : List Nat} {c : Krb8.Call} (hc : CallIs n nums row c) (hn : n = 4 ∨ n = 5 ∨ n = 6 ∨ n = 11) (hb : 16 < row.length ∨ ∃ z ∈ row, ¬ z ≤ full h.m) : act (some h) c = (some h, Krb8.say (-22)) := by
  cases hc <;> first
    | (exfalso; omega)
    | skip
  case aloneRow =>
    show (some h, if (decide (Krb8.mostRow < row.length) || row.any fun p => !(h.ok p)) = true then _ else _) = _
    rw [if_pos (row_wrong hb)]
  case along =>
    show (some h, if (decide (Krb8.mostRow < row.length) || row.any fun p => !(h.ok p)) = true then _ else _) = _
    rw [if_pos (row_wrong hb)]
  case parts =>
    show (some h, if (decide (Krb8.mostRow < row.length) || row.any fun p => !(h.ok p)) = true then _ else _) = _
    rw [if_pos (row_wrong hb)]
  case caught => exact no_caught hb
theorem refused_few {n : Nat} {nums row : List Nat} {c : Krb8.Call} (hc : CallIs n nums row c) (hn : n = 12 ∨ n = 13 ∨ n = 14 ∨ n = 15 ∨ n = 16) (hb : 5 < row.length ∨ ∃ z ∈ row, ¬ z ≤ full h.m) : act (some h) c = (some h, Krb8.say (-22)) := by
  cases hc <;> first
    | (exfalso; omega)
    | skip
  case ways => exact no_ways hb
  case way => exact no_way hb
  case may => exact no_may (.inl hb)
  case order => exact no_order (.inl hb)
  case matters => exact no_matters hb
theorem act_none {n : Nat} {nums row : List Nat} {c : Krb8.Call} (hc : CallIs n nums row c) (h0 : n ≠ 0) : act none c = (none, Krb8.say (-11)) := by
  cases hc <;> first
    | exact absurd rfl h0
    | rfl
end
theorem all_no {ns : List Nat} {e : Nat} (c : (!(ns.all fun n => decide (n ≤ e))) = true) : ∃ z ∈ ns, ¬ z ≤ e := by
  have c : (ns.all fun n => decide (n ≤ e)) = false := by simpa using c
  obtain ⟨z, h1, h2⟩ := List.all_eq_false.mp c
  exact ⟨z, h1, fun y => h2 (decide_eq_true y)⟩
theorem all_yes {ns : List Nat} {e : Nat} (c : ¬ (!(ns.all fun n => decide (n ≤ e))) = true) : ∀ z ∈ ns, z ≤ e := by
  have c : (ns.all fun n => decide (n ≤ e)) = true := by simpa using c
  exact fun z hz => of_decide_eq_true (List.all_eq_true.mp c z hz)
theorem Gives.on {C : Addr} {H H2 : Hp} {Q : VK} {p : Addr} {a : Krb8.Abs} {c : Krb8.Call} (q : Gives C H Q p a c) (s : Same H H2) : Gives C H2 Q p a c := fun H' r an => q H' r ⟨fun b o z hb => an.keep b o (s b o z) hb, an.ses, s.free an.new, an.lst⟩
section
variable {P : Program} {w : World} {K : PySem.W.Frag} {mg : Str → Option Value} {base : Heap} {C : Addr} {k : Nat}
abbrev s_answer_bare : Stmt := top 59
theorem sc_answer_bare : FnScope ["session", "number"] ["session", "number"] (defScope s_answer_bare) := ⟨rfl, rfl, rfl, by decide +kernel, rfl, by decide +kernel, by decide +kernel⟩
def sp_abare (C : Addr) : Sp := fun vs H Q _ => ∃ (p : Addr) (h : House) (n : Nat) (nums row : List Nat) (c : Krb8.Call), vs = [.ref p, iV n] ∧ CallIs n nums row c ∧ (n = 8 ∨ n = 17 ∨ n = 19) ∧ Ses C H p (some h) ∧ Gives C H Q p (some h) c
theorem ok_answer_bare (F : TxF K mg "answer_bare" s_answer_bare ["session", "number"]) (T : Txt K mg C) (m_clashes : Mth P w K mg base C k "clashes" ["self"] (sp_no C .clashes)) (m_counts : Mth P w K mg base C k "counts" ["self"] (sp_no C .counts))
    (m_state : Mth P w K mg base C k "state" ["self"] (sp_no C .state)) : Cal P w K mg base (k + 1) "answer_bare" ["session", "number"] (sp_abare C) := by
  refine F.cal sc_answer_bare (fun vs H Q E h => ?_) (fun f cdv A outer s H vs Q E hr h => ?_)
  · obtain ⟨p, h, n, nums, row, c, rfl, _⟩ := h
    rfl
  · obtain ⟨p, h, n, nums, row, c, rfl, hc, hn, hs, q⟩ := h
    obtain ⟨dx, hp⟩ := hs.1
    refine ⟨_, (pss_cons (ps_if (pt_cmpR op_eq (pv 1) (pe_cst T.c_CLASHES rfl) (nomark _)) (pss_one (ps_ret (pe_mth0 (pv 0) T.cl m_clashes hr))) pss_nil)
      (pss_cons (ps_if (pt_cmpR op_eq (pv 1) (pe_cst T.c_COUNTS rfl) (nomark _)) (pss_one (ps_ret (pe_mth0 (pv 0) T.cl m_counts hr))) pss_nil)
      (pss_one (ps_ret (pe_mth0 (pv 0) T.cl m_state hr))))), ?_⟩
    refine ⟨_, rfl, rfl, _, rfl, ite2 (fun e => ?_) (fun e => ?_)⟩
    · have e := iV_dec (b := 8) e
      subst e
      cases hc
      exact ⟨_, rfl, p, dx, _, rfl, hp, rfl, p, h, rfl, hs, q⟩
    have e8 := iV_ndec (b := 8) e
    refine ⟨_, rfl, rfl, _, rfl, ite2 (fun e => ?_) (fun e => ?_)⟩
    · have e := iV_dec (b := 17) e
      subst e
      cases hc
      exact ⟨_, rfl, p, dx, _, rfl, hp, rfl, p, h, rfl, hs, q⟩
    have e17 := iV_ndec (b := 17) e
    have e19 : n = 19 := by omega
    subst e19
    cases hc
    exact ⟨_, rfl, p, dx, _, rfl, hp, rfl, p, h, rfl, hs, q⟩
abbrev s_answer_propositions : Stmt := top 60
theorem sc_answer_propositions : FnScope ["session", "number", "props"] ["session", "number", "props"] (defScope s_answer_propositions) := ⟨rfl, rfl, rfl, by decide +kernel, rfl, by decide +kernel, by decide +kernel⟩
def sp_aprops (C : Addr) : Sp := fun vs H Q _ => ∃ (p ln : Addr) (h : House) (n : Nat) (nums row : List Nat) (c : Krb8.Call), vs = [.ref p, iV n, .ref ln] ∧ CallIs n nums row c ∧ (n = 1 ∨ n = 2 ∨ n = 3 ∨ n = 7 ∨ n = 10 ∨ n = 18) ∧ Ses C H p (some h) ∧ H ln = some (.lst (nums.map iV)) ∧ nums.length ≤ 3 ∧ Gives C H Q p (some h) c
theorem ok_answer_propositions (F : TxF K mg "answer_propositions" s_answer_propositions ["session", "number", "props"]) (T : Txt K mg C) (m_are_propositions : Mth P w K mg base C k "are_propositions" ["self", "numbers"] (sp_are C K)) (m_lay : Mth P w K mg base C k "lay" ["self", "p"] (sp_lay C))
    (m_learn : Mth P w K mg base C k "learn" ["self", "worlds"] (sp_one_p C .learn)) (m_alone : Mth P w K mg base C k "alone" ["self", "p"] (sp_one_p C .alone)) (m_clash : Mth P w K mg base C k "clash" ["self", "p", "q"] (sp_two_p C .clash))
    (m_partner : Mth P w K mg base C k "partner" ["self", "p"] (sp_one_p C .partner)) (m_bound : Mth P w K mg base C k "bound" ["self", "p"] (sp_one_p C .bound)) : Cal P w K mg base (k + 1) "answer_propositions" ["session", "number", "props"] (sp_aprops C) := by
  refine F.cal sc_answer_propositions (fun vs H Q E h => ?_) (fun f cdv A outer s H vs Q E hr h => ?_)
  · obtain ⟨p, ln, h, n, nums, row, c, rfl, _⟩ := h
    rfl
  · obtain ⟨p, ln, h, n, nums, row, c, rfl, hc, hn, hs, hln, hnl, q⟩ := h
    obtain ⟨dx, hp⟩ := hs.1
    refine ⟨_, (pss_cons (ps_if (pt_not (pt_val (pe_mth (pv 0) T.cl m_are_propositions hr (pa_cons (pv 2) pa_nil)))) (pss_one (ps_ret (pe_lst (pa_cons (pe_cst T.c_NOT_RIGHT rfl) pa_nil)))) pss_nil)
      (pss_cons (ps_if (pt_cmpR op_eq (pv 1) (pe_cst T.c_LAY rfl) (nomark _)) (pss_one (ps_ret (pe_mth (pv 0) T.cl m_lay hr (pa_cons (pe_ix ix_list (pv 2) pe_int (fun _ _ => rfl)) pa_nil)))) pss_nil)
      (pss_cons (ps_if (pt_cmpR op_eq (pv 1) (pe_cst T.c_LEARN rfl) (nomark _)) (pss_one (ps_ret (pe_mth (pv 0) T.cl m_learn hr (pa_cons (pe_ix ix_list (pv 2) pe_int (fun _ _ => rfl)) pa_nil)))) pss_nil)
      (pss_cons (ps_if (pt_cmpR op_eq (pv 1) (pe_cst T.c_ALONE rfl) (nomark _)) (pss_one (ps_ret (pe_mth (pv 0) T.cl m_alone hr (pa_cons (pe_ix ix_list (pv 2) pe_int (fun _ _ => rfl)) pa_nil)))) pss_nil)
      (pss_cons (ps_if (pt_cmpR op_eq (pv 1) (pe_cst T.c_CLASH rfl) (nomark _)) (pss_one (ps_ret (pe_mth (pv 0) T.cl m_clash hr (pa_cons (pe_ix ix_list (pv 2) pe_int (fun _ _ => rfl)) (pa_cons (pe_ix ix_list (pv 2) pe_int (fun _ _ => rfl)) pa_nil))))) pss_nil)
      (pss_cons (ps_if (pt_cmpR op_eq (pv 1) (pe_cst T.c_PARTNER rfl) (nomark _)) (pss_one (ps_ret (pe_mth (pv 0) T.cl m_partner hr (pa_cons (pe_ix ix_list (pv 2) pe_int (fun _ _ => rfl)) pa_nil)))) pss_nil)
      (pss_one (ps_ret (pe_mth (pv 0) T.cl m_bound hr (pa_cons (pe_ix ix_list (pv 2) pe_int (fun _ _ => rfl)) pa_nil)))))))))), ?_⟩
    refine ⟨_, rfl, p, dx, _, rfl, hp, rfl, _, rfl, p, ln, h.m, full h.m, h.known, h.laid, nums, rfl, hs.1, SqL.of hln, by omega, fun H2 s2 => ⟨_, rfl, ite2 (fun e => ?_) (fun e => ?_)⟩⟩
    · exact ⟨(by show 1 ≤ sizeLine; decide), fun r hr' => q.same (refused_props hc hn (all_no e)) hs (NewL.mk s2 hr') rfl⟩
    have hall := all_yes e
    have q2 := q.on s2
    have hs2 : Ses C H2 p (some h) := hs.on s2
    have hp2 := s2 _ _ hp
    have hln2 := s2 _ _ hln
    refine ⟨_, rfl, rfl, _, rfl, ite2 (fun e => ?_) (fun e => ?_)⟩
    · have e := iV_dec (b := 1) e
      subst e
      cases hc with
      | lay x =>
      have hx : x ≤ full h.m := hall x (by simp)
      refine ⟨_, rfl, p, dx, _, rfl, hp2, rfl, _, rfl, ln, _, _, iV x, rfl, rfl, SqL.of hln2, rfl, p, h.m, full h.m, h.known, h.laid, x, rfl, ⟨dx, hp2⟩, fun z H' r n => ?_, fun z H' r kp sa hr' hl => ?_⟩
      · exact q2.same (by rw [act_lay hx, if_pos z]) hs2 n rfl
      · refine q2 H' r ?_
        rw [act_lay hx, if_neg z]
        exact ⟨kp, ⟨sa, hs.2.1, hs.2.2.1, Nat.pos_of_ne_zero z, hx⟩, hr', hl⟩
    have e1 := iV_ndec (b := 1) e
    refine ⟨_, rfl, rfl, _, rfl, ite2 (fun e => ?_) (fun e => ?_)⟩
    · have e := iV_dec (b := 2) e
      subst e
      cases hc with
      | learn x =>
      exact ⟨_, rfl, p, dx, _, rfl, hp2, rfl, _, rfl, ln, _, _, iV x, rfl, rfl, SqL.of hln2, rfl, p, h, x, rfl, hs2, hall x (by simp), q2⟩
    have e2 := iV_ndec (b := 2) e
    refine ⟨_, rfl, rfl, _, rfl, ite2 (fun e => ?_) (fun e => ?_)⟩
    · have e := iV_dec (b := 3) e
      subst e
      cases hc with
      | alone x =>
      exact ⟨_, rfl, p, dx, _, rfl, hp2, rfl, _, rfl, ln, _, _, iV x, rfl, rfl, SqL.of hln2, rfl, p, h, x, rfl, hs2, hall x (by simp), q2⟩
    have e3 := iV_ndec (b := 3) e
    refine ⟨_, rfl, rfl, _, rfl, ite2 (fun e => ?_) (fun e => ?_)⟩
    · have e := iV_dec (b := 7) e
      subst e
      cases hc with
      | clash x y =>
      exact ⟨_, rfl, p, dx, _, rfl, hp2, rfl, _, rfl, ln, _, _, iV x, rfl, rfl, SqL.of hln2, rfl, _, rfl, ln, _, _, iV y, rfl, rfl, SqL.of hln2, rfl, p, h, x, y, rfl, hs2, hall x (by simp), hall y (by simp), q2⟩
    have e7 := iV_ndec (b := 7) e
    refine ⟨_, rfl, rfl, _, rfl, ite2 (fun e => ?_) (fun e => ?_)⟩
    · have e := iV_dec (b := 10) e
      subst e
      cases hc with
      | partner x =>
      exact ⟨_, rfl, p, dx, _, rfl, hp2, rfl, _, rfl, ln, _, _, iV x, rfl, rfl, SqL.of hln2, rfl, p, h, x, rfl, hs2, hall x (by simp), q2⟩
    have e10 := iV_ndec (b := 10) e
    have e18 : n = 18 := by omega
    subst e18
    cases hc with
    | bound x =>
    exact ⟨_, rfl, p, dx, _, rfl, hp2, rfl, _, rfl, ln, _, _, iV x, rfl, rfl, SqL.of hln2, rfl, p, h, x, rfl, hs2, hall x (by simp), q2⟩
abbrev s_answer_row : Stmt := top 61
theorem sc_answer_row : FnScope ["session", "number", "row"] ["session", "number", "row"] (defScope s_answer_row) := ⟨rfl, rfl, rfl, by decide +kernel, rfl, by decide +kernel, by decide +kernel⟩
def sp_arow (C : Addr) : Sp := fun vs H Q _ => ∃ (p l : Addr) (h : House) (n : Nat) (nums row : List Nat) (c : Krb8.Call), vs = [.ref p, iV n, .ref l] ∧ CallIs n nums row c ∧ (n = 4 ∨ n = 5 ∨ n = 6 ∨ n = 11) ∧ Ses C H p (some h) ∧ H l = some (.lst (row.map iV)) ∧ row.length ≤ 100000 ∧ Gives C H Q p (some h) c
theorem ok_answer_row (F : TxF K mg "answer_row" s_answer_row ["session", "number", "row"]) (T : Txt K mg C) (m_are_propositions : Mth P w K mg base C k "are_propositions" ["self", "numbers"] (sp_are C K)) (m_alonerow : Mth P w K mg base C k "alonerow" ["self", "row"] (sp_row_c C .aloneRow))
    (m_along : Mth P w K mg base C k "along" ["self", "row"] (sp_row_c C .along)) (m_parts : Mth P w K mg base C k "parts" ["self", "row"] (sp_row_c C .parts)) (m_caught : Mth P w K mg base C k "caught" ["self", "row"] (sp_row_c C .caught)) : Cal P w K mg base (k + 1) "answer_row" ["session", "number", "row"] (sp_arow C) := by
  refine F.cal sc_answer_row (fun vs H Q E h => ?_) (fun f cdv A outer s H vs Q E hr h => ?_)
  · obtain ⟨p, l, h, n, nums, row, c, rfl, _⟩ := h
    rfl
  · obtain ⟨p, l, h, n, nums, row, c, rfl, hc, hn, hs, hl, hrl, q⟩ := h
    obtain ⟨dx, hp⟩ := hs.1
    refine ⟨_, (pss_cons (ps_if (PW.pt (pw_or (pt_cmpR op_gt (pe_callB call_len_seq (by rfl) T.n_len PySem.boot_len (pa_cons (pv 2) pa_nil)) (pe_cst T.c_LONGEST_ROW rfl) (nomark _)) (pw_or1 (pt_not (pt_val (pe_mth (pv 0) T.cl m_are_propositions hr (pa_cons (pv 2) pa_nil))))))) (pss_one (ps_ret (pe_lst (pa_cons (pe_cst T.c_NOT_RIGHT rfl) pa_nil)))) pss_nil)
      (pss_cons (ps_if (pt_cmpR op_eq (pv 1) (pe_cst T.c_ALONEROW rfl) (nomark _)) (pss_one (ps_ret (pe_mth (pv 0) T.cl m_alonerow hr (pa_cons (pv 2) pa_nil)))) pss_nil)
      (pss_cons (ps_if (pt_cmpR op_eq (pv 1) (pe_cst T.c_ALONG rfl) (nomark _)) (pss_one (ps_ret (pe_mth (pv 0) T.cl m_along hr (pa_cons (pv 2) pa_nil)))) pss_nil)
      (pss_cons (ps_if (pt_cmpR op_eq (pv 1) (pe_cst T.c_PARTS rfl) (nomark _)) (pss_one (ps_ret (pe_mth (pv 0) T.cl m_parts hr (pa_cons (pv 2) pa_nil)))) pss_nil)
      (pss_one (ps_ret (pe_mth (pv 0) T.cl m_caught hr (pa_cons (pv 2) pa_nil)))))))), ?_⟩
    refine ⟨_, rfl, l, _, rfl, .inl (SqL.of hl), _, _, rfl, rfl, _, rfl, ite2 (fun e => ?_) (fun e => ?_)⟩
    · have e := of_decide_eq_true e
      rw [List.length_map] at e
      exact ⟨(by show 1 ≤ sizeLine; decide), fun r hr' => q.same (refused_row hc hn (.inl (by omega))) hs (NewL.mk Same.rfl hr') rfl⟩
    have hlen : row.length ≤ 16 := by
      have e := of_decide_eq_false (eq_false_of_ne_true e)
      rw [List.length_map] at e
      omega
    refine ⟨_, rfl, p, dx, _, rfl, hp, rfl, _, rfl, p, l, h.m, full h.m, h.known, h.laid, row, rfl, hs.1, SqL.of hl, by omega, fun H2 s2 => ⟨_, rfl, ite2 (fun e => ?_) (fun e => ?_)⟩⟩
    · exact ⟨(by show 1 ≤ sizeLine; decide), fun r hr' => q.same (refused_row hc hn (.inr (all_no e))) hs (NewL.mk s2 hr') rfl⟩
    have hrow := all_yes e
    have q2 := q.on s2
    have hs2 : Ses C H2 p (some h) := hs.on s2
    have hp2 := s2 _ _ hp
    have hl2 := s2 _ _ hl
    refine ⟨_, rfl, rfl, _, rfl, ite2 (fun e => ?_) (fun e => ?_)⟩
    · have e := iV_dec (b := 4) e
      subst e
      cases hc
      exact ⟨_, rfl, p, dx, _, rfl, hp2, rfl, _, rfl, p, l, h, row, rfl, hs2, hl2, hlen, hrow, q2⟩
    have e4 := iV_ndec (b := 4) e
    refine ⟨_, rfl, rfl, _, rfl, ite2 (fun e => ?_) (fun e => ?_)⟩
    · have e := iV_dec (b := 5) e
      subst e
      cases hc
      exact ⟨_, rfl, p, dx, _, rfl, hp2, rfl, _, rfl, p, l, h, row, rfl, hs2, hl2, hlen, hrow, q2⟩
    have e5 := iV_ndec (b := 5) e
    refine ⟨_, rfl, rfl, _, rfl, ite2 (fun e => ?_) (fun e => ?_)⟩
    · have e := iV_dec (b := 6) e
      subst e
      cases hc
      exact ⟨_, rfl, p, dx, _, rfl, hp2, rfl, _, rfl, p, l, h, row, rfl, hs2, hl2, hlen, hrow, q2⟩
    have e6 := iV_ndec (b := 6) e
    have e11 : n = 11 := by omega
    subst e11
    cases hc
    exact ⟨_, rfl, p, dx, _, rfl, hp2, rfl, _, rfl, p, l, h, row, rfl, hs2, hl2, hlen, hrow, q2⟩
abbrev s_answer_in_all_orders : Stmt := top 62
theorem sc_answer_in_all_orders : FnScope ["session", "number", "numbers", "row"] ["session", "number", "numbers", "row"] (defScope s_answer_in_all_orders) := ⟨rfl, rfl, rfl, by decide +kernel, rfl, by decide +kernel, by decide +kernel⟩
def sp_afew (C : Addr) : Sp := fun vs H Q _ => ∃ (p ln l : Addr) (h : House) (n : Nat) (nums row : List Nat) (c : Krb8.Call), vs = [.ref p, iV n, .ref ln, .ref l] ∧ CallIs n nums row c ∧ (n = 12 ∨ n = 13 ∨ n = 14 ∨ n = 15 ∨ n = 16) ∧ Ses C H p (some h) ∧ H ln = some (.lst (nums.map iV)) ∧ H l = some (.lst (row.map iV)) ∧ row.length ≤ 100000 ∧ Gives C H Q p (some h) c
theorem ok_answer_in_all_orders (F : TxF K mg "answer_in_all_orders" s_answer_in_all_orders ["session", "number", "numbers", "row"]) (T : Txt K mg C) (m_are_propositions : Mth P w K mg base C k "are_propositions" ["self", "numbers"] (sp_are C K))
    (m_ways : Mth P w K mg base C k "ways" ["self", "row"] (sp_row5 C .ways)) (m_way : Mth P w K mg base C k "way" ["self", "which", "row"] (sp_k_row C .way)) (m_may : Mth P w K mg base C k "may" ["self", "place", "row"] (sp_k_row C .may))
    (m_order : Mth P w K mg base C k "order" ["self", "place", "answer", "row"] (sp_order C)) (m_matters : Mth P w K mg base C k "matters" ["self", "row"] (sp_row5 C .matters)) : Cal P w K mg base (k + 1) "answer_in_all_orders" ["session", "number", "numbers", "row"] (sp_afew C) := by
  refine F.cal sc_answer_in_all_orders (fun vs H Q E h => ?_) (fun f cdv A outer s H vs Q E hr h => ?_)
  · obtain ⟨p, ln, l, h, n, nums, row, c, rfl, _⟩ := h
    rfl
  · obtain ⟨p, ln, l, h, n, nums, row, c, rfl, hc, hn, hs, hln, hl, hrl, q⟩ := h
    obtain ⟨dx, hp⟩ := hs.1
    refine ⟨_, (pss_cons (ps_if (PW.pt (pw_or (pt_cmpR op_gt (pe_callB call_len_seq (by rfl) T.n_len PySem.boot_len (pa_cons (pv 3) pa_nil)) (pe_cst T.c_LONGEST_ROW_IN_ALL_ORDERS rfl) (nomark _)) (pw_or1 (pt_not (pt_val (pe_mth (pv 0) T.cl m_are_propositions hr (pa_cons (pv 3) pa_nil))))))) (pss_one (ps_ret (pe_lst (pa_cons (pe_cst T.c_NOT_RIGHT rfl) pa_nil)))) pss_nil)
      (pss_cons (ps_if (pt_cmpR op_eq (pv 1) (pe_cst T.c_WAYS rfl) (nomark _)) (pss_one (ps_ret (pe_mth (pv 0) T.cl m_ways hr (pa_cons (pv 3) pa_nil)))) pss_nil)
      (pss_cons (ps_if (pt_cmpR op_eq (pv 1) (pe_cst T.c_WAY rfl) (nomark _)) (pss_one (ps_ret (pe_mth (pv 0) T.cl m_way hr (pa_cons (pe_ix ix_list (pv 2) pe_int (fun _ _ => rfl)) (pa_cons (pv 3) pa_nil))))) pss_nil)
      (pss_cons (ps_if (pt_cmpR op_eq (pv 1) (pe_cst T.c_MAY rfl) (nomark _)) (pss_one (ps_ret (pe_mth (pv 0) T.cl m_may hr (pa_cons (pe_ix ix_list (pv 2) pe_int (fun _ _ => rfl)) (pa_cons (pv 3) pa_nil))))) pss_nil)
      (pss_cons (ps_if (pt_cmpR op_eq (pv 1) (pe_cst T.c_ORDER rfl) (nomark _)) (pss_one (ps_ret (pe_mth (pv 0) T.cl m_order hr (pa_cons (pe_ix ix_list (pv 2) pe_int (fun _ _ => rfl)) (pa_cons (pe_ix ix_list (pv 2) pe_int (fun _ _ => rfl)) (pa_cons (pv 3) pa_nil)))))) pss_nil)
      (pss_one (ps_ret (pe_mth (pv 0) T.cl m_matters hr (pa_cons (pv 3) pa_nil))))))))), ?_⟩
    refine ⟨_, rfl, l, _, rfl, .inl (SqL.of hl), _, _, rfl, rfl, _, rfl, ite2 (fun e => ?_) (fun e => ?_)⟩
    · have e := of_decide_eq_true e
      rw [List.length_map] at e
      exact ⟨(by show 1 ≤ sizeLine; decide), fun r hr' => q.same (refused_few hc hn (.inl (by omega))) hs (NewL.mk Same.rfl hr') rfl⟩
    have hlen : row.length ≤ 5 := by
      have e := of_decide_eq_false (eq_false_of_ne_true e)
      rw [List.length_map] at e
      omega
    refine ⟨_, rfl, p, dx, _, rfl, hp, rfl, _, rfl, p, l, h.m, full h.m, h.known, h.laid, row, rfl, hs.1, SqL.of hl, by omega, fun H2 s2 => ⟨_, rfl, ite2 (fun e => ?_) (fun e => ?_)⟩⟩
    · exact ⟨(by show 1 ≤ sizeLine; decide), fun r hr' => q.same (refused_few hc hn (.inr (all_no e))) hs (NewL.mk s2 hr') rfl⟩
    have hrow := all_yes e
    have q2 := q.on s2
    have hs2 : Ses C H2 p (some h) := hs.on s2
    have hp2 := s2 _ _ hp
    have hl2 := s2 _ _ hl
    have hln2 := s2 _ _ hln
    refine ⟨_, rfl, rfl, _, rfl, ite2 (fun e => ?_) (fun e => ?_)⟩
    · have e := iV_dec (b := 12) e
      subst e
      cases hc
      exact ⟨_, rfl, p, dx, _, rfl, hp2, rfl, _, rfl, p, l, h, row, rfl, hs2, hl2, hlen, hrow, q2⟩
    have e12 := iV_ndec (b := 12) e
    refine ⟨_, rfl, rfl, _, rfl, ite2 (fun e => ?_) (fun e => ?_)⟩
    · have e := iV_dec (b := 13) e
      subst e
      cases hc with
      | way x =>
      exact ⟨_, rfl, p, dx, _, rfl, hp2, rfl, _, rfl, ln, _, _, iV x, rfl, rfl, SqL.of hln2, rfl, _, rfl, p, l, h, x, row, rfl, hs2, hl2, hlen, hrow, q2⟩
    have e13 := iV_ndec (b := 13) e
    refine ⟨_, rfl, rfl, _, rfl, ite2 (fun e => ?_) (fun e => ?_)⟩
    · have e := iV_dec (b := 14) e
      subst e
      cases hc with
      | may x =>
      exact ⟨_, rfl, p, dx, _, rfl, hp2, rfl, _, rfl, ln, _, _, iV x, rfl, rfl, SqL.of hln2, rfl, _, rfl, p, l, h, x, row, rfl, hs2, hl2, hlen, hrow, q2⟩
    have e14 := iV_ndec (b := 14) e
    refine ⟨_, rfl, rfl, _, rfl, ite2 (fun e => ?_) (fun e => ?_)⟩
    · have e := iV_dec (b := 15) e
      subst e
      cases hc with
      | order x y =>
      exact ⟨_, rfl, p, dx, _, rfl, hp2, rfl, _, rfl, ln, _, _, iV x, rfl, rfl, SqL.of hln2, rfl, _, rfl, ln, _, _, iV y, rfl, rfl, SqL.of hln2, rfl, _, rfl, p, l, h, x, y, row, rfl, hs2, hl2, hlen, hrow, q2⟩
    have e15 := iV_ndec (b := 15) e
    have e16 : n = 16 := by omega
    subst e16
    cases hc
    exact ⟨_, rfl, p, dx, _, rfl, hp2, rfl, _, rfl, p, l, h, row, rfl, hs2, hl2, hlen, hrow, q2⟩
abbrev s_answer_call : Stmt := top 58
theorem sc_answer_call : FnScope ["session", "number", "numbers", "row"] ["session", "number", "numbers", "row"] (defScope s_answer_call) := ⟨rfl, rfl, rfl, by decide +kernel, rfl, by decide +kernel, by decide +kernel⟩
def sp_call (C : Addr) : Sp := fun vs H Q _ => ∃ (p ln lr : Addr) (a : Krb8.Abs) (n : Nat) (nums row : List Nat) (c : Krb8.Call), vs = [.ref p, iV n, .ref ln, .ref lr] ∧ CallIs n nums row c ∧ Ses C H p a ∧ H ln = some (.lst (nums.map iV)) ∧ H lr = some (.lst (row.map iV)) ∧
  nums.length ≤ 3 ∧ row.length ≤ 100000 ∧ Gives C H Q p a c
theorem ok_answer_call (F : TxF K mg "answer_call" s_answer_call ["session", "number", "numbers", "row"]) (T : Txt K mg C) (m_begin : Mth P w K mg base C k "begin" ["self", "letters", "known", "laid"] (sp_begin C))
    (m_has_begun : Mth P w K mg base C k "has_begun" ["self"] (sp_has_begun C)) (m_nth : Mth P w K mg base C k "nth" ["self", "which"] (sp_any_k C .nth))
    (c_answer_in_all_orders : Cal P w K mg base k "answer_in_all_orders" ["session", "number", "numbers", "row"] (sp_afew C)) (c_answer_row : Cal P w K mg base k "answer_row" ["session", "number", "row"] (sp_arow C))
    (c_answer_propositions : Cal P w K mg base k "answer_propositions" ["session", "number", "props"] (sp_aprops C)) (c_answer_bare : Cal P w K mg base k "answer_bare" ["session", "number"] (sp_abare C)) :
    Cal P w K mg base (k + 1) "answer_call" ["session", "number", "numbers", "row"] (sp_call C) := by
  refine F.cal sc_answer_call (fun vs H Q E h => ?_) (fun f cdv A outer s H vs Q E hr h => ?_)
  · obtain ⟨p, ln, lr, a, n, nums, row, c, rfl, _⟩ := h
    rfl
  · obtain ⟨p, ln, lr, a, n, nums, row, c, rfl, hc, hs, hln, hlr, hnl, hrl, q⟩ := h
    obtain ⟨m0, e0, k0, l0, dx, hp⟩ := ses_at hs
    refine ⟨_, (pss_cons (ps_if (pt_cmpR op_eq (pv 1) (pe_cst T.c_BEGIN rfl) (nomark _)) (pss_one (ps_ret (pe_mth (pv 0) T.cl m_begin hr (pa_cons (pe_ix ix_list (pv 2) pe_int (fun _ _ => rfl)) (pa_cons (pe_ix ix_list (pv 2) pe_int (fun _ _ => rfl)) (pa_cons (pe_ix ix_list (pv 2) pe_int (fun _ _ => rfl)) pa_nil)))))) pss_nil)
      (pss_cons (ps_if (pt_not (pt_val (pe_mth0 (pv 0) T.cl m_has_begun hr))) (pss_one (ps_ret (pe_lst (pa_cons (pe_cst T.c_NOT_BEGUN rfl) pa_nil)))) pss_nil)
      (pss_cons (ps_if (pt_cmpR op_in_seq (pv 1) (pe_adr T.a_IN_ALL_ORDERS rfl) (by rfl)) (pss_one (ps_ret (pe_cal c_answer_in_all_orders hr rfl (pa_cons (pv 0) (pa_cons (pv 1) (pa_cons (pv 2) (pa_cons (pv 3) pa_nil))))))) pss_nil)
      (pss_cons (ps_if (pt_cmpR op_in_seq (pv 1) (pe_adr T.a_WITH_ROW rfl) (by rfl)) (pss_one (ps_ret (pe_cal c_answer_row hr rfl (pa_cons (pv 0) (pa_cons (pv 1) (pa_cons (pv 3) pa_nil)))))) pss_nil)
      (pss_cons (ps_if (pt_cmpR op_in_seq (pv 1) (pe_adr T.a_OF_PROPOSITIONS rfl) (by rfl)) (pss_one (ps_ret (pe_cal c_answer_propositions hr rfl (pa_cons (pv 0) (pa_cons (pv 1) (pa_cons (pv 2) pa_nil)))))) pss_nil)
      (pss_cons (ps_if (pt_cmpR op_eq (pv 1) (pe_cst T.c_NTH rfl) (nomark _)) (pss_one (ps_ret (pe_mth (pv 0) T.cl m_nth hr (pa_cons (pe_ix ix_list (pv 2) pe_int (fun _ _ => rfl)) pa_nil)))) pss_nil)
      (pss_one (ps_ret (pe_cal c_answer_bare hr rfl (pa_cons (pv 0) (pa_cons (pv 1) pa_nil))))))))))), ?_⟩
    -- number == BEGIN
    refine ⟨_, rfl, rfl, _, rfl, ite2 (fun e => ?_) (fun e => ?_)⟩
    · have e := iV_dec (b := 0) e
      subst e
      cases hc with
      | begin_ m kn x =>
      exact ⟨_, rfl, p, dx, _, rfl, hp, rfl, _, rfl, ln, _, _, iV m, rfl, rfl, SqL.of hln, rfl, _, rfl, ln, _, _, iV kn, rfl, rfl, SqL.of hln, rfl, _, rfl, ln, _, _, iV x, rfl, rfl, SqL.of hln, rfl, p, a, m, kn, x, rfl, hs, q⟩
    have n0 := iV_ndec (b := 0) e
    -- not begun
    refine ⟨_, rfl, p, dx, _, rfl, hp, rfl, p, a, rfl, hs, _, rfl, ite2 (fun e => ?_) (fun e => ?_)⟩
    · cases a with
      | some h => cases e
      | none => exact ⟨(by show 1 ≤ sizeLine; decide), fun r hr' => q.same (act_none hc n0) hs (NewL.mk Same.rfl hr') rfl⟩
    cases a with
    | none => exact absurd rfl e
    | some h =>
    -- in all orders
    refine ⟨_, rfl, fun b hb => ⟨b, _, rfl, .inr (hb _), rfl, rfl, _, rfl, ite2 (fun ew => ?_) (fun ew => ?_)⟩⟩
    · have hn2 : n = 12 ∨ n = 13 ∨ n = 14 ∨ n = 15 ∨ n = 16 := by
        cases hc <;> first
          | omega
          | (cases ew)
      exact ⟨_, rfl, _, rfl, _, rfl, _, rfl, p, ln, lr, h, n, nums, row, c, rfl, hc, hn2, hs, hln, hlr, hrl, q⟩
    -- a row
    refine ⟨_, rfl, fun b hb => ⟨b, _, rfl, .inr (hb _), rfl, rfl, _, rfl, ite2 (fun ew2 => ?_) (fun ew2 => ?_)⟩⟩
    · have hn2 : n = 4 ∨ n = 5 ∨ n = 6 ∨ n = 11 := by
        cases hc <;> first
          | omega
          | (exact absurd rfl ew)
          | (cases ew2)
      exact ⟨_, rfl, _, rfl, _, rfl, p, lr, h, n, nums, row, c, rfl, hc, hn2, hs, hlr, hrl, q⟩
    -- propositions
    refine ⟨_, rfl, fun b hb => ⟨b, _, rfl, .inr (hb _), rfl, rfl, _, rfl, ite2 (fun ew3 => ?_) (fun ew3 => ?_)⟩⟩
    · have hn2 : n = 1 ∨ n = 2 ∨ n = 3 ∨ n = 7 ∨ n = 10 ∨ n = 18 := by
        cases hc <;> first
          | omega
          | (cases ew3)
      exact ⟨_, rfl, _, rfl, _, rfl, p, ln, h, n, nums, row, c, rfl, hc, hn2, hs, hln, hnl, q⟩
    -- nth
    refine ⟨_, rfl, rfl, _, rfl, ite2 (fun e => ?_) (fun e => ?_)⟩
    · have e := iV_dec (b := 9) e
      subst e
      cases hc with
      | nth x =>
      exact ⟨_, rfl, p, dx, _, rfl, hp, rfl, _, rfl, ln, _, _, iV x, rfl, rfl, SqL.of hln, rfl, p, h, x, rfl, hs, q⟩
    have n9 := iV_ndec (b := 9) e
    have hn2 : n = 8 ∨ n = 17 ∨ n = 19 := by
      cases hc <;> first
        | omega
        | (exact absurd rfl ew)
        | (exact absurd rfl ew2)
        | (exact absurd rfl ew3)
    exact ⟨_, rfl, _, rfl, p, h, n, nums, row, c, rfl, hc, hn2, hs, q⟩
end
end Ld
set_option Elab.async false
set_option linter.all false
set_option maxRecDepth 100000
set_option maxHeartbeats 4000000
namespace Ld
open PySem PySem.Spec PyProof.Rows L2
open Krb7 (full both not_ within truth right why behind count answers)
open Krb8 (House act)
open PyKrb8 (shape whole)
theorem ahead_le (n : Nat) : ahead n ≤ 3 := by
  unfold ahead
  split <;> omega
theorem zs_iV (l : List Nat) : (zs l).map V.int = l.map iV := by
  unfold zs
  rw [List.map_map]
  rfl
theorem get_drop {α : Type} {l : List α} {i : Nat} {x : α} {r : List α} (h : l.drop i = x :: r) : l[i]? = some x ∧ l.drop (i + 1) = r ∧ i < l.length := by
  have h1 : i < l.length := by
    have := congrArg List.length h
    rw [List.length_drop, List.length_cons] at this
    omega
  rw [List.drop_eq_getElem_cons h1] at h
  injection h with h2 h3
  exact ⟨by rw [List.getElem?_eq_getElem h1, h2], h3, h1⟩
theorem big {n : Nat} (h : n ≤ 10000001) : n < sizeLine := by
  have e : sizeLine = 16777216 := rfl
  omega
/-- where the parts of a call lie in the whole list -/
theorem drop_app {α : Type} {xs a b : List α} {i : Nat} (h : xs.drop i = a ++ b) : (xs.drop i).take a.length = a ∧ xs.drop (i + a.length) = b := by
  rw [h]
  refine ⟨List.take_left, ?_⟩
  rw [← List.drop_drop, h]
  exact List.drop_left
section
variable {P : Program} {w : World} {K : PySem.W.Frag} {mg : Str → Option Value} {base : Heap} {C : Addr} {k : Nat}
abbrev s_answers : Stmt := top 57
theorem sc_answers : FnScope ["calls", "session", "told", "place", "number", "behind", "numbers", "row", "answered"] ["calls"] (defScope s_answers) := ⟨rfl, rfl, rfl, by decide +kernel, rfl, by decide +kernel, by decide +kernel⟩
theorem look_ahead {n : Nat} (h : n < 20) : ([(0, 3), (1, 1), (2, 1), (3, 1), (4, 0), (5, 0), (6, 0), (7, 2), (8, 0), (9, 1), (10, 1), (11, 0), (12, 0), (13, 1), (14, 1), (15, 2), (16, 0), (17, 0), (18, 1), (19, 0)] : List (Int × Int)).lookup (n : Int) = some (ahead n : Int) := by
  rcases lt20 h with h | h | h | h | h | h | h | h | h | h | h | h | h | h | h | h | h | h | h | h <;> subst h <;> rfl
theorem in_rows {n : Nat} (h : n < 20) : inV (iV n) (([4, 5, 6, 11, 12, 13, 14, 15, 16] : List Int).map V.int) = hasRow n := by
  rcases lt20 h with h | h | h | h | h | h | h | h | h | h | h | h | h | h | h | h | h | h | h | h <;> subst h <;> rfl
def sp_answers (K : PySem.W.Frag) : Sp := fun vs H Q _ => ∃ (a : Addr) (xs : List Nat) (f : Nat) (cs : List (List (List Int))), vs = [.ref a] ∧ SqL K H a (xs.map iV) ∧ xs.length ≤ 12000 ∧ PyFlat.calls shape f (zs xs) = some cs ∧ (due none cs).length ≤ 10000000 ∧
  ∀ H' p, H' p = some (.lst ((due none cs).map V.int)) → Q (.ref p) H'
theorem len_answers : ∀ vs H Q E, sp_answers K vs H Q E → vs.length = (["calls"] : List Str).length := by
  intro vs H Q E h
  obtain ⟨a, xs, f, cs, rfl, _⟩ := h
  rfl
theorem body_answers (T : Txt K mg C) (m_Session : Mkr P w K mg base C k "Session" ["self"] (sp_init C)) (c_answer_call : Cal P w K mg base (k + 1) "answer_call" ["session", "number", "numbers", "row"] (sp_call C)) :
    Body P w K mg base (k + 1) ["calls", "session", "told", "place", "number", "behind", "numbers", "row", "answered"] "answers" s_answers (sp_answers K) := by
  refine (fun f cdv A outer s H vs Q E hr h => ?_)
  · obtain ⟨a, xs, f0, cs, rfl, hS, hlen, hcalls, hdue, q⟩ := h
    have nd := sc_answers.nd
    refine ⟨_, (pss_cons (ps_set (i := 1) nd rfl (Or.inl rfl) (pe_mk0 m_Session hr rfl))
      (pss_cons (ps_set (i := 2) nd rfl (Or.inl rfl) (pe_lst pa_nil))
      (pss_cons (ps_set (i := 3) nd rfl (Or.inl rfl) pe_int)
      (pss_cons (ps_while PassesOwn.never (pt_cmpR op_lt (pv 3) (pe_callB call_len_seq (by rfl) T.n_len PySem.boot_len (pa_cons (pv 0) pa_nil)) (nomark _)) (pss_cons (ps_set (i := 4) nd rfl (Or.inl rfl) (pe_ix ix_list (pv 0) (pv 3) (fun _ _ => rfl)))
      (pss_cons (ps_set (i := 5) nd rfl (Or.inl rfl) (pe_op op_add (pe_op op_add (pv 3) pe_int) (pe_kget T.d_NUMBERS_AHEAD rfl (pv 4) (fun _ _ => rfl))))
      (pss_cons (ps_set (i := 6) nd rfl (Or.inl rfl) (pe_slice sl_list (pv 0) (po_some (pe_op op_add (pv 3) pe_int)) (po_some (pv 5))))
      (pss_cons (ps_set (i := 7) nd rfl (Or.inl rfl) (pe_lst pa_nil))
      (pss_cons (ps_if (pt_cmpR op_in_seq (pv 4) (pe_adr T.a_WITH_ROW rfl) (by rfl)) (pss_cons (ps_set (i := 7) nd rfl (Or.inl rfl) (pe_slice sl_list (pv 0) (po_some (pe_op op_add (pv 5) pe_int)) (po_some (pe_op op_add (pe_op op_add (pv 5) pe_int) (pe_ix ix_list (pv 0) (pv 5) (fun _ _ => rfl))))))
      (pss_one (ps_set (i := 5) nd rfl (Or.inl rfl) (pe_op op_add (pe_op op_add (pv 5) pe_int) (pe_ix ix_list (pv 0) (pv 5) (fun _ _ => rfl)))))) pss_nil)
      (pss_cons (ps_set (i := 8) nd rfl (Or.inl rfl) (pe_cal c_answer_call hr rfl (pa_cons (pv 1) (pa_cons (pv 4) (pa_cons (pv 6) (pa_cons (pv 7) pa_nil))))))
      (pss_cons (ps_expr (pe_bm PySem.F.plainAttrs_list PySem.F.slot_list_append PySem.F.type_list_append mt_append (pv 2) (pa_cons (pe_callB call_len_seq (by rfl) T.n_len PySem.boot_len (pa_cons (pv 8) pa_nil)) pa_nil)))
      (pss_cons (ps_expr (pe_bm PySem.F.plainAttrs_list PySem.F.slot_list_extend PySem.F.type_list_extend mt_extend (pv 2) (pa_cons (pv 8) pa_nil)))
      (pss_one (ps_set (i := 3) nd rfl (Or.inl rfl) (pv 5))))))))))))
      (pss_one (ps_ret (pv 2))))))), ?_⟩
    intro p dx hx hdx hne
    refine ⟨p, dx, rfl, upd_same, fun H1 sa1 kp1 => ⟨rfl, ?_⟩⟩
    have s1 : Same H H1 := Same.made hx hdx kp1
    refine ⟨Nat.zero_le _, fun t ht => ?_⟩
    have hHp : H p = none := hx
    have hHt : H t = none := s1.free ht
    have npt : t ≠ p := fun e => by
      obtain ⟨dy, z⟩ := sa1
      rw [← e, ht] at z
      cases z
    have s2 : Same H1 (upd H1 t (.lst [])) := Same.new ht
    refine ⟨fun m σ H' => ∃ (place : Nat) (st : Krb8.Abs) (tl : List Int) (cs1 : List (List (List Int))) (f1 : Nat) (v4 v5 v6 v7 v8 : Option V), σ = [some (.ref a), some (.ref p), some (.ref t), some (iV place), v4, v5, v6, v7, v8] ∧
      Same H H' ∧ Ses C H' p st ∧ H' t = some (.lst (tl.map V.int)) ∧ PyFlat.calls shape f1 (zs (xs.drop place)) = some cs1 ∧ m = cs1.length ∧ tl ++ due st cs1 = due none cs,
      ⟨cs.length, 0, none, [], cs, f0, none, none, none, none, none, rfl, s1.trans s2, Ses.on (a := none) sa1 s2, upd_same, hcalls, rfl, rfl⟩, ?_⟩
    rintro m σ H' ⟨place, st, tl, cs1, f1, v4, v5, v6, v7, v8, rfl, sm, hs, htl, hc1, rfl, he⟩
    refine ⟨_, rfl, _, rfl, a, _, rfl, .inl (sm.seq hS), _, _, rfl, rfl, _, rfl, ite2 (fun e => ?_) (fun e => ?_)⟩
    · have e := of_decide_eq_true e
      rw [List.length_map] at e
      have hpl : place < xs.length := by omega
      obtain ⟨n, r0, hd⟩ : ∃ n r0, xs.drop place = n :: r0 := ⟨_, _, List.drop_eq_getElem_cons hpl⟩
      obtain ⟨g1, g2, _⟩ := get_drop hd
      rw [hd] at hc1
      obtain ⟨f2, nums, row, rest, c, c', cs2, hc2, hcs, L, hc, hcall, hhead⟩ := calls_inv hc1
      have hn10 : n < 20 := L.lt
      have hrl : row.length ≤ 100000 := by
        have z := congrArg List.length L.eq
        have z2 := congrArg List.length hd
        rw [List.length_drop, List.length_cons] at z2
        by_cases hr1 : hasRow n = true
        · rw [if_pos hr1, List.length_append, List.length_cons, List.length_append] at z
          omega
        · rw [L.no (by cases z3 : hasRow n with | false => rfl | true => exact absurd z3 hr1)]
          exact Nat.zero_le _
      have g3 : xs.drop (place + 1) = nums ++ (if hasRow n = true then row.length :: (row ++ rest) else rest) := g2.trans L.eq
      obtain ⟨g4, g5⟩ := drop_app g3
      rw [L.len] at g4 g5
      refine ⟨_, fun σ' H' z => z, ?_⟩
      -- number, behind, numbers, row
      refine ⟨_, rfl, _, rfl, a, _, _, iV n, rfl, rfl, sm.seq hS, at_of (j := place) rfl (by rw [List.getElem?_map, g1]; rfl), ?_⟩
      refine ⟨_, rfl, _, _, rfl, rfl, _, rfl, (n : Int), (ahead n : Int), rfl, look_ahead hn10, _, _, rfl, rfl, ?_⟩
      refine ⟨_, rfl, _, rfl, _, _, rfl, rfl, ((place + 1 : Nat) : Int), rfl, _, rfl, ((place + 1 + ahead n : Nat) : Int), rfl, a, _, rfl, sm.seq hS, fun ln hln => ?_⟩
      have ec : cutV (xs.map iV) (some ((place + 1 : Nat) : Int)) (some ((place + 1 + ahead n : Nat) : Int)) = nums.map iV := by
        rw [cut_nat, show place + 1 + ahead n - (place + 1) = ahead n by omega, g4]
      rw [ec]
      have s3 : Same H' (upd H' ln (.lst (nums.map iV))) := Same.new hln
      refine ⟨Nat.zero_le _, fun lr hlr => ?_⟩
      have s4 : Same (upd H' ln (.lst (nums.map iV))) (upd (upd H' ln (.lst (nums.map iV))) lr (.lst [])) := Same.new hlr
      have s34 := s3.trans s4
      refine ⟨_, rfl, fun b hb => ⟨b, _, rfl, .inr (hb _), rfl, rfl, _, rfl, ite2 (fun ew => ?_) (fun ew => ?_)⟩⟩
      · have hrow : hasRow n = true := by
          rw [← in_rows hn10]
          exact ew
        rw [if_pos hrow] at g5
        obtain ⟨g6, g7, _⟩ := get_drop g5
        obtain ⟨g8, g9⟩ := drop_app g7
        have s14 := sm.trans s34
        refine ⟨_, rfl, _, rfl, _, _, rfl, rfl, ((place + 1 + ahead n + 1 : Nat) : Int), rfl, _, rfl, _, _, rfl, rfl, _, rfl, _, rfl, a, _, _, iV row.length, rfl, rfl, s14.seq hS, at_of (j := place + 1 + ahead n) rfl (by rw [List.getElem?_map, g6]; rfl), _, _, rfl, rfl, ((place + 1 + ahead n + 1 + row.length : Nat) : Int), rfl, a, _, rfl, s14.seq hS, fun l2 hl2 => ?_⟩
        have ec2 : cutV (xs.map iV) (some ((place + 1 + ahead n + 1 : Nat) : Int)) (some ((place + 1 + ahead n + 1 + row.length : Nat) : Int)) = row.map iV := by
          rw [cut_nat, show place + 1 + ahead n + 1 + row.length - (place + 1 + ahead n + 1) = row.length by omega, g8]
        rw [ec2]
        have s5 : Same (upd (upd H' ln (.lst (nums.map iV))) lr (.lst [])) (upd (upd (upd H' ln (.lst (nums.map iV))) lr (.lst [])) l2 (.lst (row.map iV))) := Same.new hl2
        have s35 := s34.trans s5
        have s15 := sm.trans s35
        refine ⟨_, rfl, _, _, rfl, rfl, _, rfl, _, rfl, a, _, _, iV row.length, rfl, rfl, s15.seq hS, at_of (j := place + 1 + ahead n) rfl (by rw [List.getElem?_map, g6]; rfl), _, _, rfl, rfl, ?_⟩
        have hsX : Ses C (upd (upd (upd H' ln (.lst (nums.map iV))) lr (.lst [])) l2 (.lst (row.map iV))) p st := hs.on s35
        have hlnX := (s4.trans s5) _ _ (upd_same (H := H') (a := ln) (o := .lst (nums.map iV)))
        have hlrX : upd (upd (upd H' ln (.lst (nums.map iV))) lr (.lst [])) l2 (.lst (row.map iV)) l2 = some (.lst (row.map iV)) := upd_same
        have htX := s35 _ _ htl
        have smX := s15
        have dropX : PyFlat.calls shape f2 (zs (xs.drop (place + 1 + ahead n + 1 + row.length))) = some cs2 := by rw [g9]; exact hc2
        refine ⟨_, rfl, _, rfl, _, rfl, _, rfl, p, ln, l2, st, n, nums, row, c', rfl, hc, hsX, hlnX, hlrX, by rw [L.len]; exact ahead_le n, hrl, fun H5 r an => ?_⟩
        have ht5 : H5 t = some (.lst (tl.map V.int)) := an.keep _ _ htX npt
        have nrt : r ≠ t := fun e => by
          have z := an.new
          rw [e, htX] at z
          cases z
        have npt5 := npt
        have len1 : tl.length + ((Krb8Neutral.told (act st c').2).length + 1) ≤ 10000000 := by
          have z := congrArg List.length he
          rw [List.length_append] at z
          rw [hcs, due_cons st c cs2 c' hcall] at z
          rw [List.length_cons, List.length_append] at z
          omega
        refine ⟨_, rfl, .inl ⟨rfl, _, SqL.of ht5⟩, _, rfl, r, _, rfl, .inl (SqL.of an.lst), t, _, _, rfl, rfl, ht5, by rw [List.length_map]; exact big (by omega), ?_⟩
        refine ⟨_, rfl, .inl ⟨rfl, _, SqL.of upd_same⟩, _, rfl, t, r, _, _, rfl, rfl, upd_same, by rw [upd_ne nrt]; exact an.lst, ?_, ?_⟩
        · simp only [List.length_append, List.length_map, List.length_cons, List.length_nil]
          exact Nat.le_of_lt (big (by omega))
        refine ⟨_, rfl, ?_⟩
        refine ⟨cs2.length, by rw [hcs]; exact Nat.lt_succ_self _, (place + 1 + ahead n + 1 + row.length), (act st c').1, tl ++ (((Krb8Neutral.told (act st c').2).length : Int) :: Krb8Neutral.told (act st c').2), cs2, f2, some (iV n), some (iV (place + 1 + ahead n + 1 + row.length)), some (.ref ln), some (.ref l2), some (.ref r), ?_, ?_, ?_, ?_, ?_, rfl, ?_⟩
        · rfl
        · intro b o z
          have nb : b ≠ t := ne_of_none z hHt
          rw [upd_ne nb, upd_ne nb]
          exact an.keep b o (smX b o z) (ne_of_none z hHp)
        · have np : p ≠ t := Ne.symm npt
          cases hst : (act st c').1 with
          | none =>
            have z := an.ses
            rw [hst] at z
            obtain ⟨dx, z⟩ := z
            exact ⟨dx, by rw [upd_ne np, upd_ne np]; exact z⟩
          | some h2 =>
            have z := an.ses
            rw [hst] at z
            obtain ⟨⟨dx, z⟩, z2⟩ := z
            exact ⟨⟨dx, by rw [upd_ne np, upd_ne np]; exact z⟩, z2⟩
        · rw [upd_same]
          simp only [List.map_append, List.map_cons, List.append_assoc, List.length_map, List.cons_append, List.nil_append]
        · exact dropX
        · rw [List.append_assoc, List.cons_append, ← due_cons st c cs2 c' hcall, ← hcs]
          exact he
      · have hrow : ¬ hasRow n = true := by
          rw [← in_rows hn10]
          exact ew
        rw [if_neg hrow] at g5
        have hno : row = [] := L.no (by cases z3 : hasRow n with | false => rfl | true => exact absurd z3 hrow)
        have hsX : Ses C (upd (upd H' ln (.lst (nums.map iV))) lr (.lst [])) p st := hs.on s34
        have hlnX := s4 _ _ (upd_same (H := H') (a := ln) (o := .lst (nums.map iV)))
        have hlrX : upd (upd H' ln (.lst (nums.map iV))) lr (.lst []) lr = some (.lst (row.map iV)) := by rw [hno]; exact upd_same
        have htX := s34 _ _ htl
        have smX := sm.trans s34
        have dropX : PyFlat.calls shape f2 (zs (xs.drop (place + 1 + ahead n))) = some cs2 := by rw [g5]; exact hc2
        refine ⟨_, rfl, _, rfl, _, rfl, _, rfl, p, ln, lr, st, n, nums, row, c', rfl, hc, hsX, hlnX, hlrX, by rw [L.len]; exact ahead_le n, hrl, fun H5 r an => ?_⟩
        have ht5 : H5 t = some (.lst (tl.map V.int)) := an.keep _ _ htX npt
        have nrt : r ≠ t := fun e => by
          have z := an.new
          rw [e, htX] at z
          cases z
        have npt5 := npt
        have len1 : tl.length + ((Krb8Neutral.told (act st c').2).length + 1) ≤ 10000000 := by
          have z := congrArg List.length he
          rw [List.length_append] at z
          rw [hcs, due_cons st c cs2 c' hcall] at z
          rw [List.length_cons, List.length_append] at z
          omega
        refine ⟨_, rfl, .inl ⟨rfl, _, SqL.of ht5⟩, _, rfl, r, _, rfl, .inl (SqL.of an.lst), t, _, _, rfl, rfl, ht5, by rw [List.length_map]; exact big (by omega), ?_⟩
        refine ⟨_, rfl, .inl ⟨rfl, _, SqL.of upd_same⟩, _, rfl, t, r, _, _, rfl, rfl, upd_same, by rw [upd_ne nrt]; exact an.lst, ?_, ?_⟩
        · simp only [List.length_append, List.length_map, List.length_cons, List.length_nil]
          exact Nat.le_of_lt (big (by omega))
        refine ⟨_, rfl, ?_⟩
        refine ⟨cs2.length, by rw [hcs]; exact Nat.lt_succ_self _, (place + 1 + ahead n), (act st c').1, tl ++ (((Krb8Neutral.told (act st c').2).length : Int) :: Krb8Neutral.told (act st c').2), cs2, f2, some (iV n), some (iV (place + 1 + ahead n)), some (.ref ln), some (.ref lr), some (.ref r), ?_, ?_, ?_, ?_, ?_, rfl, ?_⟩
        · rfl
        · intro b o z
          have nb : b ≠ t := ne_of_none z hHt
          rw [upd_ne nb, upd_ne nb]
          exact an.keep b o (smX b o z) (ne_of_none z hHp)
        · have np : p ≠ t := Ne.symm npt
          cases hst : (act st c').1 with
          | none =>
            have z := an.ses
            rw [hst] at z
            obtain ⟨dx, z⟩ := z
            exact ⟨dx, by rw [upd_ne np, upd_ne np]; exact z⟩
          | some h2 =>
            have z := an.ses
            rw [hst] at z
            obtain ⟨⟨dx, z⟩, z2⟩ := z
            exact ⟨⟨dx, by rw [upd_ne np, upd_ne np]; exact z⟩, z2⟩
        · rw [upd_same]
          simp only [List.map_append, List.map_cons, List.append_assoc, List.length_map, List.cons_append, List.nil_append]
        · exact dropX
        · rw [List.append_assoc, List.cons_append, ← due_cons st c cs2 c' hcall, ← hcs]
          exact he
    · have e := of_decide_eq_false (eq_false_of_ne_true e)
      rw [List.length_map] at e
      rw [List.drop_of_length_le (by omega)] at hc1
      have hnil := calls_nil hc1
      subst hnil
      rw [due_nil, List.append_nil] at he
      refine ⟨_, rfl, ?_⟩
      rw [he] at htl
      exact q H' t htl
end
end Ld
set_option Elab.async false
set_option linter.all false
set_option maxRecDepth 100000
set_option maxHeartbeats 2000000
namespace L2
open PySem PySem.Spec PyProof.Rows
section
variable {K : PySem.W.Frag} {h : Heap} {mg : Str → Option Value} {x m qual : Str} {st : Stmt} {ps : List Str} {f C : Addr} {oc : Value} {od an : Option Addr} {osl : Array (Option Value)} {kV doc pm cdv ct : Value}
theorem txF_mk (X : K.In h) (G : h.Ns mainGlobals mg) (a : PySem.W.nsIn K mainGlobals x = some (some (.ref f)))
    (l : K.lookup f = some ⟨oc, od, .func (PySem.W.fnOf x x (defArgs st) (defBody st) (defScope st) .none kV doc pm an cdv ct), osl⟩) (c : PySem.W.codeIn K cdv x = true) (k : PySem.W.keepIn K (.ref f) = true)
    (b : ∀ (kV doc pm : Value) (an : Option Addr) (cdv ct : Value) (us : List Value), us.length = ps.length → bindArgs (PySem.W.fnOf x x (defArgs st) (defBody st) (defScope st) .none kV doc pm an cdv ct) ⟨us, []⟩ = pure (ps.zip us)) : TxF K mg x st ps :=
  ⟨f, _, fun_mk l c k, PySem.W.mg_of X G a, (fun_mk (st := st) l c k).binds b⟩
theorem txM_mk (a : PySem.W.findIn K (.ref C) m = some (some (.ref f))) (i : PySem.W.isFn K (.ref f) = true)
    (l : K.lookup f = some ⟨oc, od, .func (PySem.W.fnOf m qual (defArgs st) (defBody st) (defScope st) .none kV doc pm an cdv ct), osl⟩) (c : PySem.W.codeIn K cdv qual = true) (k : PySem.W.keepIn K (.ref f) = true)
    (b : ∀ (kV doc pm : Value) (an : Option Addr) (cdv ct : Value) (us : List Value), us.length = ps.length → bindArgs (PySem.W.fnOf m qual (defArgs st) (defBody st) (defScope st) .none kV doc pm an cdv ct) ⟨us, []⟩ = pure (ps.zip us)) : TxM K C m qual st ps :=
  ⟨f, _, fun_mk l c k, ⟨a, i, k⟩, (fun_mk (st := st) l c k).binds b⟩
theorem txI_mk (X : K.In h) (G : h.Ns mainGlobals mg) (aC : PySem.W.nsIn K mainGlobals x = some (some (.ref C))) (a : PySem.W.findIn K (.ref C) "__init__" = some (some (.ref f))) (i : PySem.W.isFn K (.ref f) = true)
    (l : K.lookup f = some ⟨oc, od, .func (PySem.W.fnOf "__init__" qual (defArgs st) (defBody st) (defScope st) .none kV doc pm an cdv ct), osl⟩) (c : PySem.W.codeIn K cdv qual = true) (k : PySem.W.keepIn K (.ref f) = true)
    (mk : PySem.W.makesIn K C = true) (kc : PySem.W.keepIn K (.ref C) = true)
    (b : ∀ (kV doc pm : Value) (an : Option Addr) (cdv ct : Value) (us : List Value), us.length = ps.length → bindArgs (PySem.W.fnOf "__init__" qual (defArgs st) (defBody st) (defScope st) .none kV doc pm an cdv ct) ⟨us, []⟩ = pure (ps.zip us)) : TxI K mg C x qual st ps :=
  ⟨f, _, fun_mk l c k, ⟨mk, a, i, kc⟩, PySem.W.mg_of X G aC, (fun_mk (st := st) l c k).binds b⟩
theorem cst_mk {v : Int} {t : Tok} (X : K.In h) (G : h.Ns mainGlobals mg) (a : PySem.W.nsIn K mainGlobals x = some (some (.int v t))) : Cst mg x v := ⟨t, PySem.W.mg_of X G a⟩
theorem blt_mk (X : K.In h) (G : h.Ns mainGlobals mg) (a : PySem.W.nsIn K mainGlobals x = some none) : mg x = none := PySem.W.mg_none_of X G a
theorem kd_mk {o : Obj} {kvs : List (Int × Int)} (X : K.In h) (G : h.Ns mainGlobals mg) (a : PySem.W.nsIn K mainGlobals x = some (some (.ref f))) (l : K.lookup f = some o) (e : o.cls = .type "dict" ∧ o.dict = none ∧ o.slots = #[])
    (c : kdOk o kvs = true) (s : (f == sysModules) = false) (n : (kvs.map (·.1)).Nodup) : KDict K mg x kvs := ⟨f, o, PySem.W.mg_of X G a, l, e, c, s, n⟩
def tupOk : List Value → List Int → Bool
  | [], [] => true
  | .int i _ :: vs, j :: js => decide (i = j) && tupOk vs js
  | _, _ => false
theorem tup_vals : ∀ {vs : List Value} {js : List Int}, tupOk vs js = true → Vals (js.map V.int) vs
  | [], [], _ => .nil
  | v :: vs, j :: js, h => by
    cases v <;> simp [tupOk] at h
    obtain ⟨h1, h2⟩ := h
    subst h1
    exact .cons ⟨_, rfl⟩ (tup_vals h2)
  | [], _ :: _, h => by simp [tupOk] at h
  | v :: _, [], h => by cases v <;> simp [tupOk] at h
theorem tup_mk {o : Obj} {js : List Int} {its : Array Value} {n : Nat} (X : K.In h) (G : h.Ns mainGlobals mg) (a : PySem.W.nsIn K mainGlobals x = some (some (.ref f))) (l : K.lookup f = some o) (e : o.cls = .type "tuple") (d : o.data = .seq its n)
    (z : its.size ≤ sizeLine) (c : tupOk its.toList js = true) : AdrT K mg x (js.map V.int) := ⟨f, PySem.W.mg_of X G a, fun H => .inr ⟨o, its, n, l, e, d, z, tup_vals c⟩⟩
end
end L2
set_option Elab.async false
set_option linter.all false
set_option maxRecDepth 100000
set_option maxHeartbeats 2000000
namespace Ld
open PySem PySem.Spec PyProof.Rows L2
theorem txt_mk {K : PySem.W.Frag} {h : Heap} {mg : Str → Option Value} {C : Addr} (X : K.In h) (G : h.Ns mainGlobals mg)
    {t_NOT_BEGUN : Tok} {t_NOT_RIGHT : Tok} {t_CANNOT_BE : Tok} {t_DENIED : Tok} {t_CONCEDED : Tok} {t_DOUBTED : Tok} {t_NO_MATTER : Tok} {t_FOLLOWS : Tok} {t_AGAINST : Tok} {t_BEGIN : Tok} {t_LAY : Tok} {t_LEARN : Tok} {t_ALONE : Tok} {t_ALONEROW : Tok} {t_ALONG : Tok} {t_PARTS : Tok} {t_CLASH : Tok} {t_CLASHES : Tok} {t_NTH : Tok} {t_PARTNER : Tok} {t_WAYS : Tok} {t_WAY : Tok} {t_MAY : Tok} {t_ORDER : Tok} {t_COUNTS : Tok} {t_LONGEST_ROW : Tok} {t_LONGEST_ROW_IN_ALL_ORDERS : Tok} {a_WORLDS_BY_LETTERS : Addr} {o_WORLDS_BY_LETTERS : Obj} {a_NUMBERS_AHEAD : Addr} {o_NUMBERS_AHEAD : Obj} {a_COUNTED : Addr} {o_COUNTED : Obj} {i_COUNTED : Array Value} {n_COUNTED : Nat} {a_WITH_ROW : Addr} {o_WITH_ROW : Obj} {i_WITH_ROW : Array Value} {n_WITH_ROW : Nat} {a_IN_ALL_ORDERS : Addr} {o_IN_ALL_ORDERS : Obj} {i_IN_ALL_ORDERS : Array Value} {n_IN_ALL_ORDERS : Nat} {a_OF_PROPOSITIONS : Addr} {o_OF_PROPOSITIONS : Obj} {i_OF_PROPOSITIONS : Array Value} {n_OF_PROPOSITIONS : Nat} {g___init__ : Addr} {oc___init__ : Value} {od___init__ an___init__ : Option Addr} {sl___init__ : Array (Option Value)} {kV___init__ dc___init__ pm___init__ cd___init__ ct___init__ : Value} {g_has_begun : Addr} {oc_has_begun : Value} {od_has_begun an_has_begun : Option Addr} {sl_has_begun : Array (Option Value)} {kV_has_begun dc_has_begun pm_has_begun cd_has_begun ct_has_begun : Value} {g_are_propositions : Addr} {oc_are_propositions : Value} {od_are_propositions an_are_propositions : Option Addr} {sl_are_propositions : Array (Option Value)} {kV_are_propositions dc_are_propositions pm_are_propositions cd_are_propositions ct_are_propositions : Value} {g_begin : Addr} {oc_begin : Value} {od_begin an_begin : Option Addr} {sl_begin : Array (Option Value)} {kV_begin dc_begin pm_begin cd_begin ct_begin : Value} {g_lay : Addr} {oc_lay : Value} {od_lay an_lay : Option Addr} {sl_lay : Array (Option Value)} {kV_lay dc_lay pm_lay cd_lay ct_lay : Value} {g_learn : Addr} {oc_learn : Value} {od_learn an_learn : Option Addr} {sl_learn : Array (Option Value)} {kV_learn dc_learn pm_learn cd_learn ct_learn : Value} {g_alone : Addr} {oc_alone : Value} {od_alone an_alone : Option Addr} {sl_alone : Array (Option Value)} {kV_alone dc_alone pm_alone cd_alone ct_alone : Value} {g_alonerow : Addr} {oc_alonerow : Value} {od_alonerow an_alonerow : Option Addr} {sl_alonerow : Array (Option Value)} {kV_alonerow dc_alonerow pm_alonerow cd_alonerow ct_alonerow : Value} {g_along : Addr} {oc_along : Value} {od_along an_along : Option Addr} {sl_along : Array (Option Value)} {kV_along dc_along pm_along cd_along ct_along : Value} {g_parts : Addr} {oc_parts : Value} {od_parts an_parts : Option Addr} {sl_parts : Array (Option Value)} {kV_parts dc_parts pm_parts cd_parts ct_parts : Value} {g_clash : Addr} {oc_clash : Value} {od_clash an_clash : Option Addr} {sl_clash : Array (Option Value)} {kV_clash dc_clash pm_clash cd_clash ct_clash : Value} {g_clashes : Addr} {oc_clashes : Value} {od_clashes an_clashes : Option Addr} {sl_clashes : Array (Option Value)} {kV_clashes dc_clashes pm_clashes cd_clashes ct_clashes : Value} {g_nth : Addr} {oc_nth : Value} {od_nth an_nth : Option Addr} {sl_nth : Array (Option Value)} {kV_nth dc_nth pm_nth cd_nth ct_nth : Value} {g_partner : Addr} {oc_partner : Value} {od_partner an_partner : Option Addr} {sl_partner : Array (Option Value)} {kV_partner dc_partner pm_partner cd_partner ct_partner : Value} {g_caught : Addr} {oc_caught : Value} {od_caught an_caught : Option Addr} {sl_caught : Array (Option Value)} {kV_caught dc_caught pm_caught cd_caught ct_caught : Value} {g_ways : Addr} {oc_ways : Value} {od_ways an_ways : Option Addr} {sl_ways : Array (Option Value)} {kV_ways dc_ways pm_ways cd_ways ct_ways : Value} {g_way : Addr} {oc_way : Value} {od_way an_way : Option Addr} {sl_way : Array (Option Value)} {kV_way dc_way pm_way cd_way ct_way : Value} {g_may : Addr} {oc_may : Value} {od_may an_may : Option Addr} {sl_may : Array (Option Value)} {kV_may dc_may pm_may cd_may ct_may : Value} {g_order : Addr} {oc_order : Value} {od_order an_order : Option Addr} {sl_order : Array (Option Value)} {kV_order dc_order pm_order cd_order ct_order : Value} {g_matters : Addr} {oc_matters : Value} {od_matters an_matters : Option Addr} {sl_matters : Array (Option Value)} {kV_matters dc_matters pm_matters cd_matters ct_matters : Value} {g_counts : Addr} {oc_counts : Value} {od_counts an_counts : Option Addr} {sl_counts : Array (Option Value)} {kV_counts dc_counts pm_counts cd_counts ct_counts : Value} {g_bound : Addr} {oc_bound : Value} {od_bound an_bound : Option Addr} {sl_bound : Array (Option Value)} {kV_bound dc_bound pm_bound cd_bound ct_bound : Value} {g_state : Addr} {oc_state : Value} {od_state an_state : Option Addr} {sl_state : Array (Option Value)} {kV_state dc_state pm_state cd_state ct_state : Value}
    (aC : PySem.W.nsIn K mainGlobals "Session" = some (some (.ref C)))
    (pg : PySem.W.plainGet K C Str.empty = true)
    (hd : PySem.W.hasDictIn K C = true)
    (po : PySem.W.plainOver K C = true)
    (sa : PySem.W.findIn K (.ref C) "__setattr__" = some (some (.builtin "object.__setattr__")))
    (mk : PySem.W.makesIn K C = true)
    (kc : PySem.W.keepIn K (.ref C) = true)
    (f_letters : PySem.W.findIn K (.ref C) "letters" = some none)
    (f_every : PySem.W.findIn K (.ref C) "every" = some none)
    (f_known : PySem.W.findIn K (.ref C) "known" = some none)
    (f_laid : PySem.W.findIn K (.ref C) "laid" = some none)
    (c_NOT_BEGUN : PySem.W.nsIn K mainGlobals "NOT_BEGUN" = some (some (.int (-11) t_NOT_BEGUN)))
    (c_NOT_RIGHT : PySem.W.nsIn K mainGlobals "NOT_RIGHT" = some (some (.int (-22) t_NOT_RIGHT)))
    (c_CANNOT_BE : PySem.W.nsIn K mainGlobals "CANNOT_BE" = some (some (.int (-33) t_CANNOT_BE)))
    (c_DENIED : PySem.W.nsIn K mainGlobals "DENIED" = some (some (.int 0 t_DENIED)))
    (c_CONCEDED : PySem.W.nsIn K mainGlobals "CONCEDED" = some (some (.int 1 t_CONCEDED)))
    (c_DOUBTED : PySem.W.nsIn K mainGlobals "DOUBTED" = some (some (.int 2 t_DOUBTED)))
    (c_NO_MATTER : PySem.W.nsIn K mainGlobals "NO_MATTER" = some (some (.int 0 t_NO_MATTER)))
    (c_FOLLOWS : PySem.W.nsIn K mainGlobals "FOLLOWS" = some (some (.int 1 t_FOLLOWS)))
    (c_AGAINST : PySem.W.nsIn K mainGlobals "AGAINST" = some (some (.int 2 t_AGAINST)))
    (c_BEGIN : PySem.W.nsIn K mainGlobals "BEGIN" = some (some (.int 0 t_BEGIN)))
    (c_LAY : PySem.W.nsIn K mainGlobals "LAY" = some (some (.int 1 t_LAY)))
    (c_LEARN : PySem.W.nsIn K mainGlobals "LEARN" = some (some (.int 2 t_LEARN)))
    (c_ALONE : PySem.W.nsIn K mainGlobals "ALONE" = some (some (.int 3 t_ALONE)))
    (c_ALONEROW : PySem.W.nsIn K mainGlobals "ALONEROW" = some (some (.int 4 t_ALONEROW)))
    (c_ALONG : PySem.W.nsIn K mainGlobals "ALONG" = some (some (.int 5 t_ALONG)))
    (c_PARTS : PySem.W.nsIn K mainGlobals "PARTS" = some (some (.int 6 t_PARTS)))
    (c_CLASH : PySem.W.nsIn K mainGlobals "CLASH" = some (some (.int 7 t_CLASH)))
    (c_CLASHES : PySem.W.nsIn K mainGlobals "CLASHES" = some (some (.int 8 t_CLASHES)))
    (c_NTH : PySem.W.nsIn K mainGlobals "NTH" = some (some (.int 9 t_NTH)))
    (c_PARTNER : PySem.W.nsIn K mainGlobals "PARTNER" = some (some (.int 10 t_PARTNER)))
    (c_WAYS : PySem.W.nsIn K mainGlobals "WAYS" = some (some (.int 12 t_WAYS)))
    (c_WAY : PySem.W.nsIn K mainGlobals "WAY" = some (some (.int 13 t_WAY)))
    (c_MAY : PySem.W.nsIn K mainGlobals "MAY" = some (some (.int 14 t_MAY)))
    (c_ORDER : PySem.W.nsIn K mainGlobals "ORDER" = some (some (.int 15 t_ORDER)))
    (c_COUNTS : PySem.W.nsIn K mainGlobals "COUNTS" = some (some (.int 17 t_COUNTS)))
    (c_LONGEST_ROW : PySem.W.nsIn K mainGlobals "LONGEST_ROW" = some (some (.int 16 t_LONGEST_ROW)))
    (c_LONGEST_ROW_IN_ALL_ORDERS : PySem.W.nsIn K mainGlobals "LONGEST_ROW_IN_ALL_ORDERS" = some (some (.int 5 t_LONGEST_ROW_IN_ALL_ORDERS)))
    (b_all : PySem.W.nsIn K mainGlobals "all" = some none)
    (b_enumerate : PySem.W.nsIn K mainGlobals "enumerate" = some none)
    (b_len : PySem.W.nsIn K mainGlobals "len" = some none)
    (b_list : PySem.W.nsIn K mainGlobals "list" = some none)
    (b_range : PySem.W.nsIn K mainGlobals "range" = some none)
    (b_sum : PySem.W.nsIn K mainGlobals "sum" = some none)
    (b_tuple : PySem.W.nsIn K mainGlobals "tuple" = some none)
    (da_WORLDS_BY_LETTERS : PySem.W.nsIn K mainGlobals "WORLDS_BY_LETTERS" = some (some (.ref a_WORLDS_BY_LETTERS)))
    (dl_WORLDS_BY_LETTERS : K.lookup a_WORLDS_BY_LETTERS = some o_WORLDS_BY_LETTERS)
    (de_WORLDS_BY_LETTERS : o_WORLDS_BY_LETTERS.cls = .type "dict" ∧ o_WORLDS_BY_LETTERS.dict = none ∧ o_WORLDS_BY_LETTERS.slots = #[])
    (dc_WORLDS_BY_LETTERS : kdOk o_WORLDS_BY_LETTERS [(1, 3), (2, 15), (3, 255)] = true)
    (ds_WORLDS_BY_LETTERS : (a_WORLDS_BY_LETTERS == sysModules) = false)
    (da_NUMBERS_AHEAD : PySem.W.nsIn K mainGlobals "NUMBERS_AHEAD" = some (some (.ref a_NUMBERS_AHEAD)))
    (dl_NUMBERS_AHEAD : K.lookup a_NUMBERS_AHEAD = some o_NUMBERS_AHEAD)
    (de_NUMBERS_AHEAD : o_NUMBERS_AHEAD.cls = .type "dict" ∧ o_NUMBERS_AHEAD.dict = none ∧ o_NUMBERS_AHEAD.slots = #[])
    (dc_NUMBERS_AHEAD : kdOk o_NUMBERS_AHEAD [(0, 3), (1, 1), (2, 1), (3, 1), (4, 0), (5, 0), (6, 0), (7, 2), (8, 0), (9, 1), (10, 1), (11, 0), (12, 0), (13, 1), (14, 1), (15, 2), (16, 0), (17, 0), (18, 1), (19, 0)] = true)
    (ds_NUMBERS_AHEAD : (a_NUMBERS_AHEAD == sysModules) = false)
    (ta_COUNTED : PySem.W.nsIn K mainGlobals "COUNTED" = some (some (.ref a_COUNTED)))
    (tl_COUNTED : K.lookup a_COUNTED = some o_COUNTED)
    (te_COUNTED : o_COUNTED.cls = .type "tuple")
    (td_COUNTED : o_COUNTED.data = .seq i_COUNTED n_COUNTED)
    (tz_COUNTED : i_COUNTED.size ≤ sizeLine)
    (tc_COUNTED : tupOk i_COUNTED.toList [1, 2, 4] = true)
    (ta_WITH_ROW : PySem.W.nsIn K mainGlobals "WITH_ROW" = some (some (.ref a_WITH_ROW)))
    (tl_WITH_ROW : K.lookup a_WITH_ROW = some o_WITH_ROW)
    (te_WITH_ROW : o_WITH_ROW.cls = .type "tuple")
    (td_WITH_ROW : o_WITH_ROW.data = .seq i_WITH_ROW n_WITH_ROW)
    (tz_WITH_ROW : i_WITH_ROW.size ≤ sizeLine)
    (tc_WITH_ROW : tupOk i_WITH_ROW.toList [4, 5, 6, 11, 12, 13, 14, 15, 16] = true)
    (ta_IN_ALL_ORDERS : PySem.W.nsIn K mainGlobals "IN_ALL_ORDERS" = some (some (.ref a_IN_ALL_ORDERS)))
    (tl_IN_ALL_ORDERS : K.lookup a_IN_ALL_ORDERS = some o_IN_ALL_ORDERS)
    (te_IN_ALL_ORDERS : o_IN_ALL_ORDERS.cls = .type "tuple")
    (td_IN_ALL_ORDERS : o_IN_ALL_ORDERS.data = .seq i_IN_ALL_ORDERS n_IN_ALL_ORDERS)
    (tz_IN_ALL_ORDERS : i_IN_ALL_ORDERS.size ≤ sizeLine)
    (tc_IN_ALL_ORDERS : tupOk i_IN_ALL_ORDERS.toList [12, 13, 14, 15, 16] = true)
    (ta_OF_PROPOSITIONS : PySem.W.nsIn K mainGlobals "OF_PROPOSITIONS" = some (some (.ref a_OF_PROPOSITIONS)))
    (tl_OF_PROPOSITIONS : K.lookup a_OF_PROPOSITIONS = some o_OF_PROPOSITIONS)
    (te_OF_PROPOSITIONS : o_OF_PROPOSITIONS.cls = .type "tuple")
    (td_OF_PROPOSITIONS : o_OF_PROPOSITIONS.data = .seq i_OF_PROPOSITIONS n_OF_PROPOSITIONS)
    (tz_OF_PROPOSITIONS : i_OF_PROPOSITIONS.size ≤ sizeLine)
    (tc_OF_PROPOSITIONS : tupOk i_OF_PROPOSITIONS.toList [1, 2, 3, 7, 10, 18] = true)
    (ma___init__ : PySem.W.findIn K (.ref C) "__init__" = some (some (.ref g___init__)))
    (mi___init__ : PySem.W.isFn K (.ref g___init__) = true)
    (ml___init__ : K.lookup g___init__ = some ⟨oc___init__, od___init__, .func (PySem.W.fnOf "__init__" "Session.__init__" (defArgs s_init) (defBody s_init) (defScope s_init) .none kV___init__ dc___init__ pm___init__ an___init__ cd___init__ ct___init__), sl___init__⟩)
    (mc___init__ : PySem.W.codeIn K cd___init__ "Session.__init__" = true)
    (mk___init__ : PySem.W.keepIn K (.ref g___init__) = true)
    (ma_has_begun : PySem.W.findIn K (.ref C) "has_begun" = some (some (.ref g_has_begun)))
    (mi_has_begun : PySem.W.isFn K (.ref g_has_begun) = true)
    (ml_has_begun : K.lookup g_has_begun = some ⟨oc_has_begun, od_has_begun, .func (PySem.W.fnOf "has_begun" "Session.has_begun" (defArgs s_has_begun) (defBody s_has_begun) (defScope s_has_begun) .none kV_has_begun dc_has_begun pm_has_begun an_has_begun cd_has_begun ct_has_begun), sl_has_begun⟩)
    (mc_has_begun : PySem.W.codeIn K cd_has_begun "Session.has_begun" = true)
    (mk_has_begun : PySem.W.keepIn K (.ref g_has_begun) = true)
    (ma_are_propositions : PySem.W.findIn K (.ref C) "are_propositions" = some (some (.ref g_are_propositions)))
    (mi_are_propositions : PySem.W.isFn K (.ref g_are_propositions) = true)
    (ml_are_propositions : K.lookup g_are_propositions = some ⟨oc_are_propositions, od_are_propositions, .func (PySem.W.fnOf "are_propositions" "Session.are_propositions" (defArgs s_are_propositions) (defBody s_are_propositions) (defScope s_are_propositions) .none kV_are_propositions dc_are_propositions pm_are_propositions an_are_propositions cd_are_propositions ct_are_propositions), sl_are_propositions⟩)
    (mc_are_propositions : PySem.W.codeIn K cd_are_propositions "Session.are_propositions" = true)
    (mk_are_propositions : PySem.W.keepIn K (.ref g_are_propositions) = true)
    (ma_begin : PySem.W.findIn K (.ref C) "begin" = some (some (.ref g_begin)))
    (mi_begin : PySem.W.isFn K (.ref g_begin) = true)
    (ml_begin : K.lookup g_begin = some ⟨oc_begin, od_begin, .func (PySem.W.fnOf "begin" "Session.begin" (defArgs s_begin) (defBody s_begin) (defScope s_begin) .none kV_begin dc_begin pm_begin an_begin cd_begin ct_begin), sl_begin⟩)
    (mc_begin : PySem.W.codeIn K cd_begin "Session.begin" = true)
    (mk_begin : PySem.W.keepIn K (.ref g_begin) = true)
    (ma_lay : PySem.W.findIn K (.ref C) "lay" = some (some (.ref g_lay)))
    (mi_lay : PySem.W.isFn K (.ref g_lay) = true)
    (ml_lay : K.lookup g_lay = some ⟨oc_lay, od_lay, .func (PySem.W.fnOf "lay" "Session.lay" (defArgs s_lay) (defBody s_lay) (defScope s_lay) .none kV_lay dc_lay pm_lay an_lay cd_lay ct_lay), sl_lay⟩)
    (mc_lay : PySem.W.codeIn K cd_lay "Session.lay" = true)
    (mk_lay : PySem.W.keepIn K (.ref g_lay) = true)
    (ma_learn : PySem.W.findIn K (.ref C) "learn" = some (some (.ref g_learn)))
    (mi_learn : PySem.W.isFn K (.ref g_learn) = true)
    (ml_learn : K.lookup g_learn = some ⟨oc_learn, od_learn, .func (PySem.W.fnOf "learn" "Session.learn" (defArgs s_learn) (defBody s_learn) (defScope s_learn) .none kV_learn dc_learn pm_learn an_learn cd_learn ct_learn), sl_learn⟩)
    (mc_learn : PySem.W.codeIn K cd_learn "Session.learn" = true)
    (mk_learn : PySem.W.keepIn K (.ref g_learn) = true)
    (ma_alone : PySem.W.findIn K (.ref C) "alone" = some (some (.ref g_alone)))
    (mi_alone : PySem.W.isFn K (.ref g_alone) = true)
    (ml_alone : K.lookup g_alone = some ⟨oc_alone, od_alone, .func (PySem.W.fnOf "alone" "Session.alone" (defArgs s_alone) (defBody s_alone) (defScope s_alone) .none kV_alone dc_alone pm_alone an_alone cd_alone ct_alone), sl_alone⟩)
    (mc_alone : PySem.W.codeIn K cd_alone "Session.alone" = true)
    (mk_alone : PySem.W.keepIn K (.ref g_alone) = true)
    (ma_alonerow : PySem.W.findIn K (.ref C) "alonerow" = some (some (.ref g_alonerow)))
    (mi_alonerow : PySem.W.isFn K (.ref g_alonerow) = true)
    (ml_alonerow : K.lookup g_alonerow = some ⟨oc_alonerow, od_alonerow, .func (PySem.W.fnOf "alonerow" "Session.alonerow" (defArgs s_alonerow) (defBody s_alonerow) (defScope s_alonerow) .none kV_alonerow dc_alonerow pm_alonerow an_alonerow cd_alonerow ct_alonerow), sl_alonerow⟩)
    (mc_alonerow : PySem.W.codeIn K cd_alonerow "Session.alonerow" = true)
    (mk_alonerow : PySem.W.keepIn K (.ref g_alonerow) = true)
    (ma_along : PySem.W.findIn K (.ref C) "along" = some (some (.ref g_along)))
    (mi_along : PySem.W.isFn K (.ref g_along) = true)
    (ml_along : K.lookup g_along = some ⟨oc_along, od_along, .func (PySem.W.fnOf "along" "Session.along" (defArgs s_along) (defBody s_along) (defScope s_along) .none kV_along dc_along pm_along an_along cd_along ct_along), sl_along⟩)
    (mc_along : PySem.W.codeIn K cd_along "Session.along" = true)
    (mk_along : PySem.W.keepIn K (.ref g_along) = true)
    (ma_parts : PySem.W.findIn K (.ref C) "parts" = some (some (.ref g_parts)))
    (mi_parts : PySem.W.isFn K (.ref g_parts) = true)
    (ml_parts : K.lookup g_parts = some ⟨oc_parts, od_parts, .func (PySem.W.fnOf "parts" "Session.parts" (defArgs s_parts) (defBody s_parts) (defScope s_parts) .none kV_parts dc_parts pm_parts an_parts cd_parts ct_parts), sl_parts⟩)
    (mc_parts : PySem.W.codeIn K cd_parts "Session.parts" = true)
    (mk_parts : PySem.W.keepIn K (.ref g_parts) = true)
    (ma_clash : PySem.W.findIn K (.ref C) "clash" = some (some (.ref g_clash)))
    (mi_clash : PySem.W.isFn K (.ref g_clash) = true)
    (ml_clash : K.lookup g_clash = some ⟨oc_clash, od_clash, .func (PySem.W.fnOf "clash" "Session.clash" (defArgs s_clash) (defBody s_clash) (defScope s_clash) .none kV_clash dc_clash pm_clash an_clash cd_clash ct_clash), sl_clash⟩)
    (mc_clash : PySem.W.codeIn K cd_clash "Session.clash" = true)
    (mk_clash : PySem.W.keepIn K (.ref g_clash) = true)
    (ma_clashes : PySem.W.findIn K (.ref C) "clashes" = some (some (.ref g_clashes)))
    (mi_clashes : PySem.W.isFn K (.ref g_clashes) = true)
    (ml_clashes : K.lookup g_clashes = some ⟨oc_clashes, od_clashes, .func (PySem.W.fnOf "clashes" "Session.clashes" (defArgs s_clashes) (defBody s_clashes) (defScope s_clashes) .none kV_clashes dc_clashes pm_clashes an_clashes cd_clashes ct_clashes), sl_clashes⟩)
    (mc_clashes : PySem.W.codeIn K cd_clashes "Session.clashes" = true)
    (mk_clashes : PySem.W.keepIn K (.ref g_clashes) = true)
    (ma_nth : PySem.W.findIn K (.ref C) "nth" = some (some (.ref g_nth)))
    (mi_nth : PySem.W.isFn K (.ref g_nth) = true)
    (ml_nth : K.lookup g_nth = some ⟨oc_nth, od_nth, .func (PySem.W.fnOf "nth" "Session.nth" (defArgs s_nth) (defBody s_nth) (defScope s_nth) .none kV_nth dc_nth pm_nth an_nth cd_nth ct_nth), sl_nth⟩)
    (mc_nth : PySem.W.codeIn K cd_nth "Session.nth" = true)
    (mk_nth : PySem.W.keepIn K (.ref g_nth) = true)
    (ma_partner : PySem.W.findIn K (.ref C) "partner" = some (some (.ref g_partner)))
    (mi_partner : PySem.W.isFn K (.ref g_partner) = true)
    (ml_partner : K.lookup g_partner = some ⟨oc_partner, od_partner, .func (PySem.W.fnOf "partner" "Session.partner" (defArgs s_partner) (defBody s_partner) (defScope s_partner) .none kV_partner dc_partner pm_partner an_partner cd_partner ct_partner), sl_partner⟩)
    (mc_partner : PySem.W.codeIn K cd_partner "Session.partner" = true)
    (mk_partner : PySem.W.keepIn K (.ref g_partner) = true)
    (ma_caught : PySem.W.findIn K (.ref C) "caught" = some (some (.ref g_caught)))
    (mi_caught : PySem.W.isFn K (.ref g_caught) = true)
    (ml_caught : K.lookup g_caught = some ⟨oc_caught, od_caught, .func (PySem.W.fnOf "caught" "Session.caught" (defArgs s_caught) (defBody s_caught) (defScope s_caught) .none kV_caught dc_caught pm_caught an_caught cd_caught ct_caught), sl_caught⟩)
    (mc_caught : PySem.W.codeIn K cd_caught "Session.caught" = true)
    (mk_caught : PySem.W.keepIn K (.ref g_caught) = true)
    (ma_ways : PySem.W.findIn K (.ref C) "ways" = some (some (.ref g_ways)))
    (mi_ways : PySem.W.isFn K (.ref g_ways) = true)
    (ml_ways : K.lookup g_ways = some ⟨oc_ways, od_ways, .func (PySem.W.fnOf "ways" "Session.ways" (defArgs s_ways) (defBody s_ways) (defScope s_ways) .none kV_ways dc_ways pm_ways an_ways cd_ways ct_ways), sl_ways⟩)
    (mc_ways : PySem.W.codeIn K cd_ways "Session.ways" = true)
    (mk_ways : PySem.W.keepIn K (.ref g_ways) = true)
    (ma_way : PySem.W.findIn K (.ref C) "way" = some (some (.ref g_way)))
    (mi_way : PySem.W.isFn K (.ref g_way) = true)
    (ml_way : K.lookup g_way = some ⟨oc_way, od_way, .func (PySem.W.fnOf "way" "Session.way" (defArgs s_way) (defBody s_way) (defScope s_way) .none kV_way dc_way pm_way an_way cd_way ct_way), sl_way⟩)
    (mc_way : PySem.W.codeIn K cd_way "Session.way" = true)
    (mk_way : PySem.W.keepIn K (.ref g_way) = true)
    (ma_may : PySem.W.findIn K (.ref C) "may" = some (some (.ref g_may)))
    (mi_may : PySem.W.isFn K (.ref g_may) = true)
    (ml_may : K.lookup g_may = some ⟨oc_may, od_may, .func (PySem.W.fnOf "may" "Session.may" (defArgs s_may) (defBody s_may) (defScope s_may) .none kV_may dc_may pm_may an_may cd_may ct_may), sl_may⟩)
    (mc_may : PySem.W.codeIn K cd_may "Session.may" = true)
    (mk_may : PySem.W.keepIn K (.ref g_may) = true)
    (ma_order : PySem.W.findIn K (.ref C) "order" = some (some (.ref g_order)))
    (mi_order : PySem.W.isFn K (.ref g_order) = true)
    (ml_order : K.lookup g_order = some ⟨oc_order, od_order, .func (PySem.W.fnOf "order" "Session.order" (defArgs s_order) (defBody s_order) (defScope s_order) .none kV_order dc_order pm_order an_order cd_order ct_order), sl_order⟩)
    (mc_order : PySem.W.codeIn K cd_order "Session.order" = true)
    (mk_order : PySem.W.keepIn K (.ref g_order) = true)
    (ma_matters : PySem.W.findIn K (.ref C) "matters" = some (some (.ref g_matters)))
    (mi_matters : PySem.W.isFn K (.ref g_matters) = true)
    (ml_matters : K.lookup g_matters = some ⟨oc_matters, od_matters, .func (PySem.W.fnOf "matters" "Session.matters" (defArgs s_matters) (defBody s_matters) (defScope s_matters) .none kV_matters dc_matters pm_matters an_matters cd_matters ct_matters), sl_matters⟩)
    (mc_matters : PySem.W.codeIn K cd_matters "Session.matters" = true)
    (mk_matters : PySem.W.keepIn K (.ref g_matters) = true)
    (ma_counts : PySem.W.findIn K (.ref C) "counts" = some (some (.ref g_counts)))
    (mi_counts : PySem.W.isFn K (.ref g_counts) = true)
    (ml_counts : K.lookup g_counts = some ⟨oc_counts, od_counts, .func (PySem.W.fnOf "counts" "Session.counts" (defArgs s_counts) (defBody s_counts) (defScope s_counts) .none kV_counts dc_counts pm_counts an_counts cd_counts ct_counts), sl_counts⟩)
    (mc_counts : PySem.W.codeIn K cd_counts "Session.counts" = true)
    (mk_counts : PySem.W.keepIn K (.ref g_counts) = true)
    (ma_bound : PySem.W.findIn K (.ref C) "bound" = some (some (.ref g_bound)))
    (mi_bound : PySem.W.isFn K (.ref g_bound) = true)
    (ml_bound : K.lookup g_bound = some ⟨oc_bound, od_bound, .func (PySem.W.fnOf "bound" "Session.bound" (defArgs s_bound) (defBody s_bound) (defScope s_bound) .none kV_bound dc_bound pm_bound an_bound cd_bound ct_bound), sl_bound⟩)
    (mc_bound : PySem.W.codeIn K cd_bound "Session.bound" = true)
    (mk_bound : PySem.W.keepIn K (.ref g_bound) = true)
    (ma_state : PySem.W.findIn K (.ref C) "state" = some (some (.ref g_state)))
    (mi_state : PySem.W.isFn K (.ref g_state) = true)
    (ml_state : K.lookup g_state = some ⟨oc_state, od_state, .func (PySem.W.fnOf "state" "Session.state" (defArgs s_state) (defBody s_state) (defScope s_state) .none kV_state dc_state pm_state an_state cd_state ct_state), sl_state⟩)
    (mc_state : PySem.W.codeIn K cd_state "Session.state" = true)
    (mk_state : PySem.W.keepIn K (.ref g_state) = true)
    : ∃ C, Txt K mg C ∧ TxI K mg C "Session" "Session.__init__" s_init ["self"] ∧ TxM K C "has_begun" "Session.has_begun" s_has_begun ["self"] ∧ TxM K C "are_propositions" "Session.are_propositions" s_are_propositions ["self", "numbers"] ∧ TxM K C "begin" "Session.begin" s_begin ["self", "letters", "known", "laid"] ∧ TxM K C "lay" "Session.lay" s_lay ["self", "p"] ∧ TxM K C "learn" "Session.learn" s_learn ["self", "worlds"] ∧ TxM K C "alone" "Session.alone" s_alone ["self", "p"] ∧ TxM K C "alonerow" "Session.alonerow" s_alonerow ["self", "row"] ∧ TxM K C "along" "Session.along" s_along ["self", "row"] ∧ TxM K C "parts" "Session.parts" s_parts ["self", "row"] ∧ TxM K C "clash" "Session.clash" s_clash ["self", "p", "q"] ∧ TxM K C "clashes" "Session.clashes" s_clashes ["self"] ∧ TxM K C "nth" "Session.nth" s_nth ["self", "which"] ∧ TxM K C "partner" "Session.partner" s_partner ["self", "p"] ∧ TxM K C "caught" "Session.caught" s_caught ["self", "row"] ∧ TxM K C "ways" "Session.ways" s_ways ["self", "row"] ∧ TxM K C "way" "Session.way" s_way ["self", "which", "row"] ∧ TxM K C "may" "Session.may" s_may ["self", "place", "row"] ∧ TxM K C "order" "Session.order" s_order ["self", "place", "answer", "row"] ∧ TxM K C "matters" "Session.matters" s_matters ["self", "row"] ∧ TxM K C "counts" "Session.counts" s_counts ["self"] ∧ TxM K C "bound" "Session.bound" s_bound ["self", "p"] ∧ TxM K C "state" "Session.state" s_state ["self"] :=
  ⟨C, ⟨cst_mk X G c_NOT_BEGUN, cst_mk X G c_NOT_RIGHT, cst_mk X G c_CANNOT_BE, cst_mk X G c_DENIED, cst_mk X G c_CONCEDED, cst_mk X G c_DOUBTED, cst_mk X G c_NO_MATTER, cst_mk X G c_FOLLOWS, cst_mk X G c_AGAINST, cst_mk X G c_BEGIN, cst_mk X G c_LAY, cst_mk X G c_LEARN, cst_mk X G c_ALONE, cst_mk X G c_ALONEROW, cst_mk X G c_ALONG, cst_mk X G c_PARTS, cst_mk X G c_CLASH, cst_mk X G c_CLASHES, cst_mk X G c_NTH, cst_mk X G c_PARTNER, cst_mk X G c_WAYS, cst_mk X G c_WAY, cst_mk X G c_MAY, cst_mk X G c_ORDER, cst_mk X G c_COUNTS, cst_mk X G c_LONGEST_ROW, cst_mk X G c_LONGEST_ROW_IN_ALL_ORDERS, kd_mk X G da_WORLDS_BY_LETTERS dl_WORLDS_BY_LETTERS de_WORLDS_BY_LETTERS dc_WORLDS_BY_LETTERS ds_WORLDS_BY_LETTERS (by decide), kd_mk X G da_NUMBERS_AHEAD dl_NUMBERS_AHEAD de_NUMBERS_AHEAD dc_NUMBERS_AHEAD ds_NUMBERS_AHEAD (by decide), tup_mk X G ta_COUNTED tl_COUNTED te_COUNTED td_COUNTED tz_COUNTED tc_COUNTED, tup_mk X G ta_WITH_ROW tl_WITH_ROW te_WITH_ROW td_WITH_ROW tz_WITH_ROW tc_WITH_ROW, tup_mk X G ta_IN_ALL_ORDERS tl_IN_ALL_ORDERS te_IN_ALL_ORDERS td_IN_ALL_ORDERS tz_IN_ALL_ORDERS tc_IN_ALL_ORDERS, tup_mk X G ta_OF_PROPOSITIONS tl_OF_PROPOSITIONS te_OF_PROPOSITIONS td_OF_PROPOSITIONS tz_OF_PROPOSITIONS tc_OF_PROPOSITIONS, blt_mk X G b_all, blt_mk X G b_enumerate, blt_mk X G b_len, blt_mk X G b_list, blt_mk X G b_range, blt_mk X G b_sum, blt_mk X G b_tuple, ⟨pg, hd, po, sa⟩, f_letters, f_every, f_known, f_laid⟩, txI_mk X G aC ma___init__ mi___init__ ml___init__ mc___init__ mk___init__ mk kc (fun _ _ _ _ _ _ us hl => match us, hl with | [_], _ => rfl), txM_mk ma_has_begun mi_has_begun ml_has_begun mc_has_begun mk_has_begun (fun _ _ _ _ _ _ us hl => match us, hl with | [_], _ => rfl), txM_mk ma_are_propositions mi_are_propositions ml_are_propositions mc_are_propositions mk_are_propositions (fun _ _ _ _ _ _ us hl => match us, hl with | [_, _], _ => rfl), txM_mk ma_begin mi_begin ml_begin mc_begin mk_begin (fun _ _ _ _ _ _ us hl => match us, hl with | [_, _, _, _], _ => rfl), txM_mk ma_lay mi_lay ml_lay mc_lay mk_lay (fun _ _ _ _ _ _ us hl => match us, hl with | [_, _], _ => rfl), txM_mk ma_learn mi_learn ml_learn mc_learn mk_learn (fun _ _ _ _ _ _ us hl => match us, hl with | [_, _], _ => rfl), txM_mk ma_alone mi_alone ml_alone mc_alone mk_alone (fun _ _ _ _ _ _ us hl => match us, hl with | [_, _], _ => rfl), txM_mk ma_alonerow mi_alonerow ml_alonerow mc_alonerow mk_alonerow (fun _ _ _ _ _ _ us hl => match us, hl with | [_, _], _ => rfl), txM_mk ma_along mi_along ml_along mc_along mk_along (fun _ _ _ _ _ _ us hl => match us, hl with | [_, _], _ => rfl), txM_mk ma_parts mi_parts ml_parts mc_parts mk_parts (fun _ _ _ _ _ _ us hl => match us, hl with | [_, _], _ => rfl), txM_mk ma_clash mi_clash ml_clash mc_clash mk_clash (fun _ _ _ _ _ _ us hl => match us, hl with | [_, _, _], _ => rfl), txM_mk ma_clashes mi_clashes ml_clashes mc_clashes mk_clashes (fun _ _ _ _ _ _ us hl => match us, hl with | [_], _ => rfl), txM_mk ma_nth mi_nth ml_nth mc_nth mk_nth (fun _ _ _ _ _ _ us hl => match us, hl with | [_, _], _ => rfl), txM_mk ma_partner mi_partner ml_partner mc_partner mk_partner (fun _ _ _ _ _ _ us hl => match us, hl with | [_, _], _ => rfl), txM_mk ma_caught mi_caught ml_caught mc_caught mk_caught (fun _ _ _ _ _ _ us hl => match us, hl with | [_, _], _ => rfl), txM_mk ma_ways mi_ways ml_ways mc_ways mk_ways (fun _ _ _ _ _ _ us hl => match us, hl with | [_, _], _ => rfl), txM_mk ma_way mi_way ml_way mc_way mk_way (fun _ _ _ _ _ _ us hl => match us, hl with | [_, _, _], _ => rfl), txM_mk ma_may mi_may ml_may mc_may mk_may (fun _ _ _ _ _ _ us hl => match us, hl with | [_, _, _], _ => rfl), txM_mk ma_order mi_order ml_order mc_order mk_order (fun _ _ _ _ _ _ us hl => match us, hl with | [_, _, _, _], _ => rfl), txM_mk ma_matters mi_matters ml_matters mc_matters mk_matters (fun _ _ _ _ _ _ us hl => match us, hl with | [_, _], _ => rfl), txM_mk ma_counts mi_counts ml_counts mc_counts mk_counts (fun _ _ _ _ _ _ us hl => match us, hl with | [_], _ => rfl), txM_mk ma_bound mi_bound ml_bound mc_bound mk_bound (fun _ _ _ _ _ _ us hl => match us, hl with | [_, _], _ => rfl), txM_mk ma_state mi_state ml_state mc_state mk_state (fun _ _ _ _ _ _ us hl => match us, hl with | [_], _ => rfl)⟩
section
open PySem.W (Codec WData)
variable {P : Program} {w : World} {K : PySem.W.Frag} {mg : Str → Option Value} {C : Addr}
theorem chain {fa : Addr} (hmg : mg "answers" = some (.ref fa)) (T : Txt K mg C)
    (M___init__ : TxI K mg C "Session" "Session.__init__" s_init ["self"])
    (M_has_begun : TxM K C "has_begun" "Session.has_begun" s_has_begun ["self"])
    (M_are_propositions : TxM K C "are_propositions" "Session.are_propositions" s_are_propositions ["self", "numbers"])
    (M_begin : TxM K C "begin" "Session.begin" s_begin ["self", "letters", "known", "laid"])
    (M_lay : TxM K C "lay" "Session.lay" s_lay ["self", "p"])
    (M_learn : TxM K C "learn" "Session.learn" s_learn ["self", "worlds"])
    (M_alone : TxM K C "alone" "Session.alone" s_alone ["self", "p"])
    (M_alonerow : TxM K C "alonerow" "Session.alonerow" s_alonerow ["self", "row"])
    (M_along : TxM K C "along" "Session.along" s_along ["self", "row"])
    (M_parts : TxM K C "parts" "Session.parts" s_parts ["self", "row"])
    (M_clash : TxM K C "clash" "Session.clash" s_clash ["self", "p", "q"])
    (M_clashes : TxM K C "clashes" "Session.clashes" s_clashes ["self"])
    (M_nth : TxM K C "nth" "Session.nth" s_nth ["self", "which"])
    (M_partner : TxM K C "partner" "Session.partner" s_partner ["self", "p"])
    (M_caught : TxM K C "caught" "Session.caught" s_caught ["self", "row"])
    (M_ways : TxM K C "ways" "Session.ways" s_ways ["self", "row"])
    (M_way : TxM K C "way" "Session.way" s_way ["self", "which", "row"])
    (M_may : TxM K C "may" "Session.may" s_may ["self", "place", "row"])
    (M_order : TxM K C "order" "Session.order" s_order ["self", "place", "answer", "row"])
    (M_matters : TxM K C "matters" "Session.matters" s_matters ["self", "row"])
    (M_counts : TxM K C "counts" "Session.counts" s_counts ["self"])
    (M_bound : TxM K C "bound" "Session.bound" s_bound ["self", "p"])
    (M_state : TxM K C "state" "Session.state" s_state ["self"])
    (F_all_worlds : TxF K mg "all_worlds" s_all_worlds ["letters"])
    (F_how_many : TxF K mg "how_many" s_how_many ["worlds"])
    (F_bearing : TxF K mg "bearing" s_bearing ["p", "stand"])
    (F_answer_by_one_set : TxF K mg "answer_by_one_set" s_answer_by_one_set ["p", "worlds"])
    (F_answer_by : TxF K mg "answer_by" s_answer_by ["p", "stand", "known"])
    (F_still_standing : TxF K mg "still_standing" s_still_standing ["stand", "p", "answer"])
    (F_row_alone : TxF K mg "row_alone" s_row_alone ["row", "laid", "known"])
    (F_row_along : TxF K mg "row_along" s_row_along ["row", "laid", "known"])
    (F_places_apart : TxF K mg "places_apart" s_places_apart ["row", "laid", "known"])
    (F_granted_alone : TxF K mg "granted_alone" s_granted_alone ["row", "laid", "known"])
    (F_counts_alone : TxF K mg "counts_alone" s_counts_alone ["every", "laid", "known"])
    (F_two_clash : TxF K mg "two_clash" s_two_clash ["p", "q", "laid", "known"])
    (F_partners : TxF K mg "partners" s_partners ["p", "every", "laid", "known"])
    (F_clashing_pairs : TxF K mg "clashing_pairs" s_clashing_pairs ["every", "laid", "known"])
    (F_all_orders : TxF K mg "all_orders" s_all_orders ["size"])
    (F_way_by_order : TxF K mg "way_by_order" s_way_by_order ["row", "order", "laid", "known"])
    (F_first_orders_by_way : TxF K mg "first_orders_by_way" s_first_orders_by_way ["row", "laid", "known"])
    (F_answers_as_set : TxF K mg "answers_as_set" s_answers_as_set ["given"])
    (F_answers : TxF K mg "answers" s_answers ["calls"])
    (F_answer_call : TxF K mg "answer_call" s_answer_call ["session", "number", "numbers", "row"])
    (F_answer_bare : TxF K mg "answer_bare" s_answer_bare ["session", "number"])
    (F_answer_propositions : TxF K mg "answer_propositions" s_answer_propositions ["session", "number", "props"])
    (F_answer_row : TxF K mg "answer_row" s_answer_row ["session", "number", "row"])
    (F_answer_in_all_orders : TxF K mg "answer_in_all_orders" s_answer_in_all_orders ["session", "number", "numbers", "row"]) :
    ∃ fd : FuncData, (∀ (s : Shared) (us : List Value), us.length = (["calls"] : List Str).length → BindsTo s fd ⟨us, []⟩ ((["calls"] : List Str).zip us)) ∧ ∀ base : Heap, K.In base → base.Ns mainGlobals mg → FnOk P w K mg base CX0 12 fa fd ["calls"] (sp_answers K) := by
  obtain ⟨f, fd, F, hm, hb⟩ := F_answers
  have e := hmg.symm.trans hm
  cases e
  have F' := F
  obtain ⟨oc, od, kV, doc, pm, an, cdv, ct, osl, rfl, lk, hcd⟩ := F'.ex
  refine ⟨PySem.W.fnOf "answers" "answers" (defArgs s_answers) (defBody s_answers) (defScope s_answers) .none kV doc pm an cdv ct, fun s us hu => match us, hu with | [_], _ => .of_eq rfl, fun base _ _ => ?_⟩
  have c1 : Cal P w K mg base 1 "all_worlds" ["letters"] sp_all_worlds := ok_all_worlds F_all_worlds T
  have c2 : Cal P w K mg base 1 "how_many" ["worlds"] sp_how_many := ok_how_many F_how_many
  have c3 : Cal P w K mg base 1 "bearing" ["p", "stand"] sp_bearing := ok_bearing F_bearing T
  have c4 : Cal P w K mg base 2 "answer_by_one_set" ["p", "worlds"] sp_one := ok_answer_by_one_set F_answer_by_one_set T c3
  have c5 : Cal P w K mg base 3 "answer_by" ["p", "stand", "known"] sp_answer_by := ok_answer_by F_answer_by T (c3.up (by decide)) c4
  have c6 : Cal P w K mg base 1 "still_standing" ["stand", "p", "answer"] sp_still := ok_still_standing F_still_standing T
  have c7 : Cal P w K mg base 4 "row_alone" ["row", "laid", "known"] (sp_row_alone K) := ok_row_alone F_row_alone T c5
  have c8 : Cal P w K mg base 4 "row_along" ["row", "laid", "known"] (sp_row_along K) := ok_row_along F_row_along T c5 (c6.up (by decide))
  have c9 : Cal P w K mg base 5 "places_apart" ["row", "laid", "known"] (sp_places_apart K) := ok_places_apart F_places_apart T c7 c8
  have c16 : Cal P w K mg base 4 "granted_alone" ["row", "laid", "known"] (sp_granted K) := ok_granted_alone F_granted_alone T c5 (c6.up (by decide))
  have c17 : Cal P w K mg base 5 "counts_alone" ["every", "laid", "known"] sp_counts_alone := ok_counts_alone F_counts_alone T c7
  have c10 : Cal P w K mg base 5 "two_clash" ["p", "q", "laid", "known"] sp_two_clash := ok_two_clash F_two_clash T c7
  have c18 : Cal P w K mg base 6 "partners" ["p", "every", "laid", "known"] sp_partners := ok_partners F_partners T c10
  have c11 : Cal P w K mg base 4 "clashing_pairs" ["every", "laid", "known"] sp_clashing_pairs := ok_clashing_pairs F_clashing_pairs T c5
  have c19 : Cal P w K mg base 1 "all_orders" ["size"] sp_all_orders := ok_all_orders F_all_orders T
  have c20 : Cal P w K mg base 5 "way_by_order" ["row", "order", "laid", "known"] (sp_way K) := ok_way_by_order F_way_by_order T c8
  have c21 : Cal P w K mg base 6 "first_orders_by_way" ["row", "laid", "known"] (sp_first K) := ok_first_orders F_first_orders_by_way T (c19.up (by decide)) c20
  have c22 : Cal P w K mg base 1 "answers_as_set" ["given"] (sp_set K) := ok_answers_as_set F_answers_as_set T
  have d0 : Mkr P w K mg base C 1 "Session" ["self"] (sp_init C) := ok_init M___init__ T
  have d1 : Mth P w K mg base C 1 "has_begun" ["self"] (sp_has_begun C) := ok_has_begun M_has_begun T
  have d2 : Mth P w K mg base C 1 "are_propositions" ["self", "numbers"] (sp_are C K) := ok_are M_are_propositions T
  have d4 : Mth P w K mg base C 3 "lay" ["self", "p"] (sp_lay C) := ok_lay M_lay T c4
  have d3 : Mth P w K mg base C 4 "begin" ["self", "letters", "known", "laid"] (sp_begin C) := ok_begin M_begin T (c1.up (by decide)) d4
  have d5 : Mth P w K mg base C 2 "learn" ["self", "worlds"] (sp_one_p C .learn) := ok_learn M_learn T c2
  have d6 : Mth P w K mg base C 4 "alone" ["self", "p"] (sp_one_p C .alone) := ok_alone M_alone T c5 (c3.up (by decide))
  have d7 : Mth P w K mg base C 5 "alonerow" ["self", "row"] (sp_row_c C .aloneRow) := ok_alonerow M_alonerow T c7
  have d8 : Mth P w K mg base C 5 "along" ["self", "row"] (sp_row_c C .along) := ok_along M_along T c8
  have d9 : Mth P w K mg base C 6 "parts" ["self", "row"] (sp_row_c C .parts) := ok_parts M_parts T c9
  have d10 : Mth P w K mg base C 6 "clash" ["self", "p", "q"] (sp_two_p C .clash) := ok_clash M_clash T c10
  have d11 : Mth P w K mg base C 5 "clashes" ["self"] (sp_no C .clashes) := ok_clashes M_clashes T c11
  have d12 : Mth P w K mg base C 5 "nth" ["self", "which"] (sp_any_k C .nth) := ok_nth M_nth T c11
  have d13 : Mth P w K mg base C 7 "partner" ["self", "p"] (sp_one_p C .partner) := ok_partner M_partner T c18
  have d14 : Mth P w K mg base C 5 "caught" ["self", "row"] (sp_row_c C .caught) := ok_caught M_caught T c16 (c2.up (by decide))
  have d15 : Mth P w K mg base C 7 "ways" ["self", "row"] (sp_row5 C .ways) := ok_ways M_ways T c21
  have d16 : Mth P w K mg base C 7 "way" ["self", "which", "row"] (sp_k_row C .way) := ok_way M_way T c21
  have d17 : Mth P w K mg base C 7 "may" ["self", "place", "row"] (sp_k_row C .may) := ok_may M_may T c21 (c22.up (by decide))
  have d18 : Mth P w K mg base C 7 "order" ["self", "place", "answer", "row"] (sp_order C) := ok_order M_order T c21
  have d19 : Mth P w K mg base C 7 "matters" ["self", "row"] (sp_row5 C .matters) := ok_matters M_matters T c21
  have d20 : Mth P w K mg base C 6 "counts" ["self"] (sp_no C .counts) := ok_counts M_counts T c17
  have d21 : Mth P w K mg base C 2 "bound" ["self", "p"] (sp_one_p C .bound) := ok_bound M_bound T c3
  have d22 : Mth P w K mg base C 1 "state" ["self"] (sp_no C .state) := ok_state M_state T
  have a1 : Cal P w K mg base 7 "answer_bare" ["session", "number"] (sp_abare C) := ok_answer_bare F_answer_bare T (d11.up (by decide)) d20 (d22.up (by decide))
  have a2 : Cal P w K mg base 8 "answer_propositions" ["session", "number", "props"] (sp_aprops C) := ok_answer_propositions F_answer_propositions T (d2.up (by decide)) (d4.up (by decide)) (d5.up (by decide)) (d6.up (by decide)) (d10.up (by decide)) d13 (d21.up (by decide))
  have a3 : Cal P w K mg base 7 "answer_row" ["session", "number", "row"] (sp_arow C) := ok_answer_row F_answer_row T (d2.up (by decide)) (d7.up (by decide)) (d8.up (by decide)) d9 (d14.up (by decide))
  have a4 : Cal P w K mg base 8 "answer_in_all_orders" ["session", "number", "numbers", "row"] (sp_afew C) := ok_answer_in_all_orders F_answer_in_all_orders T (d2.up (by decide)) d15 d16 d17 d18 d19
  have a5 : Cal P w K mg base 9 "answer_call" ["session", "number", "numbers", "row"] (sp_call C) := ok_answer_call F_answer_call T (d3.up (by decide)) (d1.up (by decide)) (d12.up (by decide)) a4 (a3.up (by decide)) a2 (a1.up (by decide))
  exact (F.ok sc_answers len_answers (body_answers T (d0.up (by decide)) a5 fa)).mono (by decide)
theorem inInt_lo {hi x : Int} (h : PySem.W.Codec.inInt 0 hi x = true) : 0 ≤ x := of_decide_eq_true (Bool.and_eq_true_iff.mp h).1
theorem last {K : PySem.W.Frag} {H : Hp} {a : Addr} {ns : List Int} (hs : SqL K H a (ns.map V.int)) (hl : ns.length ≤ 12000) (h0 : ∀ x ∈ ns, 0 ≤ x) (hask : PyKrb8.answers_asked ns = true) {Q : VK} {E : XK} (q : ∀ H' p, H' p = some (.lst ((PyKrb8.answers ns).map V.int)) → Q (.ref p) H') : sp_answers K [.ref a] H Q E := by
  obtain ⟨xs, rfl⟩ := zs_of h0
  obtain ⟨cs, h1, h2, h3⟩ := asked_inv hask
  rw [zs_iV] at hs
  rw [zs_len] at hl
  refine ⟨a, xs, _, cs, rfl, hs, hl, h1, h3, ?_⟩
  rw [← answers_eq h1]
  exact q
end
end Ld
/-! The head lays twins of its own constants for speed. Those of the nine greatest are not wanted here: their names are taken, so that the compiled text stays small. -/
def PySem.W.Fast.tw11483393004911362110 : Nat := 0
def PySem.W.Fast.tw6687024130270024936 : Nat := 0
def PySem.W.Fast.tw9954163563593324983 : Nat := 0
def PySem.W.Fast.tw5182003687050141586 : Nat := 0
def PySem.W.Fast.tw8152888921214874946 : Nat := 0
def PySem.W.Fast.tw2160655863330211379 : Nat := 0
def PySem.W.Fast.tw17545948542060118020 : Nat := 0
def PySem.W.Fast.tw7163133076877516636 : Nat := 0
def PySem.W.Fast.tw6827872587526813635 : Nat := 0
open PySem PySem.W PyProof.Rows
set_option Elab.async false
set_option linter.all false
set_option maxRecDepth 100000 in
set_option maxHeartbeats 0 in
theorem PySem.Challenge.cw_laiddown_s01_answers_holds : PySem.Challenge.rw_laiddown_s01_answers.Holds := by
  w_on; k_headS; (case hw => exact ⟨[.list []], by decide +kernel, by decide +kernel⟩)
  k_fillS
  refine L2.walk_specK (r := PySem.Challenge.rw_laiddown_s01_answers) (k := 12) (CX := L2.CX0) (ps := ["calls"]) (sp := Ld.sp_answers) (by decide +kernel) rfl rfl ⟨rfl, by decide, by decide⟩ (fun w h Y => PySem.W.kIn_of Y) ?F ?S (fun _ _ _ _ z => z)
  case F =>
    intro w mg fa h Y KX G hmg
    have hT : ∃ C, Ld.Txt (L2.KOf KX) mg C ∧ L2.TxI (L2.KOf KX) mg C "Session" "Session.__init__" Ld.s_init ["self"] ∧ L2.TxM (L2.KOf KX) C "has_begun" "Session.has_begun" Ld.s_has_begun ["self"] ∧ L2.TxM (L2.KOf KX) C "are_propositions" "Session.are_propositions" Ld.s_are_propositions ["self", "numbers"] ∧ L2.TxM (L2.KOf KX) C "begin" "Session.begin" Ld.s_begin ["self", "letters", "known", "laid"] ∧ L2.TxM (L2.KOf KX) C "lay" "Session.lay" Ld.s_lay ["self", "p"] ∧ L2.TxM (L2.KOf KX) C "learn" "Session.learn" Ld.s_learn ["self", "worlds"] ∧ L2.TxM (L2.KOf KX) C "alone" "Session.alone" Ld.s_alone ["self", "p"] ∧ L2.TxM (L2.KOf KX) C "alonerow" "Session.alonerow" Ld.s_alonerow ["self", "row"] ∧ L2.TxM (L2.KOf KX) C "along" "Session.along" Ld.s_along ["self", "row"] ∧ L2.TxM (L2.KOf KX) C "parts" "Session.parts" Ld.s_parts ["self", "row"] ∧ L2.TxM (L2.KOf KX) C "clash" "Session.clash" Ld.s_clash ["self", "p", "q"] ∧ L2.TxM (L2.KOf KX) C "clashes" "Session.clashes" Ld.s_clashes ["self"] ∧ L2.TxM (L2.KOf KX) C "nth" "Session.nth" Ld.s_nth ["self", "which"] ∧ L2.TxM (L2.KOf KX) C "partner" "Session.partner" Ld.s_partner ["self", "p"] ∧ L2.TxM (L2.KOf KX) C "caught" "Session.caught" Ld.s_caught ["self", "row"] ∧ L2.TxM (L2.KOf KX) C "ways" "Session.ways" Ld.s_ways ["self", "row"] ∧ L2.TxM (L2.KOf KX) C "way" "Session.way" Ld.s_way ["self", "which", "row"] ∧ L2.TxM (L2.KOf KX) C "may" "Session.may" Ld.s_may ["self", "place", "row"] ∧ L2.TxM (L2.KOf KX) C "order" "Session.order" Ld.s_order ["self", "place", "answer", "row"] ∧ L2.TxM (L2.KOf KX) C "matters" "Session.matters" Ld.s_matters ["self", "row"] ∧ L2.TxM (L2.KOf KX) C "counts" "Session.counts" Ld.s_counts ["self"] ∧ L2.TxM (L2.KOf KX) C "bound" "Session.bound" Ld.s_bound ["self", "p"] ∧ L2.TxM (L2.KOf KX) C "state" "Session.state" Ld.s_state ["self"] := by
      dsimp only [L2.KOf]
      refine' Ld.txt_mk KX G ?aC ?pg ?hd ?po ?sa ?mk ?kc ?f_letters ?f_every ?f_known ?f_laid ?c_NOT_BEGUN ?c_NOT_RIGHT ?c_CANNOT_BE ?c_DENIED ?c_CONCEDED ?c_DOUBTED ?c_NO_MATTER ?c_FOLLOWS ?c_AGAINST ?c_BEGIN ?c_LAY ?c_LEARN ?c_ALONE ?c_ALONEROW ?c_ALONG ?c_PARTS ?c_CLASH ?c_CLASHES ?c_NTH ?c_PARTNER ?c_WAYS ?c_WAY ?c_MAY ?c_ORDER ?c_COUNTS ?c_LONGEST_ROW ?c_LONGEST_ROW_IN_ALL_ORDERS ?b_all ?b_enumerate ?b_len ?b_list ?b_range ?b_sum ?b_tuple ?da_WORLDS_BY_LETTERS ?dl_WORLDS_BY_LETTERS ?de_WORLDS_BY_LETTERS ?dc_WORLDS_BY_LETTERS ?ds_WORLDS_BY_LETTERS ?da_NUMBERS_AHEAD ?dl_NUMBERS_AHEAD ?de_NUMBERS_AHEAD ?dc_NUMBERS_AHEAD ?ds_NUMBERS_AHEAD ?ta_COUNTED ?tl_COUNTED ?te_COUNTED ?td_COUNTED ?tz_COUNTED ?tc_COUNTED ?ta_WITH_ROW ?tl_WITH_ROW ?te_WITH_ROW ?td_WITH_ROW ?tz_WITH_ROW ?tc_WITH_ROW ?ta_IN_ALL_ORDERS ?tl_IN_ALL_ORDERS ?te_IN_ALL_ORDERS ?td_IN_ALL_ORDERS ?tz_IN_ALL_ORDERS ?tc_IN_ALL_ORDERS ?ta_OF_PROPOSITIONS ?tl_OF_PROPOSITIONS ?te_OF_PROPOSITIONS ?td_OF_PROPOSITIONS ?tz_OF_PROPOSITIONS ?tc_OF_PROPOSITIONS ?ma___init__ ?mi___init__ ?ml___init__ ?mc___init__ ?mk___init__ ?ma_has_begun ?mi_has_begun ?ml_has_begun ?mc_has_begun ?mk_has_begun ?ma_are_propositions ?mi_are_propositions ?ml_are_propositions ?mc_are_propositions ?mk_are_propositions ?ma_begin ?mi_begin ?ml_begin ?mc_begin ?mk_begin ?ma_lay ?mi_lay ?ml_lay ?mc_lay ?mk_lay ?ma_learn ?mi_learn ?ml_learn ?mc_learn ?mk_learn ?ma_alone ?mi_alone ?ml_alone ?mc_alone ?mk_alone ?ma_alonerow ?mi_alonerow ?ml_alonerow ?mc_alonerow ?mk_alonerow ?ma_along ?mi_along ?ml_along ?mc_along ?mk_along ?ma_parts ?mi_parts ?ml_parts ?mc_parts ?mk_parts ?ma_clash ?mi_clash ?ml_clash ?mc_clash ?mk_clash ?ma_clashes ?mi_clashes ?ml_clashes ?mc_clashes ?mk_clashes ?ma_nth ?mi_nth ?ml_nth ?mc_nth ?mk_nth ?ma_partner ?mi_partner ?ml_partner ?mc_partner ?mk_partner ?ma_caught ?mi_caught ?ml_caught ?mc_caught ?mk_caught ?ma_ways ?mi_ways ?ml_ways ?mc_ways ?mk_ways ?ma_way ?mi_way ?ml_way ?mc_way ?mk_way ?ma_may ?mi_may ?ml_may ?mc_may ?mk_may ?ma_order ?mi_order ?ml_order ?mc_order ?mk_order ?ma_matters ?mi_matters ?ml_matters ?mc_matters ?mk_matters ?ma_counts ?mi_counts ?ml_counts ?mc_counts ?mk_counts ?ma_bound ?mi_bound ?ml_bound ?mc_bound ?mk_bound ?ma_state ?mi_state ?ml_state ?mc_state ?mk_state
      (case aC => k_is)
      (case pg => k_is)
      (case hd => k_is)
      (case po => k_is)
      (case sa => k_is)
      (case mk => k_is)
      (case kc => k_is)
      (case f_letters => k_is)
      (case f_every => k_is)
      (case f_known => k_is)
      (case f_laid => k_is)
      (case c_NOT_BEGUN => k_is)
      (case c_NOT_RIGHT => k_is)
      (case c_CANNOT_BE => k_is)
      (case c_DENIED => k_is)
      (case c_CONCEDED => k_is)
      (case c_DOUBTED => k_is)
      (case c_NO_MATTER => k_is)
      (case c_FOLLOWS => k_is)
      (case c_AGAINST => k_is)
      (case c_BEGIN => k_is)
      (case c_LAY => k_is)
      (case c_LEARN => k_is)
      (case c_ALONE => k_is)
      (case c_ALONEROW => k_is)
      (case c_ALONG => k_is)
      (case c_PARTS => k_is)
      (case c_CLASH => k_is)
      (case c_CLASHES => k_is)
      (case c_NTH => k_is)
      (case c_PARTNER => k_is)
      (case c_WAYS => k_is)
      (case c_WAY => k_is)
      (case c_MAY => k_is)
      (case c_ORDER => k_is)
      (case c_COUNTS => k_is)
      (case c_LONGEST_ROW => k_is)
      (case c_LONGEST_ROW_IN_ALL_ORDERS => k_is)
      (case b_all => k_is)
      (case b_enumerate => k_is)
      (case b_len => k_is)
      (case b_list => k_is)
      (case b_range => k_is)
      (case b_sum => k_is)
      (case b_tuple => k_is)
      (case da_WORLDS_BY_LETTERS => k_is)
      (case dl_WORLDS_BY_LETTERS => k_is)
      (case de_WORLDS_BY_LETTERS => exact ⟨rfl, rfl, rfl⟩)
      (case dc_WORLDS_BY_LETTERS => first | rfl | decide +kernel)
      (case ds_WORLDS_BY_LETTERS => decide)
      (case da_NUMBERS_AHEAD => k_is)
      (case dl_NUMBERS_AHEAD => k_is)
      (case de_NUMBERS_AHEAD => exact ⟨rfl, rfl, rfl⟩)
      (case dc_NUMBERS_AHEAD => first | rfl | decide +kernel)
      (case ds_NUMBERS_AHEAD => decide)
      (case ta_COUNTED => k_is)
      (case tl_COUNTED => k_is)
      (case te_COUNTED => exact rfl)
      (case td_COUNTED => exact rfl)
      (case tz_COUNTED => decide)
      (case tc_COUNTED => first | rfl | decide +kernel)
      (case ta_WITH_ROW => k_is)
      (case tl_WITH_ROW => k_is)
      (case te_WITH_ROW => exact rfl)
      (case td_WITH_ROW => exact rfl)
      (case tz_WITH_ROW => decide)
      (case tc_WITH_ROW => first | rfl | decide +kernel)
      (case ta_IN_ALL_ORDERS => k_is)
      (case tl_IN_ALL_ORDERS => k_is)
      (case te_IN_ALL_ORDERS => exact rfl)
      (case td_IN_ALL_ORDERS => exact rfl)
      (case tz_IN_ALL_ORDERS => decide)
      (case tc_IN_ALL_ORDERS => first | rfl | decide +kernel)
      (case ta_OF_PROPOSITIONS => k_is)
      (case tl_OF_PROPOSITIONS => k_is)
      (case te_OF_PROPOSITIONS => exact rfl)
      (case td_OF_PROPOSITIONS => exact rfl)
      (case tz_OF_PROPOSITIONS => decide)
      (case tc_OF_PROPOSITIONS => first | rfl | decide +kernel)
      (case ma___init__ => k_is)
      (case mi___init__ => k_is)
      (case ml___init__ => k_is)
      (case mc___init__ => k_is)
      (case mk___init__ => k_is)
      (case ma_has_begun => k_is)
      (case mi_has_begun => k_is)
      (case ml_has_begun => k_is)
      (case mc_has_begun => k_is)
      (case mk_has_begun => k_is)
      (case ma_are_propositions => k_is)
      (case mi_are_propositions => k_is)
      (case ml_are_propositions => k_is)
      (case mc_are_propositions => k_is)
      (case mk_are_propositions => k_is)
      (case ma_begin => k_is)
      (case mi_begin => k_is)
      (case ml_begin => k_is)
      (case mc_begin => k_is)
      (case mk_begin => k_is)
      (case ma_lay => k_is)
      (case mi_lay => k_is)
      (case ml_lay => k_is)
      (case mc_lay => k_is)
      (case mk_lay => k_is)
      (case ma_learn => k_is)
      (case mi_learn => k_is)
      (case ml_learn => k_is)
      (case mc_learn => k_is)
      (case mk_learn => k_is)
      (case ma_alone => k_is)
      (case mi_alone => k_is)
      (case ml_alone => k_is)
      (case mc_alone => k_is)
      (case mk_alone => k_is)
      (case ma_alonerow => k_is)
      (case mi_alonerow => k_is)
      (case ml_alonerow => k_is)
      (case mc_alonerow => k_is)
      (case mk_alonerow => k_is)
      (case ma_along => k_is)
      (case mi_along => k_is)
      (case ml_along => k_is)
      (case mc_along => k_is)
      (case mk_along => k_is)
      (case ma_parts => k_is)
      (case mi_parts => k_is)
      (case ml_parts => k_is)
      (case mc_parts => k_is)
      (case mk_parts => k_is)
      (case ma_clash => k_is)
      (case mi_clash => k_is)
      (case ml_clash => k_is)
      (case mc_clash => k_is)
      (case mk_clash => k_is)
      (case ma_clashes => k_is)
      (case mi_clashes => k_is)
      (case ml_clashes => k_is)
      (case mc_clashes => k_is)
      (case mk_clashes => k_is)
      (case ma_nth => k_is)
      (case mi_nth => k_is)
      (case ml_nth => k_is)
      (case mc_nth => k_is)
      (case mk_nth => k_is)
      (case ma_partner => k_is)
      (case mi_partner => k_is)
      (case ml_partner => k_is)
      (case mc_partner => k_is)
      (case mk_partner => k_is)
      (case ma_caught => k_is)
      (case mi_caught => k_is)
      (case ml_caught => k_is)
      (case mc_caught => k_is)
      (case mk_caught => k_is)
      (case ma_ways => k_is)
      (case mi_ways => k_is)
      (case ml_ways => k_is)
      (case mc_ways => k_is)
      (case mk_ways => k_is)
      (case ma_way => k_is)
      (case mi_way => k_is)
      (case ml_way => k_is)
      (case mc_way => k_is)
      (case mk_way => k_is)
      (case ma_may => k_is)
      (case mi_may => k_is)
      (case ml_may => k_is)
      (case mc_may => k_is)
      (case mk_may => k_is)
      (case ma_order => k_is)
      (case mi_order => k_is)
      (case ml_order => k_is)
      (case mc_order => k_is)
      (case mk_order => k_is)
      (case ma_matters => k_is)
      (case mi_matters => k_is)
      (case ml_matters => k_is)
      (case mc_matters => k_is)
      (case mk_matters => k_is)
      (case ma_counts => k_is)
      (case mi_counts => k_is)
      (case ml_counts => k_is)
      (case mc_counts => k_is)
      (case mk_counts => k_is)
      (case ma_bound => k_is)
      (case mi_bound => k_is)
      (case ml_bound => k_is)
      (case mc_bound => k_is)
      (case mk_bound => k_is)
      (case ma_state => k_is)
      (case mi_state => k_is)
      (case ml_state => k_is)
      (case mc_state => k_is)
      (case mk_state => k_is)
    obtain ⟨C, T, M___init__, M_has_begun, M_are_propositions, M_begin, M_lay, M_learn, M_alone, M_alonerow, M_along, M_parts, M_clash, M_clashes, M_nth, M_partner, M_caught, M_ways, M_way, M_may, M_order, M_matters, M_counts, M_bound, M_state⟩ := hT
    have F_all_worlds : L2.TxF (L2.KOf KX) mg "all_worlds" Ld.s_all_worlds ["letters"] := by
      dsimp only [L2.KOf]
      refine' L2.txF_mk KX G ?a ?l ?c ?k ?b
      (case a => k_is)
      (case l => k_is)
      (case c => k_is)
      (case k => k_is)
      (case b => exact fun _ _ _ _ _ _ us hl => match us, hl with | [_], _ => rfl)
    have F_how_many : L2.TxF (L2.KOf KX) mg "how_many" Ld.s_how_many ["worlds"] := by
      dsimp only [L2.KOf]
      refine' L2.txF_mk KX G ?a ?l ?c ?k ?b
      (case a => k_is)
      (case l => k_is)
      (case c => k_is)
      (case k => k_is)
      (case b => exact fun _ _ _ _ _ _ us hl => match us, hl with | [_], _ => rfl)
    have F_bearing : L2.TxF (L2.KOf KX) mg "bearing" Ld.s_bearing ["p", "stand"] := by
      dsimp only [L2.KOf]
      refine' L2.txF_mk KX G ?a ?l ?c ?k ?b
      (case a => k_is)
      (case l => k_is)
      (case c => k_is)
      (case k => k_is)
      (case b => exact fun _ _ _ _ _ _ us hl => match us, hl with | [_, _], _ => rfl)
    have F_answer_by_one_set : L2.TxF (L2.KOf KX) mg "answer_by_one_set" Ld.s_answer_by_one_set ["p", "worlds"] := by
      dsimp only [L2.KOf]
      refine' L2.txF_mk KX G ?a ?l ?c ?k ?b
      (case a => k_is)
      (case l => k_is)
      (case c => k_is)
      (case k => k_is)
      (case b => exact fun _ _ _ _ _ _ us hl => match us, hl with | [_, _], _ => rfl)
    have F_answer_by : L2.TxF (L2.KOf KX) mg "answer_by" Ld.s_answer_by ["p", "stand", "known"] := by
      dsimp only [L2.KOf]
      refine' L2.txF_mk KX G ?a ?l ?c ?k ?b
      (case a => k_is)
      (case l => k_is)
      (case c => k_is)
      (case k => k_is)
      (case b => exact fun _ _ _ _ _ _ us hl => match us, hl with | [_, _, _], _ => rfl)
    have F_still_standing : L2.TxF (L2.KOf KX) mg "still_standing" Ld.s_still_standing ["stand", "p", "answer"] := by
      dsimp only [L2.KOf]
      refine' L2.txF_mk KX G ?a ?l ?c ?k ?b
      (case a => k_is)
      (case l => k_is)
      (case c => k_is)
      (case k => k_is)
      (case b => exact fun _ _ _ _ _ _ us hl => match us, hl with | [_, _, _], _ => rfl)
    have F_row_alone : L2.TxF (L2.KOf KX) mg "row_alone" Ld.s_row_alone ["row", "laid", "known"] := by
      dsimp only [L2.KOf]
      refine' L2.txF_mk KX G ?a ?l ?c ?k ?b
      (case a => k_is)
      (case l => k_is)
      (case c => k_is)
      (case k => k_is)
      (case b => exact fun _ _ _ _ _ _ us hl => match us, hl with | [_, _, _], _ => rfl)
    have F_row_along : L2.TxF (L2.KOf KX) mg "row_along" Ld.s_row_along ["row", "laid", "known"] := by
      dsimp only [L2.KOf]
      refine' L2.txF_mk KX G ?a ?l ?c ?k ?b
      (case a => k_is)
      (case l => k_is)
      (case c => k_is)
      (case k => k_is)
      (case b => exact fun _ _ _ _ _ _ us hl => match us, hl with | [_, _, _], _ => rfl)
    have F_places_apart : L2.TxF (L2.KOf KX) mg "places_apart" Ld.s_places_apart ["row", "laid", "known"] := by
      dsimp only [L2.KOf]
      refine' L2.txF_mk KX G ?a ?l ?c ?k ?b
      (case a => k_is)
      (case l => k_is)
      (case c => k_is)
      (case k => k_is)
      (case b => exact fun _ _ _ _ _ _ us hl => match us, hl with | [_, _, _], _ => rfl)
    have F_granted_alone : L2.TxF (L2.KOf KX) mg "granted_alone" Ld.s_granted_alone ["row", "laid", "known"] := by
      dsimp only [L2.KOf]
      refine' L2.txF_mk KX G ?a ?l ?c ?k ?b
      (case a => k_is)
      (case l => k_is)
      (case c => k_is)
      (case k => k_is)
      (case b => exact fun _ _ _ _ _ _ us hl => match us, hl with | [_, _, _], _ => rfl)
    have F_counts_alone : L2.TxF (L2.KOf KX) mg "counts_alone" Ld.s_counts_alone ["every", "laid", "known"] := by
      dsimp only [L2.KOf]
      refine' L2.txF_mk KX G ?a ?l ?c ?k ?b
      (case a => k_is)
      (case l => k_is)
      (case c => k_is)
      (case k => k_is)
      (case b => exact fun _ _ _ _ _ _ us hl => match us, hl with | [_, _, _], _ => rfl)
    have F_two_clash : L2.TxF (L2.KOf KX) mg "two_clash" Ld.s_two_clash ["p", "q", "laid", "known"] := by
      dsimp only [L2.KOf]
      refine' L2.txF_mk KX G ?a ?l ?c ?k ?b
      (case a => k_is)
      (case l => k_is)
      (case c => k_is)
      (case k => k_is)
      (case b => exact fun _ _ _ _ _ _ us hl => match us, hl with | [_, _, _, _], _ => rfl)
    have F_partners : L2.TxF (L2.KOf KX) mg "partners" Ld.s_partners ["p", "every", "laid", "known"] := by
      dsimp only [L2.KOf]
      refine' L2.txF_mk KX G ?a ?l ?c ?k ?b
      (case a => k_is)
      (case l => k_is)
      (case c => k_is)
      (case k => k_is)
      (case b => exact fun _ _ _ _ _ _ us hl => match us, hl with | [_, _, _, _], _ => rfl)
    have F_clashing_pairs : L2.TxF (L2.KOf KX) mg "clashing_pairs" Ld.s_clashing_pairs ["every", "laid", "known"] := by
      dsimp only [L2.KOf]
      refine' L2.txF_mk KX G ?a ?l ?c ?k ?b
      (case a => k_is)
      (case l => k_is)
      (case c => k_is)
      (case k => k_is)
      (case b => exact fun _ _ _ _ _ _ us hl => match us, hl with | [_, _, _], _ => rfl)
    have F_all_orders : L2.TxF (L2.KOf KX) mg "all_orders" Ld.s_all_orders ["size"] := by
      dsimp only [L2.KOf]
      refine' L2.txF_mk KX G ?a ?l ?c ?k ?b
      (case a => k_is)
      (case l => k_is)
      (case c => k_is)
      (case k => k_is)
      (case b => exact fun _ _ _ _ _ _ us hl => match us, hl with | [_], _ => rfl)
    have F_way_by_order : L2.TxF (L2.KOf KX) mg "way_by_order" Ld.s_way_by_order ["row", "order", "laid", "known"] := by
      dsimp only [L2.KOf]
      refine' L2.txF_mk KX G ?a ?l ?c ?k ?b
      (case a => k_is)
      (case l => k_is)
      (case c => k_is)
      (case k => k_is)
      (case b => exact fun _ _ _ _ _ _ us hl => match us, hl with | [_, _, _, _], _ => rfl)
    have F_first_orders_by_way : L2.TxF (L2.KOf KX) mg "first_orders_by_way" Ld.s_first_orders_by_way ["row", "laid", "known"] := by
      dsimp only [L2.KOf]
      refine' L2.txF_mk KX G ?a ?l ?c ?k ?b
      (case a => k_is)
      (case l => k_is)
      (case c => k_is)
      (case k => k_is)
      (case b => exact fun _ _ _ _ _ _ us hl => match us, hl with | [_, _, _], _ => rfl)
    have F_answers_as_set : L2.TxF (L2.KOf KX) mg "answers_as_set" Ld.s_answers_as_set ["given"] := by
      dsimp only [L2.KOf]
      refine' L2.txF_mk KX G ?a ?l ?c ?k ?b
      (case a => k_is)
      (case l => k_is)
      (case c => k_is)
      (case k => k_is)
      (case b => exact fun _ _ _ _ _ _ us hl => match us, hl with | [_], _ => rfl)
    have F_answers : L2.TxF (L2.KOf KX) mg "answers" Ld.s_answers ["calls"] := by
      dsimp only [L2.KOf]
      refine' L2.txF_mk KX G ?a ?l ?c ?k ?b
      (case a => k_is)
      (case l => k_is)
      (case c => k_is)
      (case k => k_is)
      (case b => exact fun _ _ _ _ _ _ us hl => match us, hl with | [_], _ => rfl)
    have F_answer_call : L2.TxF (L2.KOf KX) mg "answer_call" Ld.s_answer_call ["session", "number", "numbers", "row"] := by
      dsimp only [L2.KOf]
      refine' L2.txF_mk KX G ?a ?l ?c ?k ?b
      (case a => k_is)
      (case l => k_is)
      (case c => k_is)
      (case k => k_is)
      (case b => exact fun _ _ _ _ _ _ us hl => match us, hl with | [_, _, _, _], _ => rfl)
    have F_answer_bare : L2.TxF (L2.KOf KX) mg "answer_bare" Ld.s_answer_bare ["session", "number"] := by
      dsimp only [L2.KOf]
      refine' L2.txF_mk KX G ?a ?l ?c ?k ?b
      (case a => k_is)
      (case l => k_is)
      (case c => k_is)
      (case k => k_is)
      (case b => exact fun _ _ _ _ _ _ us hl => match us, hl with | [_, _], _ => rfl)
    have F_answer_propositions : L2.TxF (L2.KOf KX) mg "answer_propositions" Ld.s_answer_propositions ["session", "number", "props"] := by
      dsimp only [L2.KOf]
      refine' L2.txF_mk KX G ?a ?l ?c ?k ?b
      (case a => k_is)
      (case l => k_is)
      (case c => k_is)
      (case k => k_is)
      (case b => exact fun _ _ _ _ _ _ us hl => match us, hl with | [_, _, _], _ => rfl)
    have F_answer_row : L2.TxF (L2.KOf KX) mg "answer_row" Ld.s_answer_row ["session", "number", "row"] := by
      dsimp only [L2.KOf]
      refine' L2.txF_mk KX G ?a ?l ?c ?k ?b
      (case a => k_is)
      (case l => k_is)
      (case c => k_is)
      (case k => k_is)
      (case b => exact fun _ _ _ _ _ _ us hl => match us, hl with | [_, _, _], _ => rfl)
    have F_answer_in_all_orders : L2.TxF (L2.KOf KX) mg "answer_in_all_orders" Ld.s_answer_in_all_orders ["session", "number", "numbers", "row"] := by
      dsimp only [L2.KOf]
      refine' L2.txF_mk KX G ?a ?l ?c ?k ?b
      (case a => k_is)
      (case l => k_is)
      (case c => k_is)
      (case k => k_is)
      (case b => exact fun _ _ _ _ _ _ us hl => match us, hl with | [_, _, _, _], _ => rfl)
    exact Ld.chain hmg T M___init__ M_has_begun M_are_propositions M_begin M_lay M_learn M_alone M_alonerow M_along M_parts M_clash M_clashes M_nth M_partner M_caught M_ways M_way M_may M_order M_matters M_counts M_bound M_state F_all_worlds F_how_many F_bearing F_answer_by_one_set F_answer_by F_still_standing F_row_alone F_row_along F_places_apart F_granted_alone F_counts_alone F_two_clash F_partners F_clashing_pairs F_all_orders F_way_by_order F_first_orders_by_way F_answers_as_set F_answers F_answer_call F_answer_bare F_answer_propositions F_answer_row F_answer_in_all_orders
  case S =>
    intro K H xs a hO hwi hask hx
    cases hx with
    | cons h1 h2 =>
      cases h2
      cases h1 with
      | lst hs ha =>
        have e := L2.ints_dw a.1 _ ha
        subst e
        have q : ((Codec.inLen 0 12000 a.1 && a.1.all (Codec.inInt 0 4294967295)) && true) = true := hwi
        rw [Bool.and_eq_true, Bool.and_eq_true] at q
        exact Ld.last hs (Codec.inNat_iff.mp q.1.1).2 (fun x hx => (Ld.inInt_lo (List.all_eq_true.mp q.1.2 x hx))) hask fun H' p hp => .lst (L2.SqL.of hp) (L2.dw_ints _)
