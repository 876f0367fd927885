import PyProof.Rows.All
import Wide.All
import OpenK.AllK
import Wide.FinOn
import PyProof.EqAt
import PyProof.EqKinds
import PyProof.TupleCall
import KE.BitLaws
import KE.KSortTupG
import PyProof.SetScanFacts
import PySem.SetOps
import KE.KDictList
import KE.KItemsList
import PyProof.TupleOfGen
import Wide.Seal
import KE.KRevSl
import PyProof.ListMulRoad
import PySem.Challenge.RW_steploft_k51_words_that_part
set_option Elab.async false
set_option linter.all false
set_option maxRecDepth 100000
namespace L2
open PySem PySem.Spec PyProof.Rows
/-- a key: an int or a str -/
abbrev Key := Sum Int Str
def keyIs : Key → Value → Bool
  | .inl k, v => Value.isInt k v
  | .inr x, v => Value.isStrOf x v
def keyH (w : World) : Key → Int
  | .inl k => hashInt k
  | .inr x => hashStr w x
theorem keyIs_shape : ∀ {k : Key} {v : Value}, keyIs k v = true → (∃ i t, k = Sum.inl i ∧ v = Value.int i t) ∨ (∃ x t, k = Sum.inr x ∧ v = Value.str x t)
  | .inl i, v, h => by
    obtain ⟨t, e⟩ := Value.isInt_shape (k := i) (v := v) h
    exact .inl ⟨i, t, rfl, e⟩
  | .inr x, v, h => by
    obtain ⟨t, e⟩ := Value.isStrOf_shape (x := x) (v := v) h
    exact .inr ⟨x, t, rfl, e⟩
theorem keyIs_int (i : Int) (t : Tok) : keyIs (.inl i) (.int i t) = true := by simp [keyIs, Value.isInt]
theorem keyIs_str (x : Str) (t : Tok) : keyIs (.inr x) (.str x t) = true := by simp [keyIs, Value.isStrOf]
theorem key_ll (a b : Int) : decide ((Sum.inl a : Key) = Sum.inl b) = (a == b) := by
  by_cases e : a = b
  · subst e; simp
  · have h : ¬ (Sum.inl a : Key) = Sum.inl b := fun q => e (Sum.inl.inj q)
    rw [decide_eq_false h]
    exact (beq_eq_false_iff_ne.mpr e).symm
theorem key_rr (a b : Str) : decide ((Sum.inr a : Key) = Sum.inr b) = decide (a = b) := by
  by_cases e : a = b
  · subst e; simp
  · have h : ¬ (Sum.inr a : Key) = Sum.inr b := fun q => e (Sum.inr.inj q)
    rw [decide_eq_false h, decide_eq_false e]
theorem key_lr (a : Int) (b : Str) : decide ((Sum.inl a : Key) = Sum.inr b) = false := decide_eq_false (fun q => nomatch q)
theorem key_rl (a : Str) (b : Int) : decide ((Sum.inr a : Key) = Sum.inl b) = false := decide_eq_false (fun q => nomatch q)
def mixKind (prog : Program) (w : World) : PySem.KeyKind prog w Key where
  is := keyIs
  hash := keyH w
  inj := fun v a b ha hb => by
    rcases keyIs_shape ha with ⟨i, t, rfl, rfl⟩ | ⟨x, t, rfl, rfl⟩
    · rcases keyIs_shape hb with ⟨j, u, rfl, e⟩ | ⟨y, u, rfl, e⟩
      · injection e with e1 _; rw [e1]
      · exact nomatch e
    · rcases keyIs_shape hb with ⟨j, u, rfl, e⟩ | ⟨y, u, rfl, e⟩
      · exact nomatch e
      · injection e with e1 _; rw [e1]
  byValue := fun k v h => by
    rcases keyIs_shape h with ⟨i, t, rfl, rfl⟩ | ⟨x, t, rfl, rfl⟩ <;> rfl
  pyHash := fun hv h => by
    rcases keyIs_shape hv with ⟨i, t, rfl, rfl⟩ | ⟨x, t, rfl, rfl⟩
    · exact wpAny_pyHash_int h
    · exact wpAny_pyHash_str h
  eqBool := fun hu hv h => by
    rcases keyIs_shape hu with ⟨i, t, rfl, rfl⟩ | ⟨x, t, rfl, rfl⟩
    · rcases keyIs_shape hv with ⟨j, u, rfl, rfl⟩ | ⟨y, u, rfl, rfl⟩
      · rw [key_ll] at h; exact wpAny_eqBool_int h
      · rw [key_lr] at h; exact SeqAt.EqAt.int_str i t y u _ _ _ _ h
    · rcases keyIs_shape hv with ⟨j, u, rfl, rfl⟩ | ⟨y, u, rfl, rfl⟩
      · rw [key_rl] at h; exact SeqAt.EqAt.str_int x t j u _ _ _ _ h
      · rw [key_rr] at h; exact wpAny_eqBool_str h
  «strs» := fun k x t v h => by
    rcases keyIs_shape h with ⟨i, u, rfl, e⟩ | ⟨y, u, rfl, e⟩
    · exact nomatch e
    · injection e with e1 _
      subst e1
      cases v <;> rfl
theorem mixKind_int (prog : Program) (w : World) (i : Int) (t : Tok) : (mixKind prog w).is (.inl i) (.int i t) = true := keyIs_int i t
theorem mixKind_str (prog : Program) (w : World) (x : Str) (t : Tok) : (mixKind prog w).is (.inr x) (.str x t) = true := keyIs_str x t
end L2
namespace L2
open PySem PySem.Spec PyProof.Rows
/-- a value, without the heap -/
inductive V where
  | non | bl (b : Bool) | int (i : Int) | str (x : Str) | byt (b : Array UInt8) | flt (b : UInt64) | ref (a : Addr) | ty (n : String)
  deriving DecidableEq
def RelV : V → Value → Prop
  | .non, u => u = Value.none
  | .bl b, u => u = Value.bool b
  | .int i, u => ∃ t, u = Value.int i t
  | .str x, u => ∃ t, u = Value.str x t
  | .byt b, u => ∃ t, u = Value.bytes b t
  | .flt b, u => ∃ t, u = Value.float b t
  | .ref a, u => u = Value.ref a
  | .ty n, u => u = Value.type n
abbrev Vals : List V → List Value → Prop := Paired RelV
theorem Vals.length {xs : List V} {us : List Value} (r : Vals xs us) : xs.length = us.length := Paired.length r
theorem Vals.get : ∀ {xs : List V} {us : List Value} {i : Nat} {x : V}, Vals xs us → xs[i]? = some x → ∃ u, us[i]? = some u ∧ RelV x u
  | _, _, _, _, .nil, e => by simp at e
  | _, _, 0, _, .cons r _, e => by simp at e; subst e; exact ⟨_, rfl, r⟩
  | _, _, i + 1, x, .cons _ t, e => by
    obtain ⟨u, h1, h2⟩ := Vals.get (i := i) (x := x) t (by simpa using e)
    exact ⟨u, by simpa using h1, h2⟩
theorem Vals.set {x : V} {u : Value} (r : RelV x u) : ∀ {xs : List V} {us : List Value} (i : Nat), Vals xs us → Vals (xs.set i x) (us.set i u)
  | _, _, _, .nil => .nil
  | _, _, 0, .cons _ t => .cons r t
  | _, _, i + 1, .cons q t => .cons q (Vals.set r i t)
theorem Vals.append : ∀ {xs ys : List V} {us ws : List Value}, Vals xs us → Vals ys ws → Vals (xs ++ ys) (us ++ ws)
  | _, _, _, _, .nil, s => s
  | _, _, _, _, .cons r t, s => .cons r (Vals.append t s)
theorem Vals.take : ∀ {xs : List V} {us : List Value} (n : Nat), Vals xs us → Vals (xs.take n) (us.take n)
  | _, _, 0, _ => .nil
  | _, _, _ + 1, .nil => .nil
  | _, _, n + 1, .cons r t => .cons r (Vals.take n t)
theorem Vals.drop : ∀ {xs : List V} {us : List Value} (n : Nat), Vals xs us → Vals (xs.drop n) (us.drop n)
  | _, _, 0, r => r
  | _, _, _ + 1, .nil => .nil
  | _, _, n + 1, .cons _ t => Vals.drop n t
def RelO : Option V → Option Value → Prop
  | some v, some u => RelV v u
  | none, none => True
  | _, _ => False
def KV {κ : Type} : List (κ × V) → List (κ × Value) → Prop := Paired fun (p : κ × V) (q : κ × Value) => p.1 = q.1 ∧ RelV p.2 q.2
/-- a key of a dict (00_mix): an int or a text -/
def kV : Key → V
  | .inl i => .int i
  | .inr x => .str x
/-- a tuple without a dict of its own -/
def IsTupN (h : Heap) (a : Addr) (items : Array Value) : Prop := ∃ o, h.get? a = some o ∧ o.cls = .type "tuple" ∧ (∃ n, o.data = .seq items n) ∧ o.dict = none
theorem IsTupN.tup {h : Heap} {a : Addr} {items : Array Value} (x : IsTupN h a items) : IsTup h a items := let ⟨o, h1, h2, h3, _⟩ := x; ⟨o, h1, h2, h3⟩
theorem IsTupN.lt {h : Heap} {a : Addr} {items : Array Value} (x : IsTupN h a items) : a < h.objs.size := x.tup.lt
theorem IsTupN.new (h : Heap) (items : Array Value) : IsTupN (h.push { cls := .type "tuple", data := .seq items }) h.objs.size items := ⟨_, Heap.get?_push_size _ rfl, rfl, ⟨_, rfl⟩, rfl⟩
/-- what stands at a tracked address -/
inductive HO where
  /-- a list -/
  | lst (xs : List V)
  /-- a tuple (never changes) -/
  | tup (xs : List V)
  /-- a dict whose keys are ints and texts; one whose keys are tuples of ints and texts (the empty one is both) -/
  | dK (kvs : List (Key × V)) | dT (kvs : List (List Key × V))
  /-- a set of ints: its members, its size -/
  | set (S : Int → Bool) (n : Nat)
  /-- an instance of the class at C, its dict at dx, its attributes -/
  | ins (C dx : Addr) (fs : List (Str × V))
  /-- the dict of the instance at x -/
  | own (x : Addr)
  /-- the dict of an exception -/
  | xd (fs : List (Str × V))
  /-- a bound method, f of x -/
  | met (f x : Addr)
  /-- a range object lo, lo + 1, .. below hi -/
  | rng (lo hi : Int)
  /-- a thing that is known to the object (the script; a dict while a loop walks it): read, never written while it is so -/
  | frz (o : Obj) (u : HO)
  /-- a code object's table -/
  | tbl (ps : Array Value)
  /-- any other thing, by what is true of its one object (a def of one's own: SetO a S n := HO.ext fun h => ..) -/
  | ext (φ : Heap → Prop)
abbrev Hp := Addr → Option HO
def upd (H : Hp) (a : Addr) (o : HO) : Hp := fun b => if b = a then some o else H b
theorem upd_same {H : Hp} {a : Addr} {o : HO} : upd H a o a = some o := by unfold upd; rw [if_pos rfl]
theorem upd_ne {H : Hp} {a b : Addr} {o : HO} (h : b ≠ a) : upd H a o b = H b := by unfold upd; rw [if_neg h]
theorem ne_of_none {H : Hp} {a b : Addr} {o : HO} (h : H a = some o) (h' : H b = none) : a ≠ b := by
  intro e; subst e; rw [h] at h'; cases h'
section
variable (P : Program) (w : World)
def ObjOk (H : Hp) (h : Heap) (a : Addr) : HO → Prop
  | .lst xs => xs.length ≤ sizeLine ∧ ∃ (its : List Value) (n : Nat), Vals xs its ∧ h.get? a = some { cls := .type "list", data := .seq its.toArray n }
  | .tup xs => xs.length ≤ sizeLine ∧ ∃ its : List Value, Vals xs its ∧ IsTupN h a its.toArray
  | .dK kvs => kvs.length ≤ sizeLine ∧ (a == sysModules) = false ∧ ∃ vs, KV kvs vs ∧ h.DictOf (mixKind P w) a vs
  | .dT kvs => kvs.length ≤ sizeLine ∧ (a == sysModules) = false ∧ ∃ xs : List (List Key × Addr × Value),
      Paired (fun (p : List Key × V) (q : List Key × Addr × Value) => p.1 = q.1 ∧ H q.2.1 = some (.tup (p.1.map kV)) ∧ RelV p.2 q.2.2) kvs xs ∧
      ∃ o es ep, h.get? a = some o ∧ o.ExactDict ∧ o.data = .dict es ep ∧ es.toList = xs.map (entryOfKey (tupleKind (mixKind P w))) ∧ (xs.map (·.1)).Nodup
  | .set S n => h.SetOf (intKind P w) a S n
  | .ins C dx fs => H dx = some (.own a) ∧ fs.length ≤ 1000 ∧ dx ≠ a ∧ h.get? a = some (PySem.W.instObj C dx) ∧
      ∃ mA, h.Ns1 dx mA ∧ (∀ f, RelO (fs.lookup f) (mA f)) ∧ PySem.Within mA (fs.map (·.1))
  | .own _ => ∃ o, h.get? a = some o
  | .xd fs => ∃ mA, h.Ns1 a mA ∧ ∀ f, RelO (fs.lookup f) (mA f)
  | .rng lo hi => ∃ t u v, h.get? a = some { cls := .type "range", data := .fields #[.int lo t, .int hi u, .int 1 v] }
  | .frz o u => h.get? a = some o ∧ ObjOk H h a u
  | .tbl ps => h.get? a = some { cls := .none, data := .fields ps }
  | .met f x => h.get? a = some (PySem.W.methodObj (.ref f) (.ref x))
  | .ext φ => φ h ∧ (∃ o, h.get? a = some o) ∧ ∀ h1 h2 : Heap, φ h1 → (∀ o, h1.get? a = some o → h2.get? a = some o) → φ h2
/-- the abstract heap is held -/
def HOk (H : Hp) (h : Heap) : Prop := ∀ a o, H a = some o → ObjOk P w H h a o
end
section
variable {P : Program} {w : World} {H H' : Hp} {h h' : Heap} {a : Addr} {o : HO}
theorem ObjOk.lt (x : ObjOk P w H h a o) : a < h.objs.size := by
  cases o with
  | lst xs => obtain ⟨_, _, _, _, e⟩ := x; exact Heap.lt_size e
  | tup xs => obtain ⟨_, _, _, p⟩ := x; exact p.lt
  | dK kvs => obtain ⟨_, _, _, _, o, _, _, e, _⟩ := x; exact Heap.lt_size e
  | dT kvs => obtain ⟨_, _, _, _, o, _, _, e, _⟩ := x; exact Heap.lt_size e
  | set S n => obtain ⟨o, _, _, _, e, _⟩ := x; exact Heap.lt_size e
  | ins C dx fs => obtain ⟨_, _, _, e, _⟩ := x; exact Heap.lt_size e
  | own y => obtain ⟨_, e⟩ := x; exact Heap.lt_size e
  | xd fs => obtain ⟨_, ⟨_, _, _, e, _⟩, _⟩ := x; exact Heap.lt_size e
  | rng lo hi => obtain ⟨_, _, _, e⟩ := x; exact Heap.lt_size e
  | frz ob u => obtain ⟨e, _⟩ := x; exact Heap.lt_size e
  | tbl ps => exact Heap.lt_size (show h.get? a = some _ from x)
  | met f y => exact Heap.lt_size (show h.get? a = some _ from x)
  | ext φ => obtain ⟨_, ⟨_, e⟩, _⟩ := x; exact Heap.lt_size e
theorem Paired.mapP {α β : Type} {F G : α → β → Prop} : ∀ {l₁ : List α} {l₂ : List β}, Paired F l₁ l₂ → (∀ a b, F a b → G a b) → Paired G l₁ l₂
  | _, _, .nil, _ => .nil
  | _, _, .cons r t, f => .cons (f _ _ r) (Paired.mapP t f)
/-- what an object's description leans on: its own object, its own dict, the tuples -/
theorem ObjOk.stay (x : ObjOk P w H h a o) (k : ∀ b u, (b = a ∨ H b = some (.own a)) → h.get? b = some u → h'.get? b = some u)
    (ho : ∀ b, H b = some (.own a) → H' b = some (.own a)) (ht : ∀ b xs, H b = some (.tup xs) → H' b = some (.tup xs)) : ObjOk P w H' h' a o := by
  induction o with
  | lst xs => obtain ⟨z, its, n, r, e⟩ := x; exact ⟨z, its, n, r, k _ _ (.inl rfl) e⟩
  | tup xs => obtain ⟨z, its, r, ob, e, c⟩ := x; exact ⟨z, its, r, ob, k _ _ (.inl rfl) e, c⟩
  | dK kvs => obtain ⟨z, y, vs, r, ob, es, ep, e, c⟩ := x; exact ⟨z, y, vs, r, ob, es, ep, k _ _ (.inl rfl) e, c⟩
  | dT kvs =>
    obtain ⟨z, y, xs, r, ob, es, ep, e, c⟩ := x
    exact ⟨z, y, xs, Paired.mapP r fun p q z => ⟨z.1, ht _ _ z.2.1, z.2.2⟩, ob, es, ep, k _ _ (.inl rfl) e, c⟩
  | set S n => obtain ⟨ob, es, ep, t, e, c⟩ := x; exact ⟨ob, es, ep, t, k _ _ (.inl rfl) e, c⟩
  | ins C dx fs =>
    obtain ⟨d, z, ne, e, mA, ⟨od, es, ep, e2, c⟩, r⟩ := x
    exact ⟨ho _ d, z, ne, k _ _ (.inl rfl) e, mA, ⟨od, es, ep, k _ _ (.inr d) e2, c⟩, r⟩
  | own y => obtain ⟨ob, e⟩ := x; exact ⟨ob, k _ _ (.inl rfl) e⟩
  | xd fs => obtain ⟨mA, ⟨od, es, ep, e, c⟩, r⟩ := x; exact ⟨mA, ⟨od, es, ep, k _ _ (.inl rfl) e, c⟩, r⟩
  | rng lo hi => obtain ⟨t, u, v, e⟩ := x; exact ⟨t, u, v, k _ _ (.inl rfl) e⟩
  | frz ob u ih => obtain ⟨e, q⟩ := x; exact ⟨k _ _ (.inl rfl) e, ih q⟩
  | tbl ps =>
    have e : h.get? a = some { cls := .none, data := .fields ps } := x
    show h'.get? a = some { cls := .none, data := .fields ps }
    exact k a _ (.inl rfl) e
  | met f y =>
    have e : h.get? a = some (PySem.W.methodObj (.ref f) (.ref y)) := x
    show h'.get? a = some (PySem.W.methodObj (.ref f) (.ref y))
    exact k a _ (.inl rfl) e
  | ext φ => obtain ⟨p, ⟨o, e⟩, st⟩ := x; exact ⟨st _ _ p fun o q => k _ _ (.inl rfl) q, ⟨o, k _ _ (.inl rfl) e⟩, st⟩
theorem HOk.lt (x : HOk P w H h) (e : H a = some o) : a < h.objs.size := (x a o e).lt
theorem HOk.fresh (x : HOk P w H h) (e : h.objs.size ≤ a) : H a = none := by
  cases q : H a with
  | none => rfl
  | some u => exact absurd (Nat.lt_of_lt_of_le (x.lt q) e) (Nat.lt_irrefl _)
/-- every object of the heap is kept -/
theorem HOk.kept (x : HOk P w H h) (k : ∀ b u, h.get? b = some u → h'.get? b = some u) : HOk P w H h' := fun a o e =>
  (x a o e).stay (fun b u _ q => k b u q) (fun _ q => q) fun _ _ q => q
/-- a new object is laid and tracked -/
theorem HOk.laid (x : HOk P w H h) (k : ∀ b u, h.get? b = some u → h'.get? b = some u) (hp : h.objs.size ≤ a) (new : ObjOk P w (upd H a o) h' a o) : HOk P w (upd H a o) h' := fun b u e => by
  have hn := x.fresh hp
  by_cases hb : b = a
  · subst hb; rw [upd_same] at e; cases e; exact new
  · rw [upd_ne hb] at e
    exact (x b u e).stay (fun c v _ q => k c v q) (fun c q => by rw [upd_ne (ne_of_none q hn)]; exact q) fun c xs q => by rw [upd_ne (ne_of_none q hn)]; exact q
end
/-- what may be read as u: it is u, or a known u -/
def Rd (H : Hp) (a : Addr) (u : HO) : Prop := H a = some u ∨ ∃ o, H a = some (.frz o u)
theorem Rd.of {H : Hp} {a : Addr} {u : HO} (h : H a = some u) : Rd H a u := .inl h
theorem Rd.ok {P : Program} {w : World} {H : Hp} {h : Heap} {a : Addr} {u : HO} (r : Rd H a u) (x : HOk P w H h) : ObjOk P w H h a u := by
  rcases r with r | ⟨o, r⟩
  · exact x a u r
  · obtain ⟨_, q⟩ := x a _ r
    exact q
/-- what may be written -/
def Mut : Option HO → Prop
  | some (.lst _) => True
  | some (.dK _) => True
  | some (.dT _) => True
  | some (.set _ _) => True
  | some (.ins _ _ _) => True
  | some (.ext _) => True
  | _ => False
section
variable {P : Program} {w : World} {H : Hp} {h h' : Heap} {x e : Addr} {o' : HO}
/-- the object at e is changed: x itself, or the dict of the instance x -/
theorem HOk.write (ok : HOk P w H h) (mu : Mut (H x)) (he : e = x ∨ H e = some (.own x)) (k : ∀ b u, b ≠ e → h.get? b = some u → h'.get? b = some u) (heo : ∃ u, h'.get? e = some u)
    (new : ObjOk P w (upd H x o') h' x o') : HOk P w (upd H x o') h' := fun b u q => by
  have nown : ∀ c y, H c = some (.own y) → c ≠ x := fun c y r z => by subst z; rw [r] at mu; exact mu
  have ntup : ∀ c xs, H c = some (.tup xs) → c ≠ x := fun c xs r z => by subst z; rw [r] at mu; exact mu
  by_cases hb : b = x
  · subst hb; rw [upd_same] at q; cases q; exact new
  · rw [upd_ne hb] at q
    by_cases hbe : b = e
    · have q' : H b = some (.own x) := by
        rcases he with z | z
        · exact absurd (hbe.trans z) hb
        · rw [hbe]; exact z
      rw [q] at q'; cases q'
      obtain ⟨v, hv⟩ := heo
      exact ⟨v, by rw [hbe]; exact hv⟩
    · refine (ok b u q).stay (fun c v hc r => k c v ?_ r) (fun c r => by rw [upd_ne (nown c b r)]; exact r) fun c xs r => by rw [upd_ne (ntup c xs r)]; exact r
      rcases hc with rfl | hc
      · exact hbe
      · rintro rfl
        rcases he with z | z
        · exact nown c b hc z
        · rw [hc] at z; cases z; exact hb rfl
end
structure Un (fs ex : List Addr) (H H' : Hp) (h h' : Heap) : Prop where
  keep : ∀ b o, h.get? b = some o → H b = none → b ∉ fs → b ∉ ex → h'.get? b = some o
  slot : ∀ b o, h.get? b = some o → H b = none → b ∈ fs → b ∉ ex → ∃ sl, h'.get? b = some { o with slots := sl }
  free : ∀ b o, h.get? b = some o → H b = none → b ∉ ex → H' b = none
  there : ∀ b o, h.get? b = some o → b ∉ ex → ∃ o', h'.get? b = some o'
  tups : ∀ b xs, H b = some (.tup xs) → H' b = some (.tup xs)
  frzs : ∀ b o u, H b = some (.frz o u) → H' b = some (.frz o u)
  tbls : ∀ b ps, H b = some (.tbl ps) → ∃ more, H' b = some (.tbl (ps ++ more))
section
variable {fs fs' ex ex' : List Addr} {H H1 H2 : Hp} {h h1 h2 h' : Heap} {a x e : Addr} {o : HO}
theorem Un.any (u : Un fs ex H H1 h h1) {b : Addr} {ob : Obj} (q : h.get? b = some ob) (n : H b = none) (hx : b ∉ ex) : ∃ sl, h1.get? b = some { ob with slots := sl } := by
  by_cases hb : b ∈ fs
  · exact u.slot b ob q n hb hx
  · exact ⟨ob.slots, u.keep b ob q n hb hx⟩
theorem Un.trans (a : Un fs ex H H1 h h1) (b : Un fs ex H1 H2 h1 h2) : Un fs ex H H2 h h2 where
  keep := fun c ob q n hc hx => b.keep c ob (a.keep c ob q n hc hx) (a.free c ob q n hx) hc hx
  slot := fun c ob q n hc hx => by
    obtain ⟨sl, e1⟩ := a.slot c ob q n hc hx
    obtain ⟨sl', e2⟩ := b.slot c _ e1 (a.free c ob q n hx) hc hx
    exact ⟨sl', e2⟩
  free := fun c ob q n hx => by
    obtain ⟨o', e1⟩ := a.there c ob q hx
    exact b.free c o' e1 (a.free c ob q n hx) hx
  there := fun c ob q hx => by
    obtain ⟨o', e1⟩ := a.there c ob q hx
    exact b.there c o' e1 hx
  tups := fun c xs q => b.tups c xs (a.tups c xs q)
  frzs := fun c ob xs q => b.frzs c ob xs (a.frzs c ob xs q)
  tbls := fun c ps q => by
    obtain ⟨m1, e1⟩ := a.tbls c ps q
    obtain ⟨m2, e2⟩ := b.tbls c _ e1
    exact ⟨m1 ++ m2, by rw [e2, Array.append_assoc]⟩
theorem Un.kept (k : ∀ b u, h.get? b = some u → h'.get? b = some u) : Un fs ex H H h h' :=
  ⟨fun b ob q _ _ _ => k b ob q, fun b ob q _ _ _ => ⟨ob.slots, k b ob q⟩, fun _ _ _ n _ => n, fun b ob q _ => ⟨ob, k b ob q⟩, fun _ _ q => q, fun _ _ _ q => q, fun _ ps q => ⟨#[], by rw [q]; simp⟩⟩
theorem Un.refl : Un fs ex H H h h := Un.kept fun _ _ q => q
theorem Un.laid (k : ∀ b u, h.get? b = some u → h'.get? b = some u) (hp : h.objs.size ≤ a) (hn : H a = none) : Un fs ex H (upd H a o) h h' where
  keep := fun b u q _ _ _ => k b u q
  slot := fun b u q _ _ _ => ⟨u.slots, k b u q⟩
  free := fun b u q n _ => by rw [upd_ne (Nat.ne_of_lt (Nat.lt_of_lt_of_le (Heap.lt_size q) hp))]; exact n
  there := fun b u q _ => ⟨u, k b u q⟩
  tups := fun b xs q => by rw [upd_ne (ne_of_none q hn)]; exact q
  frzs := fun b u xs q => by rw [upd_ne (ne_of_none q hn)]; exact q
  tbls := fun b ps q => ⟨#[], by rw [upd_ne (ne_of_none q hn), q]; simp⟩
theorem Un.write (mu : Mut (H x)) (he : e = x ∨ H e = some (.own x)) (k : ∀ b u, b ≠ e → h.get? b = some u → h'.get? b = some u) (heo : ∃ u, h'.get? e = some u) : Un fs ex H (upd H x o) h h' := by
  have hx : ∀ b, H b = none → b ≠ x := fun b n z => by subst z; rw [n] at mu; exact mu
  have hb : ∀ b, H b = none → b ≠ e := fun b n z => by
    subst z
    rcases he with r | r
    · exact hx b n r
    · rw [n] at r; cases r
  have hm : ∀ b u, H b = some u → ¬ Mut (some u) → b ≠ x := fun b u q nm z => by subst z; rw [q] at mu; exact nm mu
  refine ⟨fun b u q n _ _ => k b u (hb b n) q, fun b u q n _ _ => ⟨u.slots, k b u (hb b n) q⟩, fun b u q n _ => by rw [upd_ne (hx b n)]; exact n, fun b u q _ => ?_,
    fun b xs q => by rw [upd_ne (hm b _ q fun z => z)]; exact q, fun b u xs q => by rw [upd_ne (hm b _ q fun z => z)]; exact q, fun b ps q => ⟨#[], by rw [upd_ne (hm b _ q fun z => z), q]; simp⟩⟩
  by_cases hbe : b = e
  · subst hbe; exact heo
  · exact ⟨u, k b u hbe q⟩
theorem Un.mono (u : Un fs ex H H1 h h1) (hs : ∀ b ∈ fs, b ∈ fs') (hx : ∀ b ∈ ex, b ∈ ex') : Un fs' ex' H H1 h h1 :=
  ⟨fun b ob q n hb he => u.keep b ob q n (fun z => hb (hs b z)) fun z => he (hx b z), fun _ _ q n _ he => u.any q n fun z => he (hx _ z), fun b ob q n he => u.free b ob q n fun z => he (hx b z), fun b ob q he => u.there b ob q fun z => he (hx b z), u.tups, u.frzs, u.tbls⟩
end
def trk (h : Heap) (H : Hp) : List Addr := (List.range h.objs.size).filter fun a => (H a).isSome
def hidT (h : Heap) (H : Hp) : Heap := PySem.W.hideAll h (trk h H)
theorem hidT_size (h : Heap) (H : Hp) : (hidT h H).objs.size = h.objs.size := PySem.W.hideAll_size _ _
theorem hidT_get {h : Heap} {H : Hp} {b : Addr} {o : Obj} (e : h.get? b = some o) (n : H b = none) : (hidT h H).get? b = some o :=
  PySem.W.hideAll_get _ e fun hm => by
    have q : (H b).isSome = true := (List.mem_filter.mp hm).2
    rw [n] at q; simp at q
theorem of_hidT {h : Heap} {H : Hp} {b : Addr} {o : Obj} (e : (hidT h H).get? b = some o) : h.get? b = some o ∧ H b = none := by
  have e' : h.get? b = some o := PySem.W.of_hideAll (trk h H) e
  refine ⟨e', ?_⟩
  cases q : H b with
  | none => rfl
  | some x =>
    have hm : b ∈ trk h H := List.mem_filter.mpr ⟨List.mem_range.mpr (Heap.lt_size e'), by simp [q]⟩
    have z : (hidT h H).get? b = none := PySem.W.hideAll_none (trk h H) hm
    rw [z] at e; cases e
def allNews (g h : Heap) (L : Addr) : List (Addr × Obj) := (List.range h.objs.size).filterMap fun a => if a = L ∨ (g.get? a).isSome = true then none else (h.get? a).map fun o => (a, o)
def rest (g h : Heap) (L d : Addr) : List (Addr × Obj) := (allNews g h L).filter fun p => decide (p.1 ≠ d)
end L2
namespace L2
open PySem PySem.Spec PyProof.Rows
/-- the module's facts, over the base: the heap at the law's entry without what is tracked there -/
structure Mod (K : PySem.W.Frag) (mg : Str → Option Value) (base : Heap) : Prop where
  kin : K.In base
  glob : base.Ns mainGlobals mg
  blt : ∃ mb, base.Ns builtinsNs mb ∧ ∀ x : Str, x ≠ "__name__" → mb x = bootBuiltins x
  nolimit : base.NoLimit
/-- the context: a def's body (or a comprehension's block) running. base: fixed through the whole law; s₀, H₀: the entry; outer: the frames whose slots others may change (a def's callers); stack: all frames that run;
   ex: iterators that were made ahead of the entry and are walked here (a comprehension's); fn: the names whose cells were made at the entry (a def: all; a comprehension's block: its own); calm: not within an except suite; pn: pins that every state bears; xe: what is wanted of an exception that leaves the code -/
structure Cx where
  prog : Program
  w : World
  K : PySem.W.Frag
  mg : Str → Option Value
  base : Heap
  A : Around
  N : List Str
  s_0 : Shared
  H_0 : Hp
  env : Env
  outer : List Env
  stack : List Env
  ex : List Addr
  fn : Str → Bool
  calm : Bool
  pn : List (Addr × Obj)
  xe : Value → Shared → Prop
/-- the callers' frames -/
def frs (l : List Env) : List Addr := l.filterMap (·.frame)
abbrev Cx.fs (X : Cx) : List Addr := frs X.outer
def Vis (sc : Scope) (x : Str) : Prop := sc.names.lookup x = some .local ∨ sc.names.lookup x = some .cell ∨ sc.names.lookup x = some .free
def Loc (sc : Scope) (x : Str) : Prop := sc.names.lookup x = some .local ∨ sc.names.lookup x = some .cell
def Look (env : Env) (h : Heap) (m : Str → Option Value) (x : Str) (u : Value) : Prop :=
  (env.kindOf x = some .local ∧ m x = some u) ∨ ((env.kindOf x = some .cell ∨ env.kindOf x = some .free) ∧ ∃ c, env.cells.lookup x = some c ∧ h.IsCell c (some u))
structure Cx.Ok (X : Cx) : Prop where
  mod : Mod X.K X.mg X.base
  kind : X.env.scope.kind = .function
  glob : X.env.globals = mainGlobals
  blt : X.env.builtins = builtinsNs
  above : X.s_0.heap.objs.size ≤ X.env.locals
  inj : ∀ x y c, X.env.cells.lookup x = some c → X.env.cells.lookup y = some c → x = y
  has : ∀ x, (X.env.kindOf x = some .cell ∨ X.env.kindOf x = some .free) → ∃ c, X.env.cells.lookup x = some c
  cab : ∀ x c, X.fn x = true → X.env.cells.lookup x = some c → X.s_0.heap.objs.size ≤ c
  hd : X.calm = true → X.A.handled = none
  frames : X.A.frames = some X.stack
  stk : X.stack = X.outer ∨ (X.stack = X.env :: X.outer ∧ X.env.frame = some X.env.locals)
  exf : ∀ b ∈ X.ex, b ≠ X.env.locals ∧ ∀ x c, X.env.cells.lookup x = some c → c ≠ b
  bs : ∀ b o, X.base.get? b = some o → X.s_0.heap.get? b = some o ∧ X.H_0 b = none
  bsz : X.base.objs.size ≤ X.s_0.heap.objs.size
  noex : ∀ b o, X.base.get? b = some o → b ∉ X.ex
  exfs : ∀ b ∈ X.ex, b ∉ X.fs
  funs : X.s_0.heap.FunFrames X.base X.outer
  frf : ∀ b ∈ X.fs, X.H_0 b = none
/-- no generator is left with a cleanup, and there are no fewer than n -/
structure GB (n : Nat) (g : Array GenState) : Prop where
  all : AllBare g
  sz : n ≤ g.size
theorem GB.self {n : Nat} {g : Array GenState} (h : GB n g) : GB g.size g := ⟨h.all, Nat.le_refl _⟩
theorem GB.step {n : Nat} {g g' : Array GenState} (h : GB n g) (h' : GB g.size g') : GB n g' := ⟨h'.all, Nat.le_trans h.sz h'.sz⟩
structure Inv (X : Cx) (pins : List (Addr × Obj)) (σ : List (Option V)) (H : Hp) (s : Shared) : Prop where
  ok : X.Ok
  os : s.os = X.s_0.os
  bare : GB X.s_0.gens.size s.gens
  base : Un X.fs X.ex X.H_0 H X.s_0.heap s.heap
  loc : ∃ m, s.heap.Ns X.env.locals m ∧ ∀ (i : Nat) (x : Str) (v : V), X.N[i]? = some x → σ[i]? = some (some v) → Vis X.env.scope x → ∃ u, RelV v u ∧ Look X.env s.heap m x u
  cell : ∀ x c, X.env.cells.lookup x = some c → ∃ v, s.heap.IsCell c v
  free : H X.env.locals = none
  freeC : ∀ x c, X.env.cells.lookup x = some c → H c = none
  pin : ∀ p ∈ X.pn ++ pins, s.heap.get? p.1 = some p.2 ∧ H p.1 = none ∧ p.1 ≠ X.env.locals ∧ p.1 ∉ X.fs ∧ ∀ v, p.2.data ≠ .cell v
  hok : HOk X.prog X.w H s.heap
  len : σ.length = X.N.length
section
variable {X : Cx} {pins : List (Addr × Obj)} {σ : List (Option V)} {H H' : Hp} {s : Shared} {h' : Heap}
theorem Cx.Ok.nofr (ok : X.Ok) {b : Addr} {o : Obj} (e : X.base.get? b = some o) : b ∉ X.fs := fun hb => by
  have := (ok.funs.mem hb).1
  rw [e] at this; cases this
theorem Inv.bs (I : Inv X pins σ H s) : ∀ b o, X.base.get? b = some o → s.heap.get? b = some o ∧ H b = none := fun b o e =>
  ⟨I.base.keep b o (I.ok.bs b o e).1 (I.ok.bs b o e).2 (I.ok.nofr e) (I.ok.noex b o e), I.base.free b o (I.ok.bs b o e).1 (I.ok.bs b o e).2 (I.ok.noex b o e)⟩
theorem Inv.bk (I : Inv X pins σ H s) : ∀ b o, X.base.get? b = some o → s.heap.get? b = some o := fun b o e => (I.bs b o e).1
theorem Inv.mod (I : Inv X pins σ H s) : Mod X.K X.mg X.base := I.ok.mod
theorem Inv.kIn (I : Inv X pins σ H s) : X.K.In s.heap := I.ok.mod.kin.keeps I.bk
theorem Inv.nolimit (I : Inv X pins σ H s) : s.heap.NoLimit := I.ok.mod.nolimit.keeps I.bk
/-- the frame over the base: for OpenK's rules (K.In X.base is I.mod.kin) -/
theorem Inv.fr (I : Inv X pins σ H s) : ∃ m, Fr X.base X.env.locals s.heap m :=
  let ⟨m, hn, _⟩ := I.loc
  ⟨m, hn, I.bk, Nat.le_trans I.ok.bsz I.ok.above⟩
theorem Inv.lt (I : Inv X pins σ H s) : X.env.locals < s.heap.objs.size := let ⟨_, hn, _⟩ := I.loc; hn.lt
theorem Inv.sz (I : Inv X pins σ H s) : X.s_0.heap.objs.size ≤ s.heap.objs.size := Nat.le_trans I.ok.above (Nat.le_of_lt I.lt)
theorem Inv.nofs (I : Inv X pins σ H s) {a : Addr} (h : s.heap.objs.size ≤ a) : a ∉ X.fs := fun hb => by
  obtain ⟨_, o, ho, _⟩ := I.ok.funs.mem hb
  exact absurd (Nat.lt_of_lt_of_le (Heap.lt_size ho) (Nat.le_trans I.sz h)) (Nat.lt_irrefl _)
theorem Inv.cne (I : Inv X pins σ H s) : ∀ x c, X.env.cells.lookup x = some c → c ≠ X.env.locals := fun x c e z => by
  obtain ⟨v, o, ho, hd⟩ := I.cell x c e
  obtain ⟨m, ⟨o', es, ep, ho', hd', _⟩, _⟩ := I.loc
  rw [z, ho'] at ho; cases ho; rw [hd'] at hd; cases hd
theorem Inv.funs (I : Inv X pins σ H s) : s.heap.FunFrames X.base X.outer := by
  have all : ∀ (l : List Env), (∀ b ∈ frs l, b ∈ X.fs) → X.s_0.heap.FunFrames X.base l → s.heap.FunFrames X.base l := by
    intro l
    induction l with
    | nil => intro _ _; trivial
    | cons env r ih =>
      intro hs hl
      obtain ⟨hk, ⟨L, o, hf, hn, ho, hd⟩, hr⟩ := hl
      have hL : L ∈ X.fs := hs L (by unfold frs; rw [List.filterMap_cons, hf]; exact List.mem_cons_self)
      obtain ⟨sl, e⟩ := I.base.slot L o ho (I.ok.frf L hL) hL fun z => I.ok.exfs L z hL
      exact ⟨hk, ⟨L, _, hf, hn, e, hd⟩, ih (fun b hb => hs b (by unfold frs; rw [List.filterMap_cons, hf]; exact List.mem_cons_of_mem _ hb)) hr⟩
  exact all X.outer (fun _ hb => hb) I.ok.funs
/-- the frames that run, for a call -/
theorem Inv.stack (I : Inv X pins σ H s) : s.heap.FunFrames X.base X.stack := by
  rcases I.ok.stk with e | ⟨e, hf⟩
  · rw [e]; exact I.funs
  · rw [e]
    obtain ⟨m, hn, _⟩ := I.loc
    refine .cons (by rw [I.ok.kind]; decide) hf hn ?_ I.funs
    exact Heap.get?_none_of_le (Nat.le_trans I.ok.bsz I.ok.above)
theorem Inv.stkSub (I : Inv X pins σ H s) : ∀ b ∈ frs X.stack, b ∈ X.env.locals :: X.fs := fun b hb => by
  rcases I.ok.stk with e | ⟨e, hf⟩
  · rw [e] at hb; exact List.mem_cons_of_mem _ hb
  · rw [e] at hb
    unfold frs at hb
    rw [List.filterMap_cons, hf] at hb
    exact hb
theorem Inv.stkFree (I : Inv X pins σ H s) : ∀ b ∈ frs X.stack, H b = none := fun b hb => by
  rcases List.mem_cons.mp (I.stkSub b hb) with e | hb
  · rw [e]; exact I.free
  · obtain ⟨_, o, ho, _⟩ := I.ok.funs.mem hb
    exact I.base.free b o ho (I.ok.frf b hb) fun z => I.ok.exfs b z hb
/-- THE STEP: the untracked objects but the frame and the records at ch are kept (the callers' frames up to slots), the frame's map is kept, the new abstract heap is held -/
theorem Inv.step {g' : Array GenState} {t' : Nat} {d' : Drawn} {ch : List Addr} (I : Inv X pins σ H s)
    (hch : ∀ b ∈ ch, (b ∈ X.ex ∨ X.s_0.heap.objs.size ≤ b) ∧ b ≠ X.env.locals ∧ (∀ x c, X.env.cells.lookup x = some c → c ≠ b) ∧ ∀ p ∈ X.pn ++ pins, p.1 ≠ b)
    (keep : ∀ b o, b ≠ X.env.locals → b ∉ X.fs → b ∉ ch → s.heap.get? b = some o → H b = none → h'.get? b = some o)
    (slot : ∀ b o, b ≠ X.env.locals → b ∈ X.fs → b ∉ ch → s.heap.get? b = some o → H b = none → ∃ sl, h'.get? b = some { o with slots := sl }) (free : ∀ b o, b ∉ ch → s.heap.get? b = some o → H b = none → H' b = none)
    (there : ∀ b o, b ∉ ch → s.heap.get? b = some o → ∃ o', h'.get? b = some o')
    (tups : ∀ b xs, H b = some (.tup xs) → H' b = some (.tup xs)) (frzs : ∀ b o u, H b = some (.frz o u) → H' b = some (.frz o u)) (tbls : ∀ b ps, H b = some (.tbl ps) → ∃ more, H' b = some (.tbl (ps ++ more)))
    (ns : ∀ m, s.heap.Ns X.env.locals m → h'.Ns X.env.locals m) (hok : HOk X.prog X.w H' h') (hg : GB s.gens.size g') :
    Inv X pins σ H' { s with heap := h', gens := g', drawn := d', toks := t' } := by
  have neL : ∀ b o, X.s_0.heap.get? b = some o → b ≠ X.env.locals := fun b o e => Nat.ne_of_lt (Nat.lt_of_lt_of_le (Heap.lt_size e) I.ok.above)
  have neC : ∀ b o, X.s_0.heap.get? b = some o → b ∉ X.ex → b ∉ ch := fun b o e hx hb => by
    rcases (hch b hb).1 with z | z
    · exact hx z
    · exact absurd (Nat.lt_of_lt_of_le (Heap.lt_size e) z) (Nat.lt_irrefl _)
  have cellK : ∀ x c, X.env.cells.lookup x = some c → ∀ v, s.heap.IsCell c v → h'.IsCell c v := fun x c e v ⟨o, ho, hd⟩ => by
    have nch : c ∉ ch := fun z => (hch c z).2.2.1 x c e rfl
    by_cases hc : c ∈ X.fs
    · obtain ⟨sl, q⟩ := slot c o (I.cne x c e) hc nch ho (I.freeC x c e)
      exact ⟨_, q, hd⟩
    · exact ⟨o, keep c o (I.cne x c e) hc nch ho (I.freeC x c e), hd⟩
  refine ⟨I.ok, I.os, I.bare.step hg, ⟨fun b o e n hb hx => ?_, fun b o e n hb hx => ?_, fun b o e n hx => ?_, fun b o e hx => ?_, fun b xs e => tups b xs (I.base.tups b xs e), fun b o xs e => frzs b o xs (I.base.frzs b o xs e), fun b ps e => ?_⟩, ?_, fun x c e => ?_, ?_, fun x c e => ?_, fun p hp => ?_, hok, I.len⟩
  · exact keep b o (neL b o e) hb (neC b o e hx) (I.base.keep b o e n hb hx) (I.base.free b o e n hx)
  · obtain ⟨sl, e1⟩ := I.base.slot b o e n hb hx
    obtain ⟨sl', e2⟩ := slot b _ (neL b o e) hb (neC b o e hx) e1 (I.base.free b o e n hx)
    exact ⟨sl', e2⟩
  · obtain ⟨o', e1⟩ := I.base.there b o e hx
    exact free b o' (neC b o e hx) e1 (I.base.free b o e n hx)
  · obtain ⟨o', e1⟩ := I.base.there b o e hx
    exact there b o' (neC b o e hx) e1
  · obtain ⟨m1, e1⟩ := I.base.tbls b ps e
    obtain ⟨m2, e2⟩ := tbls b _ e1
    exact ⟨m1 ++ m2, by rw [e2, Array.append_assoc]⟩
  · obtain ⟨m, hn, hl⟩ := I.loc
    refine ⟨m, ns m hn, fun i x v e1 e2 e3 => ?_⟩
    obtain ⟨u, r, l⟩ := hl i x v e1 e2 e3
    refine ⟨u, r, ?_⟩
    rcases l with l | ⟨k, c, e, z⟩
    · exact .inl l
    · exact .inr ⟨k, c, e, cellK x c e _ z⟩
  · obtain ⟨v, z⟩ := I.cell x c e
    exact ⟨v, cellK x c e v z⟩
  · obtain ⟨m, ⟨o, _, _, ho, _⟩, _⟩ := I.loc
    exact free _ o (fun z => (hch _ z).2.1 rfl) ho I.free
  · obtain ⟨v, o, ho, hd⟩ := I.cell x c e
    exact free c o (fun z => (hch c z).2.2.1 x c e rfl) ho (I.freeC x c e)
  · obtain ⟨e, n, ne, nf, d⟩ := I.pin p hp
    have nch : p.1 ∉ ch := fun z => (hch p.1 z).2.2.2 p hp rfl
    exact ⟨keep p.1 p.2 ne nf nch e n, free p.1 p.2 nch e n, ne, nf, d⟩
/-- .. where the frame's own object is kept too -/
theorem Inv.un {t' : Nat} (I : Inv X pins σ H s) (u : Un X.fs [] H H' s.heap h') (hok : HOk X.prog X.w H' h') : Inv X pins σ H' { s with heap := h', toks := t' } := by
  obtain ⟨m, ⟨o, es, ep, ho, r⟩, _⟩ := id I.loc
  obtain ⟨sl, hL⟩ := u.any ho I.free (by simp)
  exact I.step (g' := s.gens) (d' := s.drawn) (ch := []) (fun _ z => nomatch z) (fun b o _ hb _ e n => u.keep b o e n hb (by simp)) (fun b o _ hb _ e n => u.slot b o e n hb (by simp)) (fun b o _ e n => u.free b o e n (by simp)) (fun b o _ e => u.there b o e (by simp)) u.tups u.frzs u.tbls (fun m' hm => by
    obtain ⟨o', es', ep', ho', r'⟩ := hm
    rw [ho] at ho'; cases ho'
    exact ⟨_, es', ep', hL, r'⟩) hok I.bare.self
/-- behind a call (or a comprehension's block): the slots of this frame may have changed too, the records at ch may have turned -/
theorem Inv.call {g' : Array GenState} {t' : Nat} {d' : Drawn} {ch : List Addr} (I : Inv X pins σ H s) (u : Un (frs X.stack) ch H H' s.heap h') (hok : HOk X.prog X.w H' h') (hg : GB s.gens.size g')
    (hch : ∀ b ∈ ch, (b ∈ X.ex ∨ X.s_0.heap.objs.size ≤ b) ∧ b ≠ X.env.locals ∧ (∀ x c, X.env.cells.lookup x = some c → c ≠ b) ∧ ∀ p ∈ X.pn ++ pins, p.1 ≠ b) :
    Inv X pins σ H' { s with heap := h', gens := g', drawn := d', toks := t' } := by
  obtain ⟨m, ⟨o, es, ep, ho, r⟩, _⟩ := id I.loc
  obtain ⟨sl, hL⟩ := u.any ho I.free fun z => (hch _ z).2.1 rfl
  exact I.step (ch := ch) hch (fun b o hL hb hc e n => u.keep b o e n (fun z => (List.mem_cons.mp (I.stkSub b z)).elim hL hb) hc) (fun b o _ _ hc e n => u.any e n hc) (fun b o hc e n => u.free b o e n hc) (fun b o hc e => u.there b o e hc) u.tups u.frzs u.tbls (fun m' hm => by
    obtain ⟨o', es', ep', ho', r'⟩ := hm
    rw [ho] at ho'; cases ho'
    exact ⟨_, es', ep', hL, r'⟩) hok hg
/-- an untracked record of ours (an iterator) has turned -/
theorem Inv.turned {t' : Nat} {it : Addr} (I : Inv X pins σ H s) (k : ∀ b o, b ≠ it → s.heap.get? b = some o → h'.get? b = some o) (hn : H it = none) (hL : it ≠ X.env.locals)
    (h1 : it ∈ X.ex ∨ X.s_0.heap.objs.size ≤ it) (h2 : ∀ x c, X.env.cells.lookup x = some c → c ≠ it) (h3 : ∀ p ∈ X.pn ++ pins, p.1 ≠ it) : Inv X pins σ H { s with heap := h', toks := t' } := by
  have nit : ∀ b u, H b = some u → b ≠ it := fun b u e z => by rw [z, hn] at e; cases e
  refine I.step (g' := s.gens) (d' := s.drawn) (ch := [it]) (fun b hb => ?_) (fun b o _ _ hc e _ => k b o (fun z => hc (by simp [z])) e) (fun b o _ _ hc e _ => ⟨o.slots, k b o (fun z => hc (by simp [z])) e⟩) (fun _ _ _ _ n => n)
    (fun b o hc e => ⟨o, k b o (fun z => hc (by simp [z])) e⟩) (fun _ _ e => e) (fun _ _ _ e => e) (fun b ps e => ⟨#[], by rw [e]; simp⟩) (fun m hm => ?_) (fun b u e => ?_) I.bare.self
  · have e : b = it := by simpa using hb
    subst e
    exact ⟨h1, hL, h2, h3⟩
  · obtain ⟨o, es, ep, ho, r⟩ := hm
    exact ⟨o, es, ep, k _ o (Ne.symm hL) ho, r⟩
  · refine (I.hok b u e).stay (fun c v hc q => k c v ?_ q) (fun _ q => q) fun _ _ q => q
    rcases hc with z | z
    · rw [z]; exact nit b u e
    · exact nit c _ z
theorem Inv.tok (I : Inv X pins σ H s) (t : Nat) : Inv X pins σ H { s with toks := t } := I.un (h' := s.heap) (t' := t) Un.refl I.hok
/-- all objects kept -/
theorem Inv.kept {t' : Nat} (I : Inv X pins σ H s) (k : ∀ b u, s.heap.get? b = some u → h'.get? b = some u) : Inv X pins σ H { s with heap := h', toks := t' } := I.un (Un.kept k) (I.hok.kept k)
/-- a new object laid and tracked -/
theorem Inv.laid {a : Addr} {o : HO} {t' : Nat} (I : Inv X pins σ H s) (k : ∀ b u, s.heap.get? b = some u → h'.get? b = some u) (hp : s.heap.objs.size ≤ a) (new : ObjOk X.prog X.w (upd H a o) h' a o) :
    Inv X pins σ (upd H a o) { s with heap := h', toks := t' } := I.un (Un.laid k hp (I.hok.fresh hp)) (I.hok.laid k hp new)
/-- an object written -/
theorem Inv.write {x e : Addr} {o : HO} {t' : Nat} (I : Inv X pins σ H s) (mu : Mut (H x)) (he : e = x ∨ H e = some (.own x)) (k : ∀ b u, b ≠ e → s.heap.get? b = some u → h'.get? b = some u) (heo : ∃ u, h'.get? e = some u)
    (new : ObjOk X.prog X.w (upd H x o) h' x o) : Inv X pins σ (upd H x o) { s with heap := h', toks := t' } := I.un (Un.write mu he k heo) (I.hok.write mu he k heo new)
/-- forgetting slots, pins -/
theorem Inv.weak {σ' : List (Option V)} (I : Inv X pins σ H s) (hl : σ'.length = σ.length) (w : ∀ (i : Nat) v, σ'[i]? = some (some v) → σ[i]? = some (some v)) : Inv X pins σ' H s :=
  ⟨I.ok, I.os, I.bare, I.base, let ⟨m, hn, hl'⟩ := I.loc; ⟨m, hn, fun i x v e1 e2 e3 => hl' i x v e1 (w i v e2) e3⟩, I.cell, I.free, I.freeC, I.pin, I.hok, hl.trans I.len⟩
theorem Inv.pins_of {pins' : List (Addr × Obj)} (I : Inv X pins σ H s) (h : ∀ p ∈ pins', s.heap.get? p.1 = some p.2 ∧ H p.1 = none ∧ p.1 ≠ X.env.locals ∧ p.1 ∉ X.fs ∧ ∀ v, p.2.data ≠ .cell v) : Inv X pins' σ H s :=
  ⟨I.ok, I.os, I.bare, I.base, I.loc, I.cell, I.free, I.freeC, fun p hp => (List.mem_append.mp hp).elim (fun z => I.pin p (List.mem_append_left _ z)) (h p), I.hok, I.len⟩
theorem nodup_ix {N : List Str} (hN : N.Nodup) {i j : Nat} {x : Str} (a : N[i]? = some x) (b : N[j]? = some x) : i = j := by
  obtain ⟨h1, e1⟩ := List.getElem?_eq_some_iff.mp a
  obtain ⟨h2, e2⟩ := List.getElem?_eq_some_iff.mp b
  exact (List.getElem_inj hN).mp (e1.trans e2.symm)
/-- a name is stored; what changed -/
theorem store_ok2 {M : Model} {A : Around} {E : Value → Shared → Prop} {i : Nat} {x : Str} {v : V} {u : Value} {Q : Unit → Shared → Prop} (I : Inv X pins σ H s) (hN : X.N.Nodup) (hi : X.N[i]? = some x) (hx : Loc X.env.scope x) (r : RelV v u)
    (h : ∀ s', Inv X pins (σ.set i (some v)) H s' → (∃ a, Heap.SameBut a s.heap s'.heap ∧ (a = X.env.locals ∨ X.env.cells.lookup x = some a)) → Q () s') (hf : X.fn x = true ∨ X.env.scope.names.lookup x = some .local := by first | exact .inl rfl | exact .inr rfl | assumption) : wpAny M A (storeName X.env x u) Q E s := by
  obtain ⟨m, hn, hl⟩ := id I.loc
  have hcls : (X.env.scope.kind == .class || (X.env.scope.kind == .module && X.env.locals != X.env.globals)) = false := by rw [I.ok.kind]; rfl
  have hiσ : i < σ.length := by rw [I.len]; exact (List.getElem?_eq_some_iff.mp hi).1
  have cne := I.cne
  have tracked : ∀ {a : Addr} {h' : Heap}, (∃ o, s.heap.get? a = some o ∧ H a = none) → Heap.SameBut a s.heap h' → HOk X.prog X.w H h' := fun {a h'} ha hs b ob e => by
    obtain ⟨_, _, hfree⟩ := ha
    refine (I.hok b ob e).stay (fun c w' hc q => (hs.2 c ?_).trans q) (fun _ q => q) fun _ _ q => q
    rintro rfl
    rcases hc with rfl | hc
    · rw [hfree] at e; cases e
    · rw [hfree] at hc; cases hc
  rcases hx with hk | hk
  · refine wpAny_storeName_local hk hn (fun h' hn' hs => ?_) hcls
    obtain ⟨oL, _, _, hoL, _⟩ := id hn
    refine h _ ⟨I.ok, I.os, I.bare, ⟨fun b o e n hb hx => ?_, fun b o e n hb hx => ?_, I.base.free, fun b o e hx => ?_, I.base.tups, I.base.frzs, I.base.tbls⟩, ⟨_, hn', fun j y v' e1 e2 e3 => ?_⟩, fun y c e => ?_, I.free, I.freeC, fun p hp => ?_, tracked ⟨oL, hoL, I.free⟩ hs, by simpa using I.len⟩ ⟨_, hs, .inl rfl⟩
    · exact (hs.2 b (Nat.ne_of_lt (Nat.lt_of_lt_of_le (Heap.lt_size e) I.ok.above))).trans (I.base.keep b o e n hb hx)
    · obtain ⟨sl, e1⟩ := I.base.slot b o e n hb hx
      exact ⟨sl, (hs.2 b (Nat.ne_of_lt (Nat.lt_of_lt_of_le (Heap.lt_size e) I.ok.above))).trans e1⟩
    · obtain ⟨o', e1⟩ := I.base.there b o e hx
      exact ⟨o', (hs.2 b (Nat.ne_of_lt (Nat.lt_of_lt_of_le (Heap.lt_size e) I.ok.above))).trans e1⟩
    · by_cases hj : j = i
      · subst hj
        rw [hi] at e1; cases e1
        rw [List.getElem?_set_self hiσ] at e2
        cases e2
        exact ⟨u, r, .inl ⟨hk, by simp⟩⟩
      · rw [List.getElem?_set_ne (Ne.symm hj)] at e2
        obtain ⟨u', r', q⟩ := hl j y v' e1 e2 e3
        refine ⟨u', r', ?_⟩
        rcases q with ⟨k, e⟩ | ⟨k, c, e, z⟩
        · refine .inl ⟨k, ?_⟩
          have : y ≠ x := fun e => hj (nodup_ix hN e1 (e ▸ hi))
          simp [this, e]
        · exact .inr ⟨k, c, e, z.sameBut hs (cne y c e)⟩
    · obtain ⟨w', z⟩ := I.cell y c e
      exact ⟨w', z.sameBut hs (cne y c e)⟩
    · obtain ⟨e, n, ne, nf, d⟩ := I.pin p hp
      exact ⟨(hs.2 p.1 ne).trans e, n, ne, nf, d⟩
  · have hfn : X.fn x = true := by
      rcases hf with z | z
      · exact z
      · rw [z] at hk; cases hk
    obtain ⟨c, hc⟩ := I.ok.has x (.inl hk)
    obtain ⟨w', z⟩ := I.cell x c hc
    refine wpAny_storeName_cell I.ok.kind hk hc z (fun h' hc' hs => ?_)
    obtain ⟨oc, hoc, hocd⟩ := id z
    refine h { s with heap := h' } ⟨I.ok, I.os, I.bare, ⟨fun b o e n hb hx => ?_, fun b o e n hb hx => ?_, I.base.free, fun b o e hx => ?_, I.base.tups, I.base.frzs, I.base.tbls⟩, ⟨m, hn.sameBut hs (Ne.symm (cne x c hc)), fun j y v' e1 e2 e3 => ?_⟩, fun y c' e => ?_, I.free, I.freeC, fun p hp => ?_, tracked ⟨oc, hoc, I.freeC x c hc⟩ hs, by simpa using I.len⟩ ⟨c, hs, .inr hc⟩
    · exact (hs.2 b (Nat.ne_of_lt (Nat.lt_of_lt_of_le (Heap.lt_size e) (I.ok.cab x c hfn hc)))).trans (I.base.keep b o e n hb hx)
    · obtain ⟨sl, e1⟩ := I.base.slot b o e n hb hx
      exact ⟨sl, (hs.2 b (Nat.ne_of_lt (Nat.lt_of_lt_of_le (Heap.lt_size e) (I.ok.cab x c hfn hc)))).trans e1⟩
    · obtain ⟨o', e1⟩ := I.base.there b o e hx
      exact ⟨o', (hs.2 b (Nat.ne_of_lt (Nat.lt_of_lt_of_le (Heap.lt_size e) (I.ok.cab x c hfn hc)))).trans e1⟩
    · by_cases hj : j = i
      · subst hj
        rw [hi] at e1; cases e1
        rw [List.getElem?_set_self hiσ] at e2
        cases e2
        exact ⟨u, r, .inr ⟨.inl hk, c, hc, hc'⟩⟩
      · rw [List.getElem?_set_ne (Ne.symm hj)] at e2
        obtain ⟨u', r', q⟩ := hl j y v' e1 e2 e3
        refine ⟨u', r', ?_⟩
        rcases q with q | ⟨k, c', e, z'⟩
        · exact .inl q
        · refine .inr ⟨k, c', e, z'.sameBut hs ?_⟩
          rintro rfl
          exact hj (nodup_ix hN e1 (I.ok.inj _ _ _ e hc ▸ hi))
    · by_cases hcc : c' = c
      · subst hcc; exact ⟨_, hc'⟩
      · obtain ⟨w2, z2⟩ := I.cell y c' e
        exact ⟨w2, z2.sameBut hs hcc⟩
    · obtain ⟨e, n, ne, nf, d⟩ := I.pin p hp
      refine ⟨(hs.2 p.1 ?_).trans e, n, ne, nf, d⟩
      intro q
      rw [q, hoc] at e
      have q' : oc = p.2 := Option.some.inj e
      exact d w' (by rw [← q']; exact hocd)
theorem store_ok {M : Model} {A : Around} {E : Value → Shared → Prop} {i : Nat} {x : Str} {v : V} {u : Value} {Q : Unit → Shared → Prop} (I : Inv X pins σ H s) (hN : X.N.Nodup) (hi : X.N[i]? = some x) (hx : Loc X.env.scope x) (r : RelV v u)
    (h : ∀ s', Inv X pins (σ.set i (some v)) H s' → Q () s') (hf : X.fn x = true ∨ X.env.scope.names.lookup x = some .local := by first | exact .inl rfl | exact .inr rfl | assumption) : wpAny M A (storeName X.env x u) Q E s :=
  store_ok2 I hN hi hx r (fun s' I' _ => h s' I') hf
/-- behind a call or a block, the state as it is -/
theorem Inv.call' {s' : Shared} {ch : List Addr} (I : Inv X pins σ H s) (ho : s'.os = s.os) (u : Un (frs X.stack) ch H H' s.heap s'.heap) (hok : HOk X.prog X.w H' s'.heap) (hg : GB s.gens.size s'.gens)
    (hch : ∀ b ∈ ch, (b ∈ X.ex ∨ X.s_0.heap.objs.size ≤ b) ∧ b ≠ X.env.locals ∧ (∀ x c, X.env.cells.lookup x = some c → c ≠ b) ∧ ∀ p ∈ X.pn ++ pins, p.1 ≠ b) : Inv X pins σ H' s' := by
  obtain ⟨h', g', d', t', o'⟩ := s'
  have e : o' = s.os := ho
  subst e
  exact I.call (g' := g') (t' := t') (d' := d') u hok hg hch
end
/-- an exception: its class, its own dict's address (where it has one), the abstract heap behind it -/
abbrev XK := Value → Option Addr → Hp → Prop
abbrev St := List (Option V)
abbrev VK := V → Hp → Prop
/-- an expression's reading; a test's; an argument list's -/
abbrev TE := St → Hp → VK → Prop
abbrev TT := St → Hp → (Bool → Hp → Prop) → Prop
abbrev TA := St → Hp → (List V → Hp → Prop) → Prop
/-- what is wanted behind a statement -/
structure Ends where
  nx : St → Hp → Prop
  rt : VK
  bk : St → Hp → Prop := fun _ _ => False
  ct : St → Hp → Prop := fun _ _ => False
abbrev TS := Ends → St → Hp → Prop
def EP (X : Cx) (pins : List (Addr × Obj)) (σ : St) (Q : VK) (u : Value) (s' : Shared) : Prop := ∃ v H', Inv X pins σ H' s' ∧ RelV v u ∧ Q v H'
def TP (X : Cx) (pins : List (Addr × Obj)) (σ : St) (Q : Bool → Hp → Prop) (b : Bool) (s' : Shared) : Prop := ∃ H', Inv X pins σ H' s' ∧ Q b H'
def AP (X : Cx) (pins : List (Addr × Obj)) (σ : St) (Q : List V → Hp → Prop) (us : List Value) (s' : Shared) : Prop := ∃ vs H', Inv X pins σ H' s' ∧ Vals vs us ∧ Q vs H'
def SP (X : Cx) (pins : List (Addr × Obj)) (D : Ends) (f : Flow) (s' : Shared) : Prop :=
  match f with
  | .next => ∃ σ' H', Inv X pins σ' H' s' ∧ D.nx σ' H'
  | .brk => ∃ σ' H', Inv X pins σ' H' s' ∧ D.bk σ' H'
  | .cont => ∃ σ' H', Inv X pins σ' H' s' ∧ D.ct σ' H'
  | .ret u => ∃ v σ' H', Inv X pins σ' H' s' ∧ RelV v u ∧ D.rt v H'
def PE (X : Cx) (e : Expr) (t : TE) : Prop :=
  ∀ ⦃pins : List (Addr × Obj)⦄ (s : Shared) (σ : St) (H : Hp) (Q : VK), Inv X pins σ H s → t σ H Q → wpAny (model X.prog X.w) X.A (eval e X.env) (EP X pins σ Q) X.xe s
def PT (X : Cx) (e : Expr) (t : TT) : Prop :=
  ∀ ⦃pins : List (Addr × Obj)⦄ (s : Shared) (σ : St) (H : Hp) (Q : Bool → Hp → Prop), Inv X pins σ H s → t σ H Q → wpAny (model X.prog X.w) X.A (isTrue e X.env (eval e X.env)) (TP X pins σ Q) X.xe s
/-- a test whatever its 'whole' is (and, or) -/
def PW (X : Cx) (e : Expr) (t : TT) : Prop :=
  ∀ ⦃pins : List (Addr × Obj)⦄ (whole : Sem Value) (s : Shared) (σ : St) (H : Hp) (Q : Bool → Hp → Prop), Inv X pins σ H s → t σ H Q → wpAny (model X.prog X.w) X.A (isTrue e X.env whole) (TP X pins σ Q) X.xe s
theorem PW.pt {X : Cx} {e : Expr} {t : TT} (h : PW X e t) : PT X e t := fun pins => @h pins _
/-- not a starred one -/
def noStar : Expr → Bool
  | .Starred _ _ => false
  | _ => true
theorem star_of {e : Expr} {es : List Expr} {env : Env} (h : noStar e = true) : starEach (e :: es) env = (false, eval e env) :: starEach es env := by
  cases e <;> first
    | rfl
    | exact absurd h Bool.false_ne_true
theorem star_of1 {a : Expr} {env : Env} (h : noStar a = true) : starEach [a] env = [(false, eval a env)] := by
  rw [star_of h]
  rfl
theorem plain_of {pos : Pos} {env : Env} : ∀ {es : List Expr}, es.all noStar = true → (backTo pos (starEach es env)).any (·.1) = false
  | [], _ => rfl
  | e :: es, h => by
    rw [List.all_cons, Bool.and_eq_true] at h
    rw [star_of h.1]
    exact plain_of h.2
/-- an argument list (no star), from the left -/
def PA (X : Cx) (es : List Expr) (t : TA) : Prop :=
  ∀ ⦃pins : List (Addr × Obj)⦄ (pos : Pos) (s : Shared) (σ : St) (H : Hp) (Q : List V → Hp → Prop), Inv X pins σ H s → t σ H Q → wpAny (model X.prog X.w) X.A (spliced (backTo pos (starEach es X.env))) (AP X pins σ Q) X.xe s
def PS (X : Cx) (st : Stmt) (t : TS) : Prop :=
  ∀ ⦃pins : List (Addr × Obj)⦄ (s : Shared) (σ : St) (H : Hp) (D : Ends), Inv X pins σ H s → t D σ H → wpAny (model X.prog X.w) X.A (exec st X.env) (SP X pins D) X.xe s
def PSs (X : Cx) (st : List Stmt) (t : TS) : Prop :=
  ∀ ⦃pins : List (Addr × Obj)⦄ (s : Shared) (σ : St) (H : Hp) (D : Ends), Inv X pins σ H s → t D σ H → wpAny (model X.prog X.w) X.A (execs st X.env) (SP X pins D) X.xe s
/-- weaken the end -/
theorem thn {α : Type} {t : Sem α} {Q Q' : α → Shared → Prop} {M : Model} {A : Around} {E : Value → Shared → Prop} {s : Shared} (h : wpAny M A t Q E s) (hQ : ∀ a s, Q a s → Q' a s) : wpAny M A t Q' E s := wpAny_mono h hQ fun _ _ x => x
end L2
namespace L2
open PySem PySem.Spec PyProof.Rows
section
variable {X : Cx}
def tVar (i : Nat) : TE := fun σ H Q => ∃ v, σ[i]? = some (some v) ∧ Q v H
def tC (v : V) : TE := fun _ H Q => Q v H
theorem pe_var {i : Nat} {x : Str} {pos : Pos} (hN : X.N[i]? = some x) (hv : Vis X.env.scope x) (hd : (x == ("__debug__" : Str)) = false := by decide) (hcd : (x == ("__classdict__" : Str)) = false := by decide) : PE X (.Name x pos) (tVar i) := by
  intro pins s σ H Q I h
  obtain ⟨v, e, h⟩ := h
  obtain ⟨m, hn, hl⟩ := I.loc
  obtain ⟨u, r, l⟩ := hl i x v hN e hv
  have fin : EP X pins σ Q u s := ⟨v, H, I, r, h⟩
  rcases l with ⟨hk, hm⟩ | ⟨hk, c, hc, hcell⟩
  · exact wpAny_Name (wpAny_loadName_local I.ok.kind hk hn hm fin) hd
  · rcases hk with hk | hk
    · exact wpAny_Name (wpAny_loadName_cell I.ok.kind hk hc hcell fin) hd
    · exact wpAny_Name (wpAny_loadName_free I.ok.kind hk hc hcell fin hcd) hd
theorem pe_int {i j pos} : PE X (.Constant (.int i) j pos) (tC (.int i)) := fun _ _ _ H _ I h => wpAny_Constant_int ⟨.int i, H, I.tok _, ⟨_, rfl⟩, h⟩
theorem pe_bl {b j pos} : PE X (.Constant (.bool b) j pos) (tC (.bl b)) := fun _ _ _ H _ I h => Constant_bool ⟨.bl b, H, I, rfl, h⟩
theorem pe_non {j pos} : PE X (.Constant .none j pos) (tC .non) := fun _ _ _ H _ I h => Constant_none ⟨.non, H, I, rfl, h⟩
theorem pe_str {x j pos} : PE X (.Constant (.str x) j pos) (tC (.str x)) := fun _ _ _ H _ I h => Calls.Constant_str ⟨.str x, H, I.tok _, ⟨_, rfl⟩, h⟩
/-- a global name of the def -/
def Gl (X : Cx) (x : Str) : Prop := X.env.kindOf x = some .globalImplicit
theorem ld_glob {E : Value → Shared → Prop} {pins : List (Addr × Obj)} {s : Shared} {σ : St} {H : Hp} {x : Str} {u : Value} {pos : Pos} {Q : Value → Shared → Prop} (I : Inv X pins σ H s) (hg : Gl X x) (hm : X.mg x = some u) (h : Q u s)
    (hd : (x == ("__debug__" : Str)) = false := by decide) : wpAny (model X.prog X.w) X.A (eval (.Name x pos) X.env) Q E s :=
  Calls.Name_function_global I.ok.kind hg (Calls.loadGlobal_global (by rw [I.ok.glob]; exact I.mod.glob.keeps I.bk) hm h) hd
theorem ld_blt {E : Value → Shared → Prop} {pins : List (Addr × Obj)} {s : Shared} {σ : St} {H : Hp} {x : Str} {u : Value} {pos : Pos} {Q : Value → Shared → Prop} (I : Inv X pins σ H s) (hg : Gl X x) (hm : X.mg x = none) (hv : bootBuiltins x = some u) (h : Q u s)
    (hn : x ≠ "__name__" := by decide) (hd : (x == ("__debug__" : Str)) = false := by decide) : wpAny (model X.prog X.w) X.A (eval (.Name x pos) X.env) Q E s := by
  obtain ⟨mb, h1, h2⟩ := I.mod.blt
  exact Calls.Name_function_global I.ok.kind hg (Calls.loadGlobal_builtin (by rw [I.ok.glob]; exact I.mod.glob.keeps I.bk) hm (by rw [I.ok.blt]; exact h1.keeps I.bk) ((h2 x hn).trans hv) h) hd
/-- a module's constant, a class, a function, as a value -/
theorem pe_glob {x : Str} {v : V} {u : Value} {pos : Pos} (hg : Gl X x) (hm : X.mg x = some u) (r : RelV v u) (hd : (x == ("__debug__" : Str)) = false := by decide) : PE X (.Name x pos) (tC v) :=
  fun _ _ _ H _ I h => ld_glob I hg hm ⟨v, H, I, r, h⟩ hd
theorem pe_bltn {x : Str} {v : V} {u : Value} {pos : Pos} (hg : Gl X x) (hm : X.mg x = none) (hv : bootBuiltins x = some u) (r : RelV v u) (hn : x ≠ "__name__" := by decide) (hd : (x == ("__debug__" : Str)) = false := by decide) : PE X (.Name x pos) (tC v) :=
  fun _ _ _ H _ I h => ld_blt I hg hm hv ⟨v, H, I, r, h⟩ hn hd
variable {a b : Expr} {ta tb : TE} {pos : Pos}
def PC (X : Cx) (op : CmpOp) (a b : Expr) (t : TE) : Prop :=
  ∀ ⦃pins : List (Addr × Obj)⦄ (s : Shared) (σ : St) (H : Hp) (Q : VK), Inv X pins σ H s → t σ H Q →
    wpAny (model X.prog X.w) X.A (eval a X.env) (fun v s₁ => wpAny (model X.prog X.w) X.A (eval b X.env) (fun u s₂ => wpAny (model X.prog X.w) X.A (compareOp op v u) (EP X pins σ Q) X.xe s₂) X.xe s₁) X.xe s
theorem nobehind (b : Expr) {op : CmpOp} (h : op ≠ .In) (h2 : op ≠ .NotIn) : behindInMarks op b = false := by
  have e1 : (op == CmpOp.In) = false := by cases op <;> first | rfl | exact absurd rfl h
  have e2 : (op == CmpOp.NotIn) = false := by cases op <;> first | rfl | exact absurd rfl h2
  cases b <;> simp [behindInMarks, e1, e2]
def tNotN (ta : TE) : TE := fun σ H Q => ta σ H fun x H1 => Q (.bl (!decide (x = .non))) H1
theorem RelV.none_iff {x : V} {v : Value} (r : RelV x v) : (v == Value.none) = decide (x = .non) := by
  cases x with
  | non => cases r; rfl
  | bl _ => cases r; rfl
  | int _ => obtain ⟨t, rfl⟩ := r; rfl
  | str _ => obtain ⟨t, rfl⟩ := r; rfl
  | byt _ => obtain ⟨t, rfl⟩ := r; rfl
  | flt _ => obtain ⟨t, rfl⟩ := r; rfl
  | ref _ => cases r; rfl
  | ty _ => cases r; rfl
theorem pc_notN {j pos'} (ha : PE X a ta) : PC X .IsNot a (.Constant .none j pos') (tNotN ta) := by
  intro pins s σ H Q I h
  refine thn (ha s σ H _ I h) fun v s1 ⟨x, H1, I1, r1, q1⟩ => ?_
  exact Constant_none (isnot_none_gen ⟨.bl _, H1, I1, by rw [r1.none_iff]; rfl, q1⟩)
/-- a comparison as a value, as a test -/
def tB (t : TE) : TT := fun σ H Q => t σ H fun x H1 => ∃ c, x = .bl c ∧ Q c H1
theorem pt_cmp {op : CmpOp} {t : TE} (h : PC X op a b t) (h1 : behindInMarks op b = false := by first | exact nobehind _ (by decide) (by decide) | rfl) : PT X (.Compare a [op] [b] pos) (tB t) := by
  intro pins s σ H Q I hw
  refine wpAny_isTrue_Compare1 (thn (h s σ H _ I hw) fun v s1 h1 => thn h1 fun u s2 h2 => thn h2 fun c s3 ⟨x, H1, I1, r1, q1⟩ => ?_) h1
  obtain ⟨d, rfl, q⟩ := q1
  cases r1
  exact wpAny_truthy_bool ⟨H1, I1, q⟩
/-- an expression whose value is a bool, as a test -/
theorem pt_val {e : Expr} {t : TE} (h : PE X e t) (he : ∀ whole, isTrue e X.env whole = (do let v ← whole; standAt e.pos; holding [v] (truthy v)) := by intro _; rfl) : PT X e (tB t) := by
  intro pins s σ H Q I hw
  refine isTrue_plain (thn (h s σ H _ I hw) fun v s1 ⟨x, H1, I1, r1, q1⟩ => ?_) (he _)
  obtain ⟨d, rfl, q⟩ := q1
  cases r1
  exact wpAny_truthy_bool ⟨H1, I1, q⟩
variable {tA tB' : TT} {rest : List Expr}
def tAnd (t u : TT) : TT := fun σ H Q => t σ H fun c H1 => if c = true then u σ H1 Q else Q false H1
def tOr (t u : TT) : TT := fun σ H Q => t σ H fun c H1 => if c = true then Q true H1 else u σ H1 Q
def tNot (t : TT) : TT := fun σ H Q => t σ H fun c H1 => Q (!c) H1
theorem pw_and1 (ha : PT X a tA) : PW X (.BoolOp .And [a] pos) tA := by
  intro pins wh s σ H Q I h
  refine isTrue_and (thn (ha s σ H Q I h) fun c s1 e => ?_)
  cases c with
  | true => exact isTrue_and_nil e
  | false => exact e
theorem pw_or1 (ha : PT X a tA) : PW X (.BoolOp .Or [a] pos) tA := by
  intro pins wh s σ H Q I h
  refine isTrue_or (thn (ha s σ H Q I h) fun c s1 e => ?_)
  cases c with
  | false => exact isTrue_or_nil e
  | true => exact e
theorem pw_and (ha : PT X a tA) (hb : PW X (.BoolOp .And (b :: rest) pos) tB') : PW X (.BoolOp .And (a :: b :: rest) pos) (tAnd tA tB') := by
  intro pins wh s σ H Q I h
  refine isTrue_and (thn (ha s σ H _ I h) fun c s1 ⟨H1, I1, q1⟩ => ?_)
  cases c with
  | true => exact hb wh s1 σ H1 Q I1 q1
  | false => exact ⟨H1, I1, q1⟩
theorem pw_or (ha : PT X a tA) (hb : PW X (.BoolOp .Or (b :: rest) pos) tB') : PW X (.BoolOp .Or (a :: b :: rest) pos) (tOr tA tB') := by
  intro pins wh s σ H Q I h
  refine isTrue_or (thn (ha s σ H _ I h) fun c s1 ⟨H1, I1, q1⟩ => ?_)
  cases c with
  | true => exact ⟨H1, I1, q1⟩
  | false => exact hb wh s1 σ H1 Q I1 q1
theorem pt_not (ha : PT X a tA) : PT X (.UnaryOp .Not a pos) (tNot tA) := by
  intro pins s σ H Q I h
  exact isTrue_not (ha s σ H (fun c H1 => Q (!c) H1) I h)
/-- .. as values (bools) -/
def tAndV (ta tb : TE) : TE := fun σ H Q => ta σ H fun x H1 => ∃ c, x = .bl c ∧ if c = true then tb σ H1 Q else Q (.bl false) H1
def tNotV (ta : TE) : TE := fun σ H Q => ta σ H fun x H1 => ∃ c, x = .bl c ∧ Q (.bl (!c)) H1
theorem pe_one {op} {t : TE} (h : PE X a t) : PE X (.BoolOp op [a] pos) t := fun pins s σ H Q I hw => BoolOp_one (h s σ H Q I hw)
theorem pe_and (ha : PE X a ta) (hb : PE X (.BoolOp .And (b :: rest) pos) tb) : PE X (.BoolOp .And (a :: b :: rest) pos) (tAndV ta tb) := by
  intro pins s σ H Q I h
  refine BoolOp_and (thn (ha s σ H _ I h) fun v s1 ⟨x, H1, I1, r1, q1⟩ => ?_)
  obtain ⟨c, rfl, q1⟩ := q1
  cases r1
  refine wpAny_truthy_bool ?_
  cases c with
  | true => exact hb s1 σ H1 Q I1 q1
  | false => exact ⟨.bl false, H1, I1, rfl, q1⟩
theorem pe_not (ha : PE X a ta) : PE X (.UnaryOp .Not a pos) (tNotV ta) := by
  intro pins s σ H Q I h
  refine UnaryOp_ (thn (ha s σ H _ I h) fun v s1 ⟨x, H1, I1, r1, q1⟩ => ?_)
  obtain ⟨c, rfl, q1⟩ := q1
  cases r1
  exact not_of (wpAny_truthy_bool ⟨.bl (!c), H1, I1, rfl, q1⟩)
/-- a if t else b -/
def tIf (t : TT) (ta tb : TE) : TE := fun σ H Q => t σ H fun c H1 => if c = true then ta σ H1 Q else tb σ H1 Q
theorem pe_ifExp {c : Expr} (hc : PT X c tA) (ha : PE X a ta) (hb : PE X b tb) : PE X (.IfExp c a b pos) (tIf tA ta tb) := by
  intro pins s σ H Q I h
  refine wpAny_IfExp (thn (hc s σ H _ I h) fun d s1 ⟨H1, I1, q1⟩ => ?_)
  cases d with
  | true => exact ha s1 σ H1 Q I1 q1
  | false => exact hb s1 σ H1 Q I1 q1
end
end L2
namespace L2
open PySem PySem.Spec PyProof.Rows
def SqL (K : PySem.W.Frag) (H : Hp) (a : Addr) (xs : List V) : Prop :=
  Rd H a (.lst xs) ∨
    ∃ (o : Obj) (its : Array Value) (n : Nat), K.lookup a = some o ∧ o.cls = .type "list" ∧ o.dict = none ∧ o.data = .seq its n ∧ its.size ≤ sizeLine ∧ Vals xs its.toList
def SqT (K : PySem.W.Frag) (H : Hp) (a : Addr) (xs : List V) : Prop :=
  Rd H a (.tup xs) ∨
    ∃ (o : Obj) (its : Array Value) (n : Nat), K.lookup a = some o ∧ o.cls = .type "tuple" ∧ o.data = .seq its n ∧ its.size ≤ sizeLine ∧ Vals xs its.toList
def absV : Value → Option V
  | .none => some .non
  | .bool b => some (.bl b)
  | .int i _ => some (.int i)
  | .str x _ => some (.str x)
  | .bytes b _ => some (.byt b)
  | .float b _ => some (.flt b)
  | .ref a => some (.ref a)
  | .type n => some (.ty n)
  | _ => none
theorem RelV.abs {x : V} {u : Value} (r : RelV x u) : absV u = some x := by
  cases x with
  | non => cases r; rfl
  | bl _ => cases r; rfl
  | int _ => obtain ⟨t, rfl⟩ := r; rfl
  | str _ => obtain ⟨t, rfl⟩ := r; rfl
  | byt _ => obtain ⟨t, rfl⟩ := r; rfl
  | flt _ => obtain ⟨t, rfl⟩ := r; rfl
  | ref _ => cases r; rfl
  | ty _ => cases r; rfl
theorem RelV.inj {x y : V} {u : Value} (r : RelV x u) (q : RelV y u) : x = y := Option.some.inj (r.abs.symm.trans q.abs)
theorem Vals.inj : ∀ {xs ys : List V} {us : List Value}, Vals xs us → Vals ys us → xs = ys
  | _, _, _, .nil, .nil => rfl
  | _, _, _, .cons r t, .cons r' t' => by rw [r.inj r', Vals.inj t t']
section
variable {X : Cx} {pins : List (Addr × Obj)} {σ : St} {H : Hp} {s : Shared} {a : Addr} {xs ys : List V}
theorem SqL.of {K : PySem.W.Frag} (h : H a = some (.lst xs)) : SqL K H a xs := .inl (.inl h)
theorem SqT.of {K : PySem.W.Frag} (h : H a = some (.tup xs)) : SqT K H a xs := .inl (.inl h)
theorem Inv.list (I : Inv X pins σ H s) (h : SqL X.K H a xs) : ∃ its : List Value, Vals xs its ∧ PlainL s.heap a its.toArray ∧ xs.length ≤ sizeLine := by
  rcases h with h | ⟨o, its, n, hk, hc, hd, hs, hz, r⟩
  · obtain ⟨z, its, n, r, e⟩ := h.ok I.hok
    exact ⟨its, r, ⟨_, n, e, rfl, rfl, rfl⟩, z⟩
  · refine ⟨its.toList, r, ⟨o, n, I.kIn a o hk, hc, hd, by simpa using hs⟩, ?_⟩
    have e := r.length
    simp only [Array.length_toList] at e
    omega
theorem Inv.tuple (I : Inv X pins σ H s) (h : SqT X.K H a xs) : ∃ its : List Value, Vals xs its ∧ IsTup s.heap a its.toArray ∧ xs.length ≤ sizeLine := by
  rcases h with h | ⟨o, its, n, hk, hc, hs, hz, r⟩
  · obtain ⟨z, its, r, p⟩ := h.ok I.hok
    exact ⟨its, r, p.tup, z⟩
  · refine ⟨its.toList, r, ⟨o, I.kIn a o hk, hc, n, by simpa using hs⟩, ?_⟩
    have e := r.length
    simp only [Array.length_toList] at e
    omega
theorem Inv.list_inj (I : Inv X pins σ H s) (h : SqL X.K H a xs) (h' : SqL X.K H a ys) : xs = ys := by
  obtain ⟨its, r, ⟨o, n, e, _, _, d⟩, _⟩ := I.list h
  obtain ⟨its', r', ⟨o', n', e', _, _, d'⟩, _⟩ := I.list h'
  rw [e] at e'; cases e'
  rw [d] at d'
  injection d' with d1 _
  have : its = its' := by simpa using congrArg Array.toList d1
  subst this
  exact r.inj r'
theorem Inv.tuple_inj (I : Inv X pins σ H s) (h : SqT X.K H a xs) (h' : SqT X.K H a ys) : xs = ys := by
  obtain ⟨its, r, ⟨o, e, _, n, d⟩, _⟩ := I.tuple h
  obtain ⟨its', r', ⟨o', e', _, n', d'⟩, _⟩ := I.tuple h'
  rw [e] at e'; cases e'
  rw [d] at d'
  injection d' with d1 _
  have : its = its' := by simpa using congrArg Array.toList d1
  subst this
  exact r.inj r'
end
abbrev Cx.wish (X : Cx) (E : Value → Shared → Prop) : Cx := { X with xe := E }
/-- no exception leaves -/
abbrev Cx.nox (X : Cx) : Cx := X.wish fun _ _ => False
theorem Cx.Ok.wish {X : Cx} (ok : X.Ok) (E : Value → Shared → Prop) : (X.wish E).Ok :=
  ⟨ok.mod, ok.kind, ok.glob, ok.blt, ok.above, ok.inj, ok.has, ok.cab, ok.hd, ok.frames, ok.stk, ok.exf, ok.bs, ok.bsz, ok.noex, ok.exfs, ok.funs, ok.frf⟩
theorem Cx.Ok.unwish {X : Cx} {E : Value → Shared → Prop} (ok : (X.wish E).Ok) : X.Ok :=
  ⟨ok.mod, ok.kind, ok.glob, ok.blt, ok.above, ok.inj, ok.has, ok.cab, ok.hd, ok.frames, ok.stk, ok.exf, ok.bs, ok.bsz, ok.noex, ok.exfs, ok.funs, ok.frf⟩
section
variable {X : Cx} {pins : List (Addr × Obj)} {σ : St} {H : Hp} {s : Shared} {E : Value → Shared → Prop}
theorem Inv.wish (I : Inv X pins σ H s) (E : Value → Shared → Prop) : Inv (X.wish E) pins σ H s := ⟨I.ok.wish E, I.os, I.bare, I.base, I.loc, I.cell, I.free, I.freeC, I.pin, I.hok, I.len⟩
theorem Inv.unwish (I : Inv (X.wish E) pins σ H s) : Inv X pins σ H s := ⟨I.ok.unwish, I.os, I.bare, I.base, I.loc, I.cell, I.free, I.freeC, I.pin, I.hok, I.len⟩
theorem SP.unwish {D : Ends} {f : Flow} {s' : Shared} (h : SP (X.wish E) pins D f s') : SP X pins D f s' := by
  cases f with
  | next => obtain ⟨σ', H', I, q⟩ := h; exact ⟨σ', H', I.unwish, q⟩
  | brk => obtain ⟨σ', H', I, q⟩ := h; exact ⟨σ', H', I.unwish, q⟩
  | cont => obtain ⟨σ', H', I, q⟩ := h; exact ⟨σ', H', I.unwish, q⟩
  | ret u => obtain ⟨v, σ', H', I, r, q⟩ := h; exact ⟨v, σ', H', I.unwish, r, q⟩
theorem PE.nox {e : Expr} {t : TE} (h : PE X.nox e t) : PE X e t := fun pins s σ H Q I hw =>
  wpAny_mono (h s σ H Q (I.wish _) hw) (fun _ _ ⟨v, H', I', r, q⟩ => ⟨v, H', I'.unwish, r, q⟩) fun _ _ z => False.elim z
theorem PT.nox {e : Expr} {t : TT} (h : PT X.nox e t) : PT X e t := fun pins s σ H Q I hw =>
  wpAny_mono (h s σ H Q (I.wish _) hw) (fun _ _ ⟨H', I', q⟩ => ⟨H', I'.unwish, q⟩) fun _ _ z => False.elim z
theorem PSs.nox {st : List Stmt} {t : TS} (h : PSs X.nox st t) : PSs X st t := fun pins s σ H D I hw =>
  wpAny_mono (h s σ H D (I.wish _) hw) (fun _ _ q => q.unwish) fun _ _ z => False.elim z
end
section
variable {X : Cx} {st : Stmt} {rest : List Stmt} {t u : TS} {e : Expr} {te : TE} {pos : Pos}
def tNext : TS := fun D σ H => D.nx σ H
def tSeq (t u : TS) : TS := fun D σ H => t { D with nx := u D } σ H
theorem pss_nil : PSs X [] tNext := fun _ _ σ H _ I h => wpAny_execs_nil ⟨σ, H, I, h⟩
theorem pss_cons (h1 : PS X st t) (h2 : PSs X rest u) : PSs X (st :: rest) (tSeq t u) := by
  intro pins s σ H D I h
  refine wpAny_execs_cons (thn (h1 s σ H { D with nx := u D } I h) fun f s1 q => ?_)
  cases f with
  | next =>
    obtain ⟨σ', H', I', q⟩ := q
    exact h2 s1 σ' H' D I' q
  | ret v => exact q
  | brk => exact q
  | cont => exact q
theorem pss_one (h1 : PS X st t) : PSs X [st] t := by
  intro pins s σ H D I h
  refine wpAny_execs_cons (thn (h1 s σ H D I h) fun f s1 q => ?_)
  cases f with
  | next => exact wpAny_execs_nil q
  | ret v => exact q
  | brk => exact q
  | cont => exact q
def tCont : TS := fun D σ H => D.ct σ H
theorem ps_continue : PS X (.Continue pos) tCont := fun _ _ σ H _ I h => wpAny_Continue ⟨σ, H, I, h⟩
/-- in a def's body nothing is shown -/
theorem Inv.quiet {pins : List (Addr × Obj)} {σ : St} {H : Hp} {s : Shared} (I : Inv X pins σ H s) : interactive X.env = false := by simp [interactive, I.ok.kind]
/-- an expression whose value is dropped -/
def tDrop (te : TE) : TS := fun D σ H => te σ H fun _ H1 => D.nx σ H1
theorem ps_expr (he : PE X e te) (hs : swapsWith e none pos.line X.env = pure false := by rfl) : PS X (.Expr e pos) (tDrop te) := by
  intro pins s σ H D I h
  exact wpAny_Expr_any (thn (he s σ H _ I h) fun v s1 ⟨x, H1, I1, r1, q1⟩ => ⟨σ, H1, I1, q1⟩) I.quiet hs
def tRet (te : TE) : TS := fun D σ H => te σ H D.rt
theorem ps_ret (he : PE X e te) : PS X (.Return (some e) pos) (tRet te) := by
  intro pins s σ H D I h
  exact wpAny_Return_some (thn (he s σ H _ I h) fun v s1 ⟨x, H1, I1, r1, q1⟩ => ⟨x, σ, H1, I1, r1, q1⟩)
def tIfS (c : TT) (t u : TS) : TS := fun D σ H => c σ H fun b H1 => if b = true then t D σ H1 else u D σ H1
theorem ps_if {c : Expr} {a b : List Stmt} {tc : TT} (hc : PT X c tc) (ha : PSs X a t) (hb : PSs X b u) : PS X (.If c a b pos) (tIfS tc t u) := by
  intro pins s σ H D I h
  refine wpAny_If (thn (hc s σ H _ I h) fun d s1 ⟨H1, I1, q1⟩ => ?_)
  cases d with
  | true => exact ha s1 σ H1 D I1 q1
  | false => exact hb s1 σ H1 D I1 q1
/-- code that the proof never comes to -/
def tNever : TS := fun _ _ _ => False
theorem ps_never : PS X st tNever := fun _ _ _ _ _ _ h => h.elim
end
abbrev TG := V → St → Hp → (St → Hp → Prop) → Prop
abbrev TGs := List V → St → Hp → (St → Hp → Prop) → Prop
def PG (X : Cx) (target : Expr) (t : TG) : Prop :=
  ∀ ⦃pins : List (Addr × Obj)⦄ (s : Shared) (σ : St) (H : Hp) (v : V) (u : Value) (Q : St → Hp → Prop), Inv X pins σ H s → RelV v u → t v σ H Q →
    wpAny (model X.prog X.w) X.A (assign target X.env u) (fun _ s' => ∃ σ' H', Inv X pins σ' H' s' ∧ Q σ' H') X.xe s
/-- several targets, one after another -/
def PGs (X : Cx) (ts : List Expr) (t : TGs) : Prop :=
  ∀ ⦃pins : List (Addr × Obj)⦄ (s : Shared) (σ : St) (H : Hp) (vs : List V) (us : List Value) (Q : St → Hp → Prop), Inv X pins σ H s → Vals vs us → t vs σ H Q →
    wpAny (model X.prog X.w) X.A (assignInOrder ((assignEach ts X.env).map (·.2)) us) (fun _ s' => ∃ σ' H', Inv X pins σ' H' s' ∧ Q σ' H') X.xe s
/-- o[i] = v, by values -/
abbrev TSet := V → V → V → Hp → (Hp → Prop) → Prop
def PSet (X : Cx) (t : TSet) : Prop :=
  ∀ ⦃pins : List (Addr × Obj)⦄ (s : Shared) (σ : St) (H : Hp) (o i v : V) (ov iv u : Value) (Q : Hp → Prop), Inv X pins σ H s → RelV o ov → RelV i iv → RelV v u → t o i v H Q →
    wpAny (model X.prog X.w) X.A (setItem ov iv u) (fun _ s' => ∃ H', Inv X pins σ H' s' ∧ Q H') X.xe s
/-- a op= b, by values -/
abbrev TIp := V → V → Hp → VK → Prop
def PIp (X : Cx) (op : Operator) (t : TIp) : Prop :=
  ∀ ⦃pins : List (Addr × Obj)⦄ (s : Shared) (σ : St) (H : Hp) (x y : V) (v u : Value) (Q : VK), Inv X pins σ H s → RelV x v → RelV y u → t x y H Q →
    wpAny (model X.prog X.w) X.A (inplaceOp op v u) (EP X pins σ Q) X.xe s
section
variable {X : Cx} {pos : Pos}
def gName (i : Nat) : TG := fun v σ H Q => Q (σ.set i (some v)) H
theorem pg_name {i : Nat} {x : Str} (hN : X.N.Nodup) (hi : X.N[i]? = some x) (hx : Loc X.env.scope x) (hf : X.fn x = true ∨ X.env.scope.names.lookup x = some .local := by first | exact .inl rfl | exact .inr rfl | assumption) : PG X (.Name x pos) (gName i) := by
  intro pins s σ H v u Q I r h
  exact wpAny_assign_Name (store_ok I hN hi hx r (fun s' I' => ⟨_, H, I', h⟩) hf)
def gNil : TGs := fun vs σ H Q => vs = [] ∧ Q σ H
def gCons (t : TG) (u : TGs) : TGs := fun vs σ H Q => ∃ v r, vs = v :: r ∧ t v σ H fun σ' H' => u r σ' H' Q
theorem pgs_nil : PGs X [] gNil := by
  intro pins s σ H vs us Q I r h
  obtain ⟨e, h⟩ := h
  subst e
  cases r
  exact assignInOrder_nil ⟨σ, H, I, h⟩
theorem pgs_cons {e : Expr} {es : List Expr} {t : TG} {u : TGs} (h1 : PG X e t) (h2 : PGs X es u)
    (hs : (assignEach (e :: es) X.env).map (·.2) = assign e X.env :: (assignEach es X.env).map (·.2) := by rfl) : PGs X (e :: es) (gCons t u) := by
  intro pins s σ H vs us Q I r h
  obtain ⟨v, vr, e1, h⟩ := h
  subst e1
  cases r with
  | cons r rr =>
    rw [hs]
    refine assignInOrder_cons (thn (h1 s σ H _ _ _ I r h) fun _ s1 ⟨σ1, H1, I1, q1⟩ => ?_)
    exact h2 s1 σ1 H1 _ _ Q I1 rr q1
/-- (a, b, ..) = a tuple of that length -/
def gTup (K : PySem.W.Frag) (n : Nat) (t : TGs) : TG := fun v σ H Q => ∃ a xs, v = .ref a ∧ SqT K H a xs ∧ xs.length = n ∧ t xs σ H Q
theorem pg_tup {es : List Expr} {k : Nat} {t : TGs} {n : Nat} (hc : X.calm = true) (h : PGs X es t)
    (hn : (assignEach es X.env).length = n := by rfl) (hst : (assignEach es X.env).findIdx? (·.1) = none := by rfl) : PG X (.Tuple es k pos) (gTup X.K n t) := by
  intro pins s σ H v u Q I r hw
  obtain ⟨a, xs, e1, hq, hl, hw⟩ := hw
  subst e1
  cases r
  obtain ⟨its, rv, ht, hz⟩ := I.tuple hq
  refine assign_Tuple_tuple (I.ok.hd hc) ht (by simp [hn, ← hl, rv.length]) hst fun h' hx => ?_
  have I1 : Inv X pins σ H { s with heap := h' } := I.kept (t' := s.toks) fun b o e => hx b o (Nat.ne_of_lt (Heap.lt_size e)) e
  exact h _ σ H xs _ Q I1 (by simpa using rv) hw
/-- o[i] = .. -/
def gSub (to ti : TE) (t : TSet) : TG := fun v σ H Q => to σ H fun o H1 => ti σ H1 fun i H2 => t o i v H2 fun H3 => Q σ H3
theorem pg_sub {o i : Expr} {to ti : TE} {t : TSet} (ho : PE X o to) (hi : PE X i ti) (hs : PSet X t)
    (ha : ∀ v, assign (.Subscript o i pos) X.env v = (do
      let ov ← holding [v] (eval o X.env)
      let iv ← holding [v, ov] (eval i X.env)
      standAt pos
      holding [v, ov, iv] (setItem ov iv v)
      release [v, ov, iv] []) := by intro _; rfl) : PG X (.Subscript o i pos) (gSub to ti t) := by
  intro pins s σ H v u Q I r h
  rw [ha]
  refine wpAny_bind (wpAny_holding (thn (ho s σ H _ I h) fun ov s1 ⟨x, H1, I1, r1, q1⟩ => ?_))
  refine wpAny_bind (wpAny_holding (thn (hi s1 σ H1 _ I1 q1) fun iv s2 ⟨y, H2, I2, r2, q2⟩ => ?_))
  refine wpAny_bind (wpAny_standAt (wpAny_bind (wpAny_holding (thn (hs s2 σ H2 x y v ov iv u _ I2 r1 r2 r q2) fun _ s3 ⟨H3, I3, q3⟩ => ?_))))
  exact wpAny_release ⟨σ, H3, I3, q3⟩
/-- target = value -/
def tAsg (te : TE) (g : TG) : TS := fun D σ H => te σ H fun x H1 => g x σ H1 D.nx
theorem ps_asg {tg e : Expr} {te : TE} {g : TG} (he : PE X e te) (hg : PG X tg g) (hs : swapsWithSole [tg] e pos.line X.env = pure false := by rfl) (hw : swappedStores [tg] e X.env = pure none := by rfl)
    (h1 : (assignEach [tg] X.env).map (·.2) = [assign tg X.env] := by rfl) : PS X (.Assign [tg] e pos) (tAsg te g) := by
  intro pins s σ H D I h
  refine wpAny_Assign_stores (thn (he s σ H _ I h) fun v s1 ⟨x, H1, I1, r1, q1⟩ => ?_) hs hw
  rw [h1]
  exact thn (hg s1 σ H1 x v _ I1 r1 q1) fun _ s2 q => q
/-- name = value -/
theorem ps_set {i : Nat} {x : Str} {e : Expr} {te : TE} {pos' : Pos} (hN : X.N.Nodup) (hi : X.N[i]? = some x) (hx : Loc X.env.scope x) (he : PE X e te) (hs : swapsWith e (some (.Name x pos')) pos.line X.env = pure false := by rfl) (hf : X.fn x = true ∨ X.env.scope.names.lookup x = some .local := by first | exact .inl rfl | exact .inr rfl | assumption) :
    PS X (.Assign [.Name x pos'] e pos) (tAsg te (gName i)) := by
  intro pins s σ H D I h
  refine wpAny_Assign_Name (thn (he s σ H _ I h) fun v s1 ⟨y, H1, I1, r1, q1⟩ => ?_) hs
  exact store_ok I1 hN hi hx r1 (fun s2 I2 => ⟨_, H1, I2, q1⟩) hf
/-- a, b = x, y with plain local names: stored from the right; the pair itself is not tracked (the opening rows as in PyProof/Rows/TupAssign.lean:23) -/
def tPar (i j : Nat) (ta : TA) : TS := fun D σ H => ta σ H fun vs H1 => ∃ v w, vs = [v, w] ∧ D.nx ((σ.set i (some v)).set j (some w)) H1
theorem ps_par {i j : Nat} {x y : Str} {a b : Expr} {ta : TA} {px py pt : Pos} {kt k2 pt2} (hc : X.calm = true) (hN : X.N.Nodup) (hi : X.N[i]? = some x) (hj : X.N[j]? = some y) (hij : i ≠ j)
    (hx : X.env.scope.names.lookup x = some .local) (hy : X.env.scope.names.lookup y = some .local) (ha : PA X [a, b] ta)
    (hw : swappedStores [.Tuple [.Name x px, .Name y py] kt pt] (.Tuple [a, b] k2 pt2) X.env = pure (some [x, y]))
    (hs : swapsWithSole [.Tuple [.Name x px, .Name y py] kt pt] (.Tuple [a, b] k2 pt2) pos.line X.env = pure false := by rfl) :
    PS X (.Assign [.Tuple [.Name x px, .Name y py] kt pt] (.Tuple [a, b] k2 pt2) pos) (tPar i j ta) := by
  intro pins s σ H D I h
  rw [exec_Assign_arm]
  refine wpAny_bind (wpAny_standAt ?_)
  rw [hs]
  refine wpAny_bind (wpAny_pure ?_)
  rw [if_neg (by decide)]
  refine wpAny_bind (Tuple_ (thn (ha _ s σ H _ I h) fun us s1 ⟨vs, H1, I1, r1, q1⟩ => ?_))
  obtain ⟨v, w, e1, q1⟩ := q1
  subst e1
  obtain ⟨u1, u2, rfl, rv, rw'⟩ : ∃ u1 u2, us = [u1, u2] ∧ RelV v u1 ∧ RelV w u2 := by
    cases r1 with
    | cons p q =>
      cases q with
      | cons p' q' =>
        cases q'
        exact ⟨_, _, rfl, p, p'⟩
  refine wpAny_newObj_type ?_ (by show 2 ≤ sizeLine; decide)
  have I2 : Inv X pins σ H1 { s1 with heap := s1.heap.push { cls := .type "tuple", data := .seq [u1, u2].toArray } } := I1.kept (t' := s1.toks) fun b o e => Heap.get?_push_of_some _ e
  rw [hw]
  refine wpAny_bind (wpAny_pure ?_)
  show wpAny (model X.prog X.w) X.A (do rule "assign.swapped-stores"; let items ← unpackItems (.ref s1.heap.objs.size) 2 none; assignInOrder [fun v => bindName X.env y v, fun v => bindName X.env x v] items.reverse; pure Flow.next) _ _ _
  refine wpAny_bind (wpAny_rule (wpAny_bind (unpackItems_tuple (items := #[u1, u2]) (I.ok.hd hc) (IsTup.new s1.heap _) fun h' hx' => ?_)))
  have I3 := I2.kept (h' := h') (t' := s1.toks) fun b o e => hx' b o (Nat.ne_of_lt (Heap.lt_size e)) e
  show wpAny _ _ (assignInOrder [fun v => bindName X.env y v, fun v => bindName X.env x v] [u2, u1] >>= fun _ => pure Flow.next) _ _ _
  refine wpAny_bind (assignInOrder_cons (wpAny_bindName (store_ok I3 hN hj (.inl hy) rw' (fun s2 I4 => ?_) (.inr hy))))
  refine assignInOrder_cons (wpAny_bindName (store_ok I4 hN hi (.inl hx) rv (fun s3 I5 => assignInOrder_nil (wpAny_pure ?_)) (.inr hx)))
  rw [List.set_comm _ _ (Ne.symm hij)] at I5
  exact ⟨_, H1, I5, q1⟩
/-- name op= e -/
def tAug (i : Nat) (te : TE) (ti : TIp) : TS := fun D σ H => ∃ x, σ[i]? = some (some x) ∧ te σ H fun y H1 => ti x y H1 fun z H2 => D.nx (σ.set i (some z)) H2
theorem ps_aug {i : Nat} {x : Str} {e : Expr} {te : TE} {op : Operator} {ti : TIp} {pos' : Pos} (hN : X.N.Nodup) (hi : X.N[i]? = some x) (hx : Loc X.env.scope x) (he : PE X e te) (ho : PIp X op ti) (hf : X.fn x = true ∨ X.env.scope.names.lookup x = some .local := by first | exact .inl rfl | exact .inr rfl | assumption) :
    PS X (.AugAssign (.Name x pos') op e pos) (tAug i te ti) := by
  intro pins s σ H D I h
  obtain ⟨v, e1, h⟩ := h
  obtain ⟨m, hn, hl⟩ := I.loc
  have vis : Vis X.env.scope x := by rcases hx with k | k; exact .inl k; exact .inr (.inl k)
  obtain ⟨u, r, l⟩ := hl i x v hi e1 vis
  refine wpAny_AugAssign_Name ?_
  have go : wpAny (model X.prog X.w) X.A (eval e X.env) (fun w s₂ => wpAny (model X.prog X.w) X.A (inplaceOp op u w) (fun r s₃ => wpAny (model X.prog X.w) X.A (storeName X.env x r) (fun _ => SP X pins D .next) X.xe s₃) X.xe s₂) X.xe s := by
    refine thn (he s σ H _ I h) fun w s1 ⟨y, H1, I1, r1, q1⟩ => ?_
    refine thn (ho s1 σ H1 v y u w _ I1 r r1 q1) fun z s2 ⟨zv, H2, I2, r2, q2⟩ => ?_
    exact store_ok I2 hN hi hx r2 (fun s3 I3 => ⟨_, H2, I3, q2⟩) hf
  rcases l with ⟨hk, hm⟩ | ⟨hk, c, hc, hcell⟩
  · exact wpAny_loadName_local I.ok.kind hk hn hm go
  · rcases hk with hk | hk
    · exact wpAny_loadName_cell I.ok.kind hk hc hcell go
    · rcases hx with k | k
      · have : X.env.scope.names.lookup x = some .free := hk
        rw [k] at this; cases this
      · have : X.env.scope.names.lookup x = some .free := hk
        rw [k] at this; cases this
end
section
variable {X : Cx} {pos : Pos}
/-- the invariant W with its measure -/
def tWhile (c : TT) (tb : TS) : TS := fun D σ H => ∃ W : Nat → St → Hp → Prop, (∃ m, W m σ H) ∧ ∀ m σ H, W m σ H →
  c σ H fun b H1 => if b = true then ∃ N : St → Hp → Prop, (∀ σ' H', N σ' H' → ∃ m', m' < m ∧ W m' σ' H') ∧ tb { D with nx := N, ct := N, bk := D.nx } σ H1 else D.nx σ H1
theorem ps_while {c : Expr} {body : List Stmt} {tc : TT} {tb : TS} (hp : PassesOwn (model X.prog X.w) X.A X.env X.xe) (hc : PT X c tc) (hb : PSs X body tb) : PS X (.While c body [] pos) (tWhile tc tb) := by
  intro pins s σ H D I h
  obtain ⟨W, ⟨m0, w0⟩, turn⟩ := h
  refine wpAny_While (codeAny_whileLoop (fun n s' => ∃ σ' H', Inv X pins σ' H' s' ∧ W n σ' H') ?_ m0 ⟨σ, H, I, w0⟩)
  rintro n s1 ⟨σ1, H1, I1, w1⟩
  refine wpAny_passesOwn hp (thn (hc s1 σ1 H1 _ I1 (turn n σ1 H1 w1)) fun b s2 ⟨H2, I2, q2⟩ => ?_)
  cases b with
  | true =>
    obtain ⟨N, hN, q2⟩ := q2
    rw [if_pos rfl]
    refine wpAny_passesOwn hp (thn (hb s2 σ1 H2 _ I2 q2) fun f s3 q3 => ?_)
    cases f with
    | next =>
      obtain ⟨σ3, H3, I3, n3⟩ := q3
      obtain ⟨m', hm, w3⟩ := hN σ3 H3 n3
      exact ⟨m', hm, σ3, H3, I3, w3⟩
    | cont =>
      obtain ⟨σ3, H3, I3, n3⟩ := q3
      obtain ⟨m', hm, w3⟩ := hN σ3 H3 n3
      exact ⟨m', hm, σ3, H3, I3, w3⟩
    | brk => exact q3
    | ret v => exact q3
  | false =>
    rw [if_neg Bool.false_ne_true]
    exact wpAny_execs_nil ⟨σ1, H2, I2, q2⟩
end
/-- at turn i: it yields x (the heap may grow), or it stops -/
structure It where
  go : Nat → Hp → Prop
  yld : Nat → Hp → V → Hp → Prop
  stop : Nat → Hp → Prop
/-- the iterator's own objects may turn: they are not the frame's, not pinned, younger than the entry (or a comprehension's own) -/
def FpOk (X : Cx) (pins : List (Addr × Obj)) (H : Hp) (b : Addr) : Prop :=
  H b = none ∧ b ≠ X.env.locals ∧ b ∉ X.fs ∧ (b ∈ X.ex ∨ X.s_0.heap.objs.size ≤ b) ∧ (∀ x c, X.env.cells.lookup x = some c → c ≠ b) ∧ ∀ p ∈ X.pn ++ pins, p.1 ≠ b
theorem Inv.fpOk {X : Cx} {pins : List (Addr × Obj)} {σ : St} {H H' : Hp} {s : Shared} {b : Addr} (I : Inv X pins σ H s) (hb : s.heap.objs.size ≤ b) (hn : H' b = none) : FpOk X pins H' b := by
  refine ⟨hn, Nat.ne_of_gt (Nat.lt_of_lt_of_le I.lt hb), I.nofs hb, .inr (Nat.le_trans I.sz hb), fun x c e z => ?_, fun p hp z => ?_⟩
  · obtain ⟨v, q⟩ := I.cell x c e
    exact absurd (Nat.lt_of_lt_of_le q.lt (by rw [z]; exact hb)) (Nat.lt_irrefl _)
  · exact absurd (Nat.lt_of_lt_of_le (Heap.lt_size (I.pin p hp).1) (by rw [z]; exact hb)) (Nat.lt_irrefl _)
structure Turn (P : Program) (w : World) (K : PySem.W.Frag) (tg : Expr) (J : It) (fp : List Addr) (it : Addr) (tn : Nat → Heap → Prop) : Prop where
  mem : it ∈ fp
  obj : ∀ i h, tn i h → ∀ b ∈ fp, ∃ o, h.get? b = some o ∧ ∀ v, o.data ≠ .cell v
  keep : ∀ i h h', tn i h → (∀ b ∈ fp, ∀ o, h.get? b = some o → h'.get? b = some o) → tn i h'
  item : ∀ (X : Cx), X.prog = P → X.w = w → X.K = K → X.calm = true → ∀ (i : Nat) ⦃pins : List (Addr × Obj)⦄ (s : Shared) (σ : St) (H : Hp) (E : Value → Shared → Prop), Inv X pins σ H s → (∀ b ∈ fp, FpOk X pins H b) → tn i s.heap → J.go i H →
    wpAny (model P w) X.A (pyNext (.ref it)) (fun r s1 => ∃ u, r = some u ∧
      wpAny (model P w) X.A (letOwnedTupleGo tg (.ref it) u) (fun _ s2 => ∃ x H', Inv X pins σ H' s2 ∧ RelV x u ∧ J.yld i H x H' ∧ tn (i + 1) s2.heap ∧ ∀ b ∈ fp, H' b = none) E s1) E s
  done : ∀ (X : Cx), X.prog = P → X.w = w → X.K = K → X.calm = true → ∀ (i : Nat) ⦃pins : List (Addr × Obj)⦄ (s : Shared) (σ : St) (H : Hp) (E : Value → Shared → Prop), Inv X pins σ H s → (∀ b ∈ fp, FpOk X pins H b) → tn i s.heap → J.stop i H →
    wpAny (model P w) X.A (pyNext (.ref it)) (fun r s1 => r = none ∧ Inv X pins σ H s1) E s
  self : ∀ (A : Around) (i : Nat) (s : Shared) (Q : Value → Shared → Prop) (E : Value → Shared → Prop), tn i s.heap → Q (.ref it) s → wpAny (model P w) A (pyIter (.ref it)) Q E s
abbrev TI := St → Hp → (It → Hp → Prop) → Prop
/-- an iterator has come -/
def PIE (X : Cx) (pins : List (Addr × Obj)) (σ : St) (tg : Expr) (R : It → Hp → Prop) (itv : Value) (s2 : Shared) : Prop :=
  ∃ (it : Addr) (fp : List Addr) (tn : Nat → Heap → Prop) (J : It) (H' : Hp), itv = .ref it ∧ Inv X pins σ H' s2 ∧ Turn X.prog X.w X.K tg J fp it tn ∧ tn 0 s2.heap ∧ (∀ b ∈ fp, FpOk X pins H' b) ∧ R J H'
def PI (X : Cx) (tg iter : Expr) (wi : TI) : Prop :=
  ∀ ⦃pins : List (Addr × Obj)⦄ (s : Shared) (σ : St) (H : Hp) (R : It → Hp → Prop), Inv X pins σ H s → wi σ H R →
    wpAny (model X.prog X.w) X.A (eval iter X.env) (fun v s1 => wpAny (model X.prog X.w) X.A (pyIter v) (PIE X pins σ tg R) X.xe s1) X.xe s
/-- the step ahead of the store is nothing for an iterator that keeps no tuple -/
theorem go_of {M : Model} {A : Around} {E : Value → Shared → Prop} {s : Shared} {tg : Expr} {it : Addr} {u : Value} {o : Obj} {n : String} {vs : Array Value} {Q : Unit → Shared → Prop} (ho : s.heap.get? it = some o) (hc : o.cls = .type n) (hd : o.data = .fields vs)
    (hn : ["enumerate", "zip", "dict_itemiterator", "dict_reverseitemiterator", "odict_iterator", "itertools.zip_longest", "itertools.pairwise"].contains n = false) (hQ : Q () s) : wpAny M A (letOwnedTupleGo tg (.ref it) u) Q E s := by
  unfold letOwnedTupleGo
  cases tg <;> first
    | exact wpAny_pure hQ
    | (cases u <;> first
        | exact wpAny_pure hQ
        | (refine wpAny_bind (wpAny_load ho ?_)
           rw [hc, hd]
           show wpAny M A (if (["enumerate", "zip", "dict_itemiterator", "dict_reverseitemiterator", "odict_iterator", "itertools.zip_longest", "itertools.pairwise"].contains n && vs[0]? == some (rawInt _)) = true then _ else _) Q E s
           rw [if_neg (by intro h; rw [hn, Bool.false_and] at h; cases h)]
           exact wpAny_pure hQ))
/-- the list at a, as it stands at each turn (a loop may append to it) -/
def Itl (K : PySem.W.Frag) (a : Addr) : It :=
  ⟨fun i H => ∃ xs x, SqL K H a xs ∧ xs[i]? = some x, fun i H x H' => H' = H ∧ ∀ xs, SqL K H a xs → xs[i]? = some x, fun i H => ∃ xs, SqL K H a xs ∧ xs.length ≤ i⟩
def Itt (K : PySem.W.Frag) (a : Addr) : It :=
  ⟨fun i H => ∃ xs x, SqT K H a xs ∧ xs[i]? = some x, fun i H x H' => H' = H ∧ ∀ xs, SqT K H a xs → xs[i]? = some x, fun i H => ∃ xs, SqT K H a xs ∧ xs.length ≤ i⟩
/-- lo, lo + 1, .. (n of them) -/
def Itr (lo : Int) (n : Nat) : It := ⟨fun i _ => i < n, fun i H x H' => H' = H ∧ x = .int (lo + i), fun i _ => n ≤ i⟩
theorem turn_list {P : Program} {w : World} {K : PySem.W.Frag} {tg : Expr} (a it : Addr) : Turn P w K tg (Itl K a) [it] it (fun i h => h.IsListIter it a i) where
  mem := by simp
  obj := fun i h st b hb => by
    have e : b = it := by simpa using hb
    subst e
    obtain ⟨o, e, c, d⟩ := st
    exact ⟨o, e, fun v z => by rw [d] at z; cases z⟩
  keep := fun i h h' st k => st.at fun o e => k it (by simp) o e
  item := by
    intro X hP hw hK hc i pins s σ H E I hf st hg
    subst hP hw hK
    obtain ⟨xs, x, hq, hx⟩ := hg
    obtain ⟨its, rv, p, hz⟩ := I.list hq
    obtain ⟨u, hu, ru⟩ := rv.get hx
    obtain ⟨f0, f1, f2, f3, f4, f5⟩ := hf it (by simp)
    refine wpAny_pyNext_list_item st p.isList (x := u) (by simpa using hu) fun h' st' sb => ?_
    have I1 : Inv X pins σ H { s with heap := h' } := I.turned (t' := s.toks) (fun b o hb e => (sb.2 b hb).trans e) f0 f1 f3 f4 f5
    obtain ⟨o, e, c, d⟩ := id st'
    exact ⟨u, rfl, go_of (s := { s with heap := h' }) e c d (by decide) ⟨x, H, I1, ru, ⟨rfl, fun ys hy => by rw [I.list_inj hy hq]; exact hx⟩, st', fun b hb => (hf b hb).1⟩⟩
  done := by
    intro X hP hw hK hc i pins s σ H E I hf st hg
    subst hP hw hK
    obtain ⟨xs, hq, hx⟩ := hg
    obtain ⟨its, rv, p, hz⟩ := I.list hq
    obtain ⟨f0, f1, f2, f3, f4, f5⟩ := hf it (by simp)
    have hl := rv.length
    exact wpAny_pyNext_list_end (I.ok.hd hc) st p.isList (by simp; omega) fun h' eb => ⟨rfl, I.turned (t' := s.toks) (fun b o hb e => eb b o hb e) f0 f1 f3 f4 f5⟩
  self := fun _ _ _ _ _ st h => wpAny_pyIter_listiter st h
theorem turn_tuple {P : Program} {w : World} {K : PySem.W.Frag} {tg : Expr} (a it : Addr) : Turn P w K tg (Itt K a) [it] it (fun i h => h.IsTupleIter it a i) where
  mem := by simp
  obj := fun i h st b hb => by
    have e : b = it := by simpa using hb
    subst e
    obtain ⟨o, e, c, d⟩ := st
    exact ⟨o, e, fun v z => by rw [d] at z; cases z⟩
  keep := fun i h h' st k => st.at fun o e => k it (by simp) o e
  item := by
    intro X hP hw hK hc i pins s σ H E I hf st hg
    subst hP hw hK
    obtain ⟨xs, x, hq, hx⟩ := hg
    obtain ⟨its, rv, p, hz⟩ := I.tuple hq
    obtain ⟨u, hu, ru⟩ := rv.get hx
    obtain ⟨f0, f1, f2, f3, f4, f5⟩ := hf it (by simp)
    refine wpAny_pyNext_tuple_item st (show s.heap.IsTuple a its.toArray from p) (x := u) (by simpa using hu) fun h' st' sb => ?_
    have I1 : Inv X pins σ H { s with heap := h' } := I.turned (t' := s.toks) (fun b o hb e => (sb.2 b hb).trans e) f0 f1 f3 f4 f5
    obtain ⟨o, e, c, d⟩ := id st'
    exact ⟨u, rfl, go_of (s := { s with heap := h' }) e c d (by decide) ⟨x, H, I1, ru, ⟨rfl, fun ys hy => by rw [I.tuple_inj hy hq]; exact hx⟩, st', fun b hb => (hf b hb).1⟩⟩
  done := by
    intro X hP hw hK hc i pins s σ H E I hf st hg
    subst hP hw hK
    obtain ⟨xs, hq, hx⟩ := hg
    obtain ⟨its, rv, p, hz⟩ := I.tuple hq
    obtain ⟨f0, f1, f2, f3, f4, f5⟩ := hf it (by simp)
    have hl := rv.length
    exact wpAny_pyNext_tuple_end (I.ok.hd hc) st (show s.heap.IsTuple a its.toArray from p) (by simp; omega) fun h' eb => ⟨rfl, I.turned (t' := s.toks) (fun b o hb e => eb b o hb e) f0 f1 f3 f4 f5⟩
  self := fun _ _ _ _ _ st h => wpAny_pyIter_tupleiter st h
theorem turn_range {P : Program} {w : World} {K : PySem.W.Frag} {tg : Expr} (it : Addr) (lo : Int) (n : Nat) : Turn P w K tg (Itr lo n) [it] it (fun i h => IsRangeIter h it (lo + (i : Nat) * 1) ((n : Int) - (i : Nat)) 1) where
  mem := by simp
  obj := fun i h st b hb => by
    have e : b = it := by simpa using hb
    subst e
    exact ⟨_, st, fun v z => by
      have z' : Data.fields _ = Data.cell v := z
      cases z'⟩
  keep := fun i h h' st k => k it (by simp) _ st
  item := by
    intro X hP hw hK hc i pins s σ H E I hf st hg
    subst hP hw hK
    obtain ⟨f0, f1, f2, f3, f4, f5⟩ := hf it (by simp)
    have W := Walks.range (prog := X.prog) (w := X.w) (I.ok.hd hc) it lo 1 n
    refine W.item i s _ _ hg st fun v h' tk hv st' kk => ?_
    obtain ⟨t, rfl⟩ := hv
    have I1 : Inv X pins σ H { s with heap := h', toks := tk } := I.turned (fun b o hb e => kk b o (by simpa using hb) e) f0 f1 f3 f4 f5
    refine ⟨_, rfl, go_of (s := { s with heap := h', toks := tk }) (n := "range_iterator") st' rfl rfl (by decide) ⟨.int (lo + i), H, I1, ⟨t, ?_⟩, ⟨rfl, rfl⟩, st', fun b hb => (hf b hb).1⟩⟩
    rw [Int.mul_one]
  done := by
    intro X hP hw hK hc i pins s σ H E I hf st hg
    subst hP hw hK
    obtain ⟨f0, f1, f2, f3, f4, f5⟩ := hf it (by simp)
    exact wpAny_pyNext_range_end (I.ok.hd hc) st (by have : n ≤ i := hg; omega) fun h' eb => ⟨rfl, I.turned (t' := s.toks) (fun b o hb e => eb b o hb e) f0 f1 f3 f4 f5⟩
  self := fun _ _ _ _ _ st h => wpAny_pyIter_rangeiter st h
end L2
namespace L2
open PySem PySem.Spec PyProof.Rows
section
variable {X : Cx} {tg : Expr}
def iList (K : PySem.W.Frag) (tl : TE) : TI := fun σ H R => tl σ H fun x H1 => ∃ a, x = .ref a ∧ (∃ xs, SqL K H1 a xs) ∧ R (Itl K a) H1
def iTup (K : PySem.W.Frag) (tl : TE) : TI := fun σ H R => tl σ H fun x H1 => ∃ a, x = .ref a ∧ (∃ xs, SqT K H1 a xs) ∧ R (Itt K a) H1
theorem pi_list {l : Expr} {tl : TE} (hl : PE X l tl) : PI X tg l (iList X.K tl) := by
  intro pins s σ H R I h
  refine thn (hl s σ H _ I h) fun v s1 ⟨x, H1, I1, r1, q1⟩ => ?_
  obtain ⟨a, e, ⟨xs, hq⟩, q⟩ := q1
  subst e
  cases r1
  obtain ⟨its, rv, p, hz⟩ := I1.list hq
  refine wpAny_pyIter_list p.isList ?_
  refine ⟨s1.heap.objs.size, [s1.heap.objs.size], _, _, H1, rfl, I1.kept (t' := s1.toks) fun b o e => Heap.get?_push_of_some _ e, turn_list a _, ⟨_, Heap.get?_push_size _ rfl, rfl, rfl⟩, fun b hb => ?_, q⟩
  have e : b = s1.heap.objs.size := by simpa using hb
  subst e
  exact I1.fpOk (Nat.le_refl _) (I1.hok.fresh (Nat.le_refl _))
theorem pi_tup {l : Expr} {tl : TE} (hl : PE X l tl) : PI X tg l (iTup X.K tl) := by
  intro pins s σ H R I h
  refine thn (hl s σ H _ I h) fun v s1 ⟨x, H1, I1, r1, q1⟩ => ?_
  obtain ⟨a, e, ⟨xs, hq⟩, q⟩ := q1
  subst e
  cases r1
  obtain ⟨its, rv, p, hz⟩ := I1.tuple hq
  refine wpAny_pyIter_tuple (show s1.heap.IsTuple a its.toArray from p) ?_
  refine ⟨s1.heap.objs.size, [s1.heap.objs.size], _, _, H1, rfl, I1.kept (t' := s1.toks) fun b o e => Heap.get?_push_of_some _ e, turn_tuple a _, ⟨_, Heap.get?_push_size _ rfl, rfl, rfl⟩, fun b hb => ?_, q⟩
  have e : b = s1.heap.objs.size := by simpa using hb
  subst e
  exact I1.fpOk (Nat.le_refl _) (I1.hok.fresh (Nat.le_refl _))
/-- a range object just made, walked -/
theorem range_it {pins : List (Addr × Obj)} {σ : St} {H : Hp} {s : Shared} {R : It → Hp → Prop} {E : Value → Shared → Prop} {lo hi : Int} {t u v : Tok} {tk : Nat} (I : Inv X pins σ H s) (h1 : -(2 ^ 62) ≤ lo) (h2 : lo < 2 ^ 62) (h3 : -(2 ^ 62) ≤ hi) (h4 : hi < 2 ^ 62)
    (q : R (Itr lo (hi - lo).toNat) H) : wpAny (model X.prog X.w) X.A (pyIter (.ref s.heap.objs.size)) (PIE X pins σ tg R) E { s with heap := s.heap.push { cls := .type "range", data := .fields #[.int lo t, .int hi u, .int 1 v] }, toks := tk } := by
  refine wpAny_pyIter_range (IsRange.new ..) (small_one h1 h2 h3 h4) ?_
  have I1 : Inv X pins σ H { s with heap := s.heap.push { cls := .type "range", data := .fields #[.int lo t, .int hi u, .int 1 v] }, toks := tk } := I.kept fun b o e => Heap.get?_push_of_some _ e
  refine ⟨(s.heap.push { cls := .type "range", data := .fields #[.int lo t, .int hi u, .int 1 v] }).objs.size, [(s.heap.push { cls := .type "range", data := .fields #[.int lo t, .int hi u, .int 1 v] }).objs.size], _, _, H, rfl,
    I1.kept (t' := tk) fun b o e => Heap.get?_push_of_some _ e, turn_range _ lo (hi - lo).toNat, ?_, fun b hb => ?_, q⟩
  · have e1 : lo + ((0 : Nat) : Int) * 1 = lo := by simp
    have e2 : (((hi - lo).toNat : Nat) : Int) - ((0 : Nat) : Int) = Builtin.Range.rangeSize lo hi 1 := by rw [rangeSize_one]; split <;> omega
    show IsRangeIter _ _ (lo + ((0 : Nat) : Int) * 1) ((((hi - lo).toNat : Nat) : Int) - ((0 : Nat) : Int)) 1
    rw [e1, e2]
    exact Heap.get?_push_size _ rfl
  · have e : b = (s.heap.push { cls := .type "range", data := .fields #[.int lo t, .int hi u, .int 1 v] }).objs.size := by simpa using hb
    subst e
    exact I1.fpOk (Nat.le_refl _) (I1.hok.fresh (Nat.le_refl _))
def iRng1 (ta : TA) : TI := fun σ H R => ta σ H fun vs H1 => ∃ j : Int, vs = [.int j] ∧ -(2 ^ 62) ≤ j ∧ j < 2 ^ 62 ∧ R (Itr 0 j.toNat) H1
theorem pi_range1 {a : Expr} {ta : TA} {p pos : Pos} (hg : Gl X "range") (hm : X.mg "range" = none) (ha : PA X [a] ta) (hs : starEach [a] X.env = [(false, eval a X.env)] := by exact star_of1 rfl) : PI X tg (.Call (.Name "range" p) [a] [] pos) (iRng1 ta) := by
  intro pins s σ H R I h
  refine Call_ (ld_blt I hg hm boot_range (PyProof.Rows.callWith_type1 (thn (ha pos s σ H _ I h) fun us s1 ⟨vs, H1, I1, r1, q1⟩ => ?_) hs rfl))
  obtain ⟨j, e, q1, q2, q⟩ := q1
  subst e
  cases r1 with
  | cons r rr =>
    cases rr
    obtain ⟨t, rfl⟩ := r
    exact call_range_1 (range_it I1 (by omega) (by omega) q1 q2 (by simpa using q))
/-- W: the invariant by the turn and a measure; N: what the body is to reach -/
def tFor (wi : TI) (g : TG) (tb : TS) : TS := fun D σ H => wi σ H fun J H1 => ∃ W : Nat → Nat → St → Hp → Prop, (∃ m, W 0 m σ H1) ∧ ∀ i m σ H, W i m σ H →
  (J.stop i H ∧ D.nx σ H) ∨ (J.go i H ∧ ∃ N : St → Hp → Prop, (∀ σ' H', N σ' H' → ∃ m', m' < m ∧ W (i + 1) m' σ' H') ∧ ∀ x H', J.yld i H x H' → g x σ H' fun σ2 H2 => tb { D with nx := N, ct := N, bk := D.nx } σ2 H2)
/-- the records at fp as they stand -/
def pinsAt (fp : List Addr) (h : Heap) : List (Addr × Obj) := fp.filterMap fun b => (h.get? b).map fun o => (b, o)
theorem mem_pinsAt {fp : List Addr} {h : Heap} {b : Addr} {o : Obj} (hb : b ∈ fp) (e : h.get? b = some o) : (b, o) ∈ pinsAt fp h := List.mem_filterMap.mpr ⟨b, hb, by rw [e]; rfl⟩
theorem of_pinsAt {fp : List Addr} {h : Heap} {p : Addr × Obj} (hp : p ∈ pinsAt fp h) : p.1 ∈ fp ∧ h.get? p.1 = some p.2 := by
  obtain ⟨b, hb, e⟩ := List.mem_filterMap.mp hp
  cases q : h.get? b with
  | none => rw [q] at e; cases e
  | some o =>
    rw [q] at e
    have e' : (b, o) = p := Option.some.inj e
    subst e'
    exact ⟨hb, q⟩
theorem Inv.pinned {pins : List (Addr × Obj)} {σ : St} {H : Hp} {s : Shared} {fp : List Addr} (I : Inv X pins σ H s) (hf : ∀ b ∈ fp, FpOk X pins H b) (ho : ∀ b ∈ fp, ∃ o, s.heap.get? b = some o ∧ ∀ v, o.data ≠ .cell v) : Inv X (pins ++ pinsAt fp s.heap) σ H s :=
  I.pins_of fun p hp => (List.mem_append.mp hp).elim (fun z => I.pin p (List.mem_append_right _ z)) fun z => by
    obtain ⟨hb, e⟩ := of_pinsAt z
    obtain ⟨f0, f1, f2, _⟩ := hf p.1 hb
    obtain ⟨o, e', d⟩ := ho p.1 hb
    rw [e] at e'; cases e'
    exact ⟨e, f0, f1, f2, d⟩
theorem Inv.unpinned {pins pl : List (Addr × Obj)} {σ : St} {H : Hp} {s : Shared} (I : Inv X (pins ++ pl) σ H s) : Inv X pins σ H s := I.pins_of fun p hp => I.pin p (List.mem_append_right _ (List.mem_append_left _ hp))
theorem ps_for {iter : Expr} {body : List Stmt} {wi : TI} {g : TG} {tb : TS} {pos : Pos} (hp : PassesOwn (model X.prog X.w) X.A X.env X.xe) (hc : X.calm = true) (hi : PI X tg iter wi) (hg : PG X tg g) (hb : PSs X body tb)
    (hs : ∀ x, foldedSetIterable iter X.env x = pure x := by intro _; rfl) : PS X (.For tg iter body [] pos) (tFor wi g tb) := by
  intro pins s σ H D I h
  refine wpAny_For (thn (hi s σ H _ I h) fun v s1 h1 => thn h1 fun itv s2 h2 => ?_) hs
  obtain ⟨it, fp, tn, J, H2, e, I2, T, st2, f2, W, ⟨m0, w0⟩, turn⟩ := h2
  subst e
  -- what stays true of the iterator's objects through the loop
  have stat : ∀ {H' : Hp}, (∀ b ∈ fp, H' b = none) → ∀ b ∈ fp, FpOk X pins H' b := fun hn b hb => ⟨hn b hb, (f2 b hb).2⟩
  refine codeAny_forLoop_any (fun n s' => ∃ i σ' H', Inv X pins σ' H' s' ∧ tn i s'.heap ∧ (∀ b ∈ fp, H' b = none) ∧ W i n σ' H') ?_ m0 ⟨0, σ, H2, I2, st2, fun b hb => (f2 b hb).1, w0⟩
  rintro n s3 ⟨i, σ3, H3, I3, st3, fr3, w3⟩
  rcases turn i n σ3 H3 w3 with ⟨stop, qn⟩ | ⟨go, N, hN, step⟩
  · refine wpAny_passesOwn hp (thn (T.done X rfl rfl rfl hc i s3 σ3 H3 X.xe I3 (stat fr3) st3 stop) fun r s4 ⟨hr, I4⟩ => ?_)
    subst hr
    exact wpAny_execs_nil ⟨σ3, H3, I4, qn⟩
  · refine wpAny_passesOwn hp (thn (T.item X rfl rfl rfl hc i s3 σ3 H3 X.xe I3 (stat fr3) st3 go) fun r s4 ⟨u, hr, h4⟩ => ?_)
    subst hr
    refine wpAny_passesOwn hp (thn h4 fun _ s5 ⟨x, H5, I5, r5, y5, st5, fr5⟩ => ?_)
    have I5' := I5.pinned (stat fr5) (T.obj _ _ st5)
    refine wpAny_passesOwn hp (thn (hg s5 σ3 H5 x u _ I5' r5 (step x H5 y5)) fun _ s6 ⟨σ6, H6, I6, q6⟩ => ?_)
    refine wpAny_passesOwn hp (thn (hb s6 σ6 H6 _ I6 q6) fun f s7 q7 => ?_)
    have again : ∀ {σ7 : St} {H7 : Hp}, Inv X (pins ++ pinsAt fp s5.heap) σ7 H7 s7 → N σ7 H7 → ∃ m, m < n ∧ ∃ i σ' H', Inv X pins σ' H' s7 ∧ tn i s7.heap ∧ (∀ b ∈ fp, H' b = none) ∧ W i m σ' H' := fun {σ7 H7} I7 n7 => by
      obtain ⟨m', hm, w7⟩ := hN σ7 H7 n7
      refine ⟨m', hm, i + 1, σ7, H7, I7.unpinned, T.keep _ _ _ st5 fun b hb o e => (I7.pin (b, o) (List.mem_append_right _ (List.mem_append_right _ (mem_pinsAt hb e)))).1, fun b hb => ?_, w7⟩
      obtain ⟨o, e, d⟩ := T.obj _ _ st5 b hb
      exact (I7.pin (b, o) (List.mem_append_right _ (List.mem_append_right _ (mem_pinsAt hb e)))).2.1
    cases f with
    | next => obtain ⟨σ7, H7, I7, n7⟩ := q7; exact again I7 n7
    | cont => obtain ⟨σ7, H7, I7, n7⟩ := q7; exact again I7 n7
    | brk => obtain ⟨σ7, H7, I7, q7⟩ := q7; exact ⟨σ7, H7, I7.unpinned, q7⟩
    | ret v => obtain ⟨x7, σ7, H7, I7, r7, q7⟩ := q7; exact ⟨x7, σ7, H7, I7.unpinned, r7, q7⟩
end
/-- over a list that the body leaves as it is -/
theorem for_list {K : PySem.W.Frag} {a : Addr} {xs : List V} {g : TG} {tb : TS} {D : Ends} {σ : St} {H : Hp} (Pv : Nat → St → Hp → Prop) (h0 : Pv 0 σ H) (hl : ∀ i σ H, i ≤ xs.length → Pv i σ H → SqL K H a xs)
    (hs : ∀ i x σ H, xs[i]? = some x → Pv i σ H → g x σ H fun σ2 H2 => tb { D with nx := Pv (i + 1), ct := Pv (i + 1), bk := D.nx } σ2 H2) (hd : ∀ σ H, Pv xs.length σ H → D.nx σ H) :
    ∃ W : Nat → Nat → St → Hp → Prop, (∃ m, W 0 m σ H) ∧ ∀ i m σ H, W i m σ H →
      ((Itl K a).stop i H ∧ D.nx σ H) ∨ ((Itl K a).go i H ∧ ∃ N : St → Hp → Prop, (∀ σ' H', N σ' H' → ∃ m', m' < m ∧ W (i + 1) m' σ' H') ∧ ∀ x H', (Itl K a).yld i H x H' → g x σ H' fun σ2 H2 => tb { D with nx := N, ct := N, bk := D.nx } σ2 H2) := by
  refine ⟨fun i m σ H => m = xs.length - i ∧ i ≤ xs.length ∧ Pv i σ H, ⟨xs.length, by simp, Nat.zero_le _, h0⟩, ?_⟩
  rintro i m σ H ⟨rfl, hi, p⟩
  have q := hl i σ H hi p
  by_cases hlt : i < xs.length
  · refine .inr ⟨⟨xs, xs[i], q, by simp [hlt]⟩, Pv (i + 1), fun σ' H' p' => ⟨xs.length - (i + 1), by omega, rfl, hlt, p'⟩, fun x H' y => ?_⟩
    obtain ⟨e, y⟩ := y
    subst e
    exact hs i x σ _ (y xs q) p
  · have e : i = xs.length := by omega
    subst e
    exact .inl ⟨⟨xs, q, Nat.le_refl _⟩, hd σ H p⟩
theorem for_tup {K : PySem.W.Frag} {a : Addr} {xs : List V} {g : TG} {tb : TS} {D : Ends} {σ : St} {H : Hp} (Pv : Nat → St → Hp → Prop) (h0 : Pv 0 σ H) (hl : ∀ i σ H, i ≤ xs.length → Pv i σ H → SqT K H a xs)
    (hs : ∀ i x σ H, xs[i]? = some x → Pv i σ H → g x σ H fun σ2 H2 => tb { D with nx := Pv (i + 1), ct := Pv (i + 1), bk := D.nx } σ2 H2) (hd : ∀ σ H, Pv xs.length σ H → D.nx σ H) :
    ∃ W : Nat → Nat → St → Hp → Prop, (∃ m, W 0 m σ H) ∧ ∀ i m σ H, W i m σ H →
      ((Itt K a).stop i H ∧ D.nx σ H) ∨ ((Itt K a).go i H ∧ ∃ N : St → Hp → Prop, (∀ σ' H', N σ' H' → ∃ m', m' < m ∧ W (i + 1) m' σ' H') ∧ ∀ x H', (Itt K a).yld i H x H' → g x σ H' fun σ2 H2 => tb { D with nx := N, ct := N, bk := D.nx } σ2 H2) := by
  refine ⟨fun i m σ H => m = xs.length - i ∧ i ≤ xs.length ∧ Pv i σ H, ⟨xs.length, by simp, Nat.zero_le _, h0⟩, ?_⟩
  rintro i m σ H ⟨rfl, hi, p⟩
  have q := hl i σ H hi p
  by_cases hlt : i < xs.length
  · refine .inr ⟨⟨xs, xs[i], q, by simp [hlt]⟩, Pv (i + 1), fun σ' H' p' => ⟨xs.length - (i + 1), by omega, rfl, hlt, p'⟩, fun x H' y => ?_⟩
    obtain ⟨e, y⟩ := y
    subst e
    exact hs i x σ _ (y xs q) p
  · have e : i = xs.length := by omega
    subst e
    exact .inl ⟨⟨xs, q, Nat.le_refl _⟩, hd σ H p⟩
theorem for_range {lo : Int} {n : Nat} {g : TG} {tb : TS} {D : Ends} {σ : St} {H : Hp} (Pv : Nat → St → Hp → Prop) (h0 : Pv 0 σ H)
    (hs : ∀ i σ H, i < n → Pv i σ H → g (.int (lo + i)) σ H fun σ2 H2 => tb { D with nx := Pv (i + 1), ct := Pv (i + 1), bk := D.nx } σ2 H2) (hd : ∀ σ H, Pv n σ H → D.nx σ H) :
    ∃ W : Nat → Nat → St → Hp → Prop, (∃ m, W 0 m σ H) ∧ ∀ i m σ H, W i m σ H →
      ((Itr lo n).stop i H ∧ D.nx σ H) ∨ ((Itr lo n).go i H ∧ ∃ N : St → Hp → Prop, (∀ σ' H', N σ' H' → ∃ m', m' < m ∧ W (i + 1) m' σ' H') ∧ ∀ x H', (Itr lo n).yld i H x H' → g x σ H' fun σ2 H2 => tb { D with nx := N, ct := N, bk := D.nx } σ2 H2) := by
  refine ⟨fun i m σ H => m = n - i ∧ i ≤ n ∧ Pv i σ H, ⟨n, by simp, Nat.zero_le _, h0⟩, ?_⟩
  rintro i m σ H ⟨rfl, hi, p⟩
  by_cases hlt : i < n
  · refine .inr ⟨hlt, Pv (i + 1), fun σ' H' p' => ⟨n - (i + 1), by omega, rfl, hlt, p'⟩, fun x H' y => ?_⟩
    obtain ⟨e, y⟩ := y
    subst e y
    exact hs i σ _ hlt p
  · have e : i = n := by omega
    subst e
    exact .inl ⟨Nat.le_refl _, hd σ H p⟩
end L2
namespace L2
open PySem PySem.Spec PyProof.Rows
abbrev R2 := V → V → Hp → VK → Prop
/-- a two-place operation on values: f is binaryOp op, inplaceOp op or compareOp op -/
def OpR (X : Cx) (f : Value → Value → Sem Value) (r : R2) : Prop :=
  ∀ ⦃pins : List (Addr × Obj)⦄ (s : Shared) (σ : St) (H : Hp) (x y : V) (v u : Value) (Q : VK), Inv X pins σ H s → RelV x v → RelV y u → r x y H Q →
    wpAny (model X.prog X.w) X.A (f v u) (EP X pins σ Q) X.xe s
/-- a one-place operation -/
def UnR (X : Cx) (f : Value → Sem Value) (r : V → Hp → VK → Prop) : Prop :=
  ∀ ⦃pins : List (Addr × Obj)⦄ (s : Shared) (σ : St) (H : Hp) (x : V) (v : Value) (Q : VK), Inv X pins σ H s → RelV x v → r x H Q →
    wpAny (model X.prog X.w) X.A (f v) (EP X pins σ Q) X.xe s
/-- a call of a value that is known (a builtin, a type) with values -/
def CallR (X : Cx) (f : Value) (r : List V → Hp → VK → Prop) : Prop :=
  ∀ ⦃pins : List (Addr × Obj)⦄ (s : Shared) (σ : St) (H : Hp) (xs : List V) (us : List Value) (Q : VK), Inv X pins σ H s → Vals xs us → r xs H Q →
    wpAny (model X.prog X.w) X.A (call f us) (EP X pins σ Q) X.xe s
/-- a value's truth -/
def TruR (X : Cx) (r : V → Hp → (Bool → Hp → Prop) → Prop) : Prop :=
  ∀ ⦃pins : List (Addr × Obj)⦄ (s : Shared) (σ : St) (H : Hp) (x : V) (v : Value) (Q : Bool → Hp → Prop), Inv X pins σ H s → RelV x v → r x H Q →
    wpAny (model X.prog X.w) X.A (truthy v) (TP X pins σ Q) X.xe s
def tOp (r : R2) (ta tb : TE) : TE := fun σ H Q => ta σ H fun x H1 => tb σ H1 fun y H2 => r x y H2 Q
def tUn (r : V → Hp → VK → Prop) (ta : TE) : TE := fun σ H Q => ta σ H fun x H1 => r x H1 Q
/-- ints in, under C, and a value out -/
def rI (C : Int → Int → Prop) (g : Int → Int → V) : R2 := fun x y H Q => ∃ i j, x = .int i ∧ y = .int j ∧ C i j ∧ Q (g i j) H
def rI0 (g : Int → Int → V) : R2 := fun x y H Q => ∃ i j, x = .int i ∧ y = .int j ∧ Q (g i j) H
def rU (g : Int → V) : V → Hp → VK → Prop := fun x H Q => ∃ i, x = .int i ∧ Q (g i) H
section
variable {X : Cx} {a b c : Expr} {ta tb tc : TE} {pos : Pos}
theorem binT (ha : PE X a ta) (hb : PE X b tb) {pins : List (Addr × Obj)} {s : Shared} {σ : St} {H : Hp} {R : V → V → Hp → Prop} (I : Inv X pins σ H s)
    (h : ta σ H fun x H1 => tb σ H1 fun y H2 => R x y H2) {Q : Value → Shared → Prop} {f : Value → Value → Sem Value}
    (hf : ∀ v u s2 x y H2, Inv X pins σ H2 s2 → RelV x v → RelV y u → R x y H2 → wpAny (model X.prog X.w) X.A (f v u) Q X.xe s2) :
    wpAny (model X.prog X.w) X.A (eval a X.env) (fun v s₁ => wpAny (model X.prog X.w) X.A (eval b X.env) (fun u s₂ => wpAny (model X.prog X.w) X.A (f v u) Q X.xe s₂) X.xe s₁) X.xe s := by
  refine thn (ha s σ H _ I h) fun v s1 ⟨x, H1, I1, r1, q1⟩ => ?_
  refine thn (hb s1 σ H1 _ I1 q1) fun u s2 ⟨y, H2, I2, r2, q2⟩ => ?_
  exact hf v u s2 x y H2 I2 r1 r2 q2
theorem pe_op {op : Operator} {r : R2} (ho : OpR X (binaryOp op) r) (ha : PE X a ta) (hb : PE X b tb) : PE X (.BinOp a op b pos) (tOp r ta tb) := by
  intro pins s σ H Q I h
  exact wpAny_BinOp (binT ha hb I h fun v u s2 x y H2 I2 rx ry q => ho s2 σ H2 x y v u Q I2 rx ry q)
theorem pe_un {op : UnaryOp} {r : V → Hp → VK → Prop} (ho : UnR X (unaryOp op) r) (ha : PE X a ta) : PE X (.UnaryOp op a pos) (tUn r ta) := by
  intro pins s σ H Q I h
  exact UnaryOp_ (thn (ha s σ H _ I h) fun v s1 ⟨x, H1, I1, r1, q1⟩ => ho s1 σ H1 x v Q I1 r1 q1)
theorem opI {f : Value → Value → Sem Value} {C : Int → Int → Prop} {g : Int → Int → Int}
    (rule : ∀ (i j : Int) (t u : Tok) (s : Shared) (Q : Value → Shared → Prop) (E : Value → Shared → Prop), C i j → Q (.int (g i j) s.toks) { s with toks := s.toks + 1 } → wpAny (model X.prog X.w) X.A (f (.int i t) (.int j u)) Q E s) :
    OpR X f (rI C fun i j => .int (g i j)) := by
  intro pins s σ H x y v u Q I rx ry h
  obtain ⟨i, j, rfl, rfl, hc, q⟩ := h
  obtain ⟨t, rfl⟩ := rx
  obtain ⟨t', rfl⟩ := ry
  exact rule i j t t' s _ _ hc ⟨.int (g i j), H, I.tok _, ⟨_, rfl⟩, q⟩
theorem opI0 {f : Value → Value → Sem Value} {g : Int → Int → Int}
    (rule : ∀ (i j : Int) (t u : Tok) (s : Shared) (Q : Value → Shared → Prop) (E : Value → Shared → Prop), Q (.int (g i j) s.toks) { s with toks := s.toks + 1 } → wpAny (model X.prog X.w) X.A (f (.int i t) (.int j u)) Q E s) :
    OpR X f (rI0 fun i j => .int (g i j)) := by
  intro pins s σ H x y v u Q I rx ry h
  obtain ⟨i, j, rfl, rfl, q⟩ := h
  obtain ⟨t, rfl⟩ := rx
  obtain ⟨t', rfl⟩ := ry
  exact rule i j t t' s _ _ ⟨.int (g i j), H, I.tok _, ⟨_, rfl⟩, q⟩
theorem opB0 {f : Value → Value → Sem Value} {g : Int → Int → Bool}
    (rule : ∀ (i j : Int) (t u : Tok) (s : Shared) (Q : Value → Shared → Prop) (E : Value → Shared → Prop), Q (.bool (g i j)) s → wpAny (model X.prog X.w) X.A (f (.int i t) (.int j u)) Q E s) :
    OpR X f (rI0 fun i j => .bl (g i j)) := by
  intro pins s σ H x y v u Q I rx ry h
  obtain ⟨i, j, rfl, rfl, q⟩ := h
  obtain ⟨t, rfl⟩ := rx
  obtain ⟨t', rfl⟩ := ry
  exact rule i j t t' s _ _ ⟨.bl (g i j), H, I, rfl, q⟩
def CDiv (i j : Int) : Prop := 0 < j ∧ j < 1073741824
def CPow (i j : Int) : Prop := 0 ≤ j ∧ j ≤ 1000000 ∧ i.natAbs < 2 ^ 64
def CMul (i j : Int) : Prop := (-(2 ^ 64) < i ∧ i < 2 ^ 64) ∨ (-(2 ^ 64) < j ∧ j < 2 ^ 64)
theorem CMul.ok {i j : Int} (h : CMul i j) : IntMulOk i j := by
  rcases h with ⟨h1, h2⟩ | ⟨h1, h2⟩
  · exact .of_left (intBits_le_64 h1 h2)
  · exact .of_right (intBits_le_64 h1 h2)
theorem op_add : OpR X (binaryOp .Add) (rI0 fun i j => .int (i + j)) := opI0 fun _ _ _ _ _ _ _ q => add_int q
theorem op_sub : OpR X (binaryOp .Sub) (rI0 fun i j => .int (i - j)) := opI0 fun _ _ _ _ _ _ _ q => sub_int q
theorem op_mul : OpR X (binaryOp .Mult) (rI CMul fun i j => .int (i * j)) := opI fun _ _ _ _ _ _ _ hc q => mul_int q hc.ok
/-- // by a positive divisor -/
theorem op_fdiv : OpR X (binaryOp .FloorDiv) (rI CDiv fun i j => .int (i / j)) := opI fun i j _ _ _ _ _ hc q => by
  have h1 : (0 : Int) < j := hc.1
  have h2 : j < 1073741824 := hc.2
  exact floordiv_int (by omega) (by rw [Int.fdiv_eq_ediv_of_nonneg i (by omega)]; exact q) (.inl (PyProof.noPylong_small (by omega)))
/-- % by a positive divisor of any size -/
theorem op_mod : OpR X (binaryOp .Mod) (rI (fun _ j => 0 < j) fun i j => .int (i % j)) := opI fun i j _ _ _ _ _ hc q => by
  have h1 : (0 : Int) < j := hc
  exact mod_int' (by omega) (by rw [Int.fmod_eq_emod_of_nonneg i (by omega)]; exact q)
theorem op_pow : OpR X (binaryOp .Pow) (rI CPow fun i j => .int (i ^ j.toNat)) := opI fun _ _ _ _ _ _ _ hc q => pow_int_small hc.1 hc.2.1 hc.2.2 q
theorem unI {f : Value → Sem Value} {g : Int → Int}
    (rule : ∀ (i : Int) (t : Tok) (s : Shared) (Q : Value → Shared → Prop) (E : Value → Shared → Prop), Q (.int (g i) s.toks) { s with toks := s.toks + 1 } → wpAny (model X.prog X.w) X.A (f (.int i t)) Q E s) :
    UnR X f (rU fun i => .int (g i)) := by
  intro pins s σ H x v Q I rx h
  obtain ⟨i, rfl, q⟩ := h
  obtain ⟨t, rfl⟩ := rx
  exact rule i t s _ _ ⟨.int (g i), H, I.tok _, ⟨_, rfl⟩, q⟩
theorem un_neg : UnR X (unaryOp .USub) (rU fun i => .int (-i)) := unI fun _ _ _ _ _ q => neg_int q
end
/-- the scalars that == tells apart as data does -/
def scal : V → V → Bool
  | .non, .non => true | .non, .int _ => true | .int _, .non => true | .non, .bl _ => true | .bl _, .non => true | .non, .str _ => true | .str _, .non => true
  | .int _, .int _ => true | .bl _, .bl _ => true | .str _, .str _ => true | .byt _, .byt _ => true
  | .int _, .str _ => true | .str _, .int _ => true | .bl _, .str _ => true | .str _, .bl _ => true
  | _, _ => false
def rEq : R2 := fun x y H Q => scal x y = true ∧ Q (.bl (decide (x = y))) H
theorem dec_int {i j : Int} : decide (V.int i = V.int j) = (i == j) := by
  rw [Bool.eq_iff_iff]
  simp
theorem dec_bl {i j : Bool} : decide (V.bl i = V.bl j) = (i == j) := by
  rw [Bool.eq_iff_iff]
  simp
theorem dec_str {i j : Str} : decide (V.str i = V.str j) = (i == j) := by
  rw [Bool.eq_iff_iff]
  simp
theorem dec_byt {i j : Array UInt8} : decide (V.byt i = V.byt j) = (i.toList == j.toList) := by
  rw [Bool.eq_iff_iff]
  cases i
  cases j
  simp
section
variable {X : Cx} {a b c : Expr} {ta tb tc : TE} {pos : Pos}
theorem fin_bl {pins : List (Addr × Obj)} {σ : St} {H : Hp} {s : Shared} {Q : VK} {k k' : Bool} (I : Inv X pins σ H s) (q : Q (.bl k) H) (e : k = k') : EP X pins σ Q (.bool k') s := by
  subst e
  exact ⟨.bl k, H, I, rfl, q⟩
theorem op_eq : OpR X (compareOp .Eq) rEq := by
  intro pins s σ H x y v u Q I rx ry h
  obtain ⟨hs, q⟩ := h
  cases x with
  | non =>
    cases rx
    cases y with
    | non => cases ry; exact PySem.EqNone.eq_none_none (fin_bl I q (by simp))
    | bl j => cases ry; exact PySem.EqNone.eq_none_bool (fin_bl I q (by simp))
    | int j => obtain ⟨t', rfl⟩ := ry; exact PySem.EqNone.eq_none_int (fin_bl I q (by simp))
    | str j => obtain ⟨t', rfl⟩ := ry; exact PySem.EqNone.eq_none_str (fin_bl I q (by simp))
    | _ => exact absurd (show false = true from hs) Bool.false_ne_true
  | bl i =>
    cases rx
    cases y with
    | non => cases ry; exact PySem.EqNone.eq_bool_none (fin_bl I q (by simp))
    | bl j => cases ry; exact eq_bool (fin_bl I q dec_bl)
    | str j => obtain ⟨t', rfl⟩ := ry; exact PySem.EqMixed.eq_bool_str (fin_bl I q (by simp))
    | _ => exact absurd (show false = true from hs) Bool.false_ne_true
  | int i =>
    obtain ⟨t, rfl⟩ := rx
    cases y with
    | non => cases ry; exact PySem.EqNone.eq_int_none (fin_bl I q (by simp))
    | int j => obtain ⟨t', rfl⟩ := ry; exact eq_int (fin_bl I q dec_int)
    | str j => obtain ⟨t', rfl⟩ := ry; exact PySem.EqMixed.eq_int_str (fin_bl I q (by simp))
    | _ => exact absurd (show false = true from hs) Bool.false_ne_true
  | str i =>
    obtain ⟨t, rfl⟩ := rx
    cases y with
    | non => cases ry; exact PySem.EqNone.eq_str_none (fin_bl I q (by simp))
    | bl j => cases ry; exact PySem.EqMixed.eq_str_bool (fin_bl I q (by simp))
    | int j => obtain ⟨t', rfl⟩ := ry; exact PySem.EqMixed.eq_str_int (fin_bl I q (by simp))
    | str j => obtain ⟨t', rfl⟩ := ry; exact eq_str (fin_bl I q dec_str)
    | _ => exact absurd (show false = true from hs) Bool.false_ne_true
  | byt i =>
    obtain ⟨t, rfl⟩ := rx
    cases y with
    | byt j => obtain ⟨t', rfl⟩ := ry; exact PySem.W.eq_bytes (fin_bl I q dec_byt)
    | _ => exact absurd (show false = true from hs) Bool.false_ne_true
  | _ => cases y <;> exact absurd (show false = true from hs) Bool.false_ne_true
theorem op_lt : OpR X (compareOp .Lt) (rI0 fun i j => .bl (decide (i < j))) := opB0 fun _ _ _ _ _ _ _ q => lt_int q
theorem op_le : OpR X (compareOp .LtE) (rI0 fun i j => .bl (decide (i ≤ j))) := opB0 fun _ _ _ _ _ _ _ q => le_int q
theorem op_gt : OpR X (compareOp .Gt) (rI0 fun i j => .bl (decide (j < i))) := opB0 fun _ _ _ _ _ _ _ q => gt_int q
/-- is None, is not None: the right side a value none -/
theorem op_isN : OpR X (compareOp .Is) (fun x y H Q => y = .non ∧ Q (.bl (decide (x = .non))) H) := by
  intro pins s σ H x y v u Q I rx ry h
  obtain ⟨rfl, q⟩ := h
  cases ry
  refine is_none_gen (fin_bl I q ?_)
  cases x <;> first
    | (cases rx; rfl)
    | (obtain ⟨t, rfl⟩ := rx; rfl)
/-- two rules for one operation: by cases -/
theorem OpR.or {f : Value → Value → Sem Value} {r r' : R2} (h : OpR X f r) (h' : OpR X f r') : OpR X f (fun x y H Q => r x y H Q ∨ r' x y H Q) := by
  intro pins s σ H x y v u Q I rx ry q
  rcases q with q | q
  · exact h s σ H x y v u Q I rx ry q
  · exact h' s σ H x y v u Q I rx ry q
theorem nomark (b : Expr) {op : CmpOp} (h : op ≠ .In := by decide) (h2 : op ≠ .NotIn := by decide) : behindInMarks op b = false := by
  have e1 : (op == CmpOp.In) = false := by cases op <;> first | rfl | exact absurd rfl h
  have e2 : (op == CmpOp.NotIn) = false := by cases op <;> first | rfl | exact absurd rfl h2
  cases b <;> simp [behindInMarks, e1, e2]
/-- a comparison as a value; hm: nomark b, or (for in, not in) by with_unfolding_all rfl -/
theorem pe_cmpR {op : CmpOp} {r : R2} (ho : OpR X (compareOp op) r) (ha : PE X a ta) (hb : PE X b tb) (hm : behindInMarks op b = false) : PE X (.Compare a [op] [b] pos) (tOp r ta tb) := by
  intro pins s σ H Q I h
  exact wpAny_Compare1 (binT ha hb I h fun v u s2 x y H2 I2 rx ry q => ho s2 σ H2 x y v u Q I2 rx ry q) hm
/-- a reading of a value as a test -/
def tTest (t : TE) : TT := fun σ H Q => t σ H fun x H' => ∃ k, x = .bl k ∧ Q k H'
theorem pt_cmpR {op : CmpOp} {r : R2} (ho : OpR X (compareOp op) r) (ha : PE X a ta) (hb : PE X b tb) (hm : behindInMarks op b = false) : PT X (.Compare a [op] [b] pos) (tTest (tOp r ta tb)) := by
  intro pins s σ H Q I h
  refine wpAny_isTrue_Compare1 (thn (ha s σ H _ I h) fun v s1 ⟨x, H1, I1, r1, q1⟩ => thn (hb s1 σ H1 _ I1 q1) fun u s2 ⟨y, H2, I2, r2, q2⟩ =>
    thn (ho s2 σ H2 x y v u _ I2 r1 r2 q2) fun c s3 ⟨z, H3, I3, r3, k, e, q3⟩ => ?_) hm
  subst e
  cases r3
  exact wpAny_truthy_bool ⟨H3, I3, q3⟩
/-- a op1 b op2 c -/
def tChain (r r' : R2) (ta tb tc : TE) : TE := fun σ H Q => ta σ H fun x H1 => tb σ H1 fun y H2 => r x y H2 fun z H3 => ∃ k, z = .bl k ∧
  (if k = true then tc σ H3 fun w' H4 => r' y w' H4 Q else Q (.bl false) H3)
theorem pe_chain {op op' : CmpOp} {r r' : R2} (ho : OpR X (compareOp op) r) (ho' : OpR X (compareOp op') r') (ha : PE X a ta) (hb : PE X b tb) (hc : PE X c tc)
    (hm : lastMarks [op, op'] [b, c] = false := by with_unfolding_all rfl) : PE X (.Compare a [op, op'] [b, c] pos) (tChain r r' ta tb tc) := by
  intro pins s σ H Q I h
  refine Compare_chain (thn (ha s σ H _ I h) fun v s1 ⟨x, H1, I1, r1, q1⟩ => chain_link (thn (hb s1 σ H1 _ I1 q1) fun u s2 ⟨y, H2, I2, r2, q2⟩ =>
    thn (ho s2 σ H2 x y v u _ I2 r1 r2 q2) fun d s3 ⟨z, H3, I3, r3, k, e, q3⟩ => ?_)) hm
  subst e
  cases r3
  refine wpAny_truthy_bool ?_
  cases k with
  | false => exact ite_ff ⟨.bl false, H3, I3, rfl, q3⟩
  | true => exact ite_tt (chain_last (thn (hc s3 σ H3 _ I3 q3) fun w' s4 ⟨z', H4, I4, r4, q4⟩ => ho' s4 σ H4 y z' u w' Q I4 r2 r4 q4))
/-- a value's truth by the abstract heap -/
def TruV (K : PySem.W.Frag) (x : V) (H : Hp) (k : Bool) : Prop :=
  match x with
  | .non => k = false
  | .bl b => k = b
  | .int i => k = (i != 0)
  | .str y => y.length ≤ sizeLine ∧ k = ((y.length : Int) != 0)
  | .byt y => y.size ≤ sizeLine ∧ k = ((y.size : Int) != 0)
  | .ref p => (∃ xs, SqL K H p xs ∧ k = !xs.isEmpty) ∨ (∃ xs, SqT K H p xs ∧ k = !xs.isEmpty) ∨ ∃ kvs, H p = some (.dK kvs) ∧ k = !kvs.isEmpty
  | _ => False
theorem isEmpty_kv {κ : Type} {kvs : List (κ × V)} {vs : List (κ × Value)} (r : KV kvs vs) : (!vs.isEmpty) = !kvs.isEmpty := by
  cases r <;> rfl
theorem isEmpty_of {xs : List V} {its : List Value} (r : Vals xs its) : (!its.toArray.isEmpty) = !xs.isEmpty := by
  cases r <;> simp
theorem line63 : (sizeLine : Nat) < 2 ^ 63 := by rw [sizeLine_eq]; decide
theorem tru_ok : TruR X (fun x H Q => ∃ k, TruV X.K x H k ∧ Q k H) := by
  intro pins s σ H x v Q I rx h
  obtain ⟨k, e, q⟩ := h
  have hl := line63
  have hs : sizeLine = 16777216 := sizeLine_eq
  cases x with
  | non =>
    cases rx
    have e' : k = false := e
    subst e'
    exact truthy_none ⟨H, I, q⟩
  | bl b =>
    cases rx
    have e' : k = b := e
    subst e'
    exact wpAny_truthy_bool ⟨H, I, q⟩
  | int i =>
    obtain ⟨t, rfl⟩ := rx
    have e' : k = (i != 0) := e
    subst e'
    exact PySem.P.truthy_int ⟨H, I, q⟩
  | str y =>
    obtain ⟨t, rfl⟩ := rx
    obtain ⟨hy, e'⟩ : y.length ≤ sizeLine ∧ k = ((y.length : Int) != 0) := e
    subst e'
    exact PySem.P.truthy_str (by omega) ⟨H, I.tok _, q⟩
  | byt y =>
    obtain ⟨t, rfl⟩ := rx
    obtain ⟨hy, e'⟩ : y.size ≤ sizeLine ∧ k = ((y.size : Int) != 0) := e
    subst e'
    exact PySem.W.truthy_bytes (by omega) ⟨H, I.tok _, q⟩
  | ref p =>
    cases rx
    have e' : (∃ xs, SqL X.K H p xs ∧ k = !xs.isEmpty) ∨ (∃ xs, SqT X.K H p xs ∧ k = !xs.isEmpty) ∨ ∃ kvs, H p = some (.dK kvs) ∧ k = !kvs.isEmpty := e
    rcases e' with ⟨xs, hx, e'⟩ | ⟨xs, hx, e'⟩ | ⟨kvs, hx, e'⟩
    · subst e'
      obtain ⟨its, r, pl, hz⟩ := I.list hx
      have hlen := r.length
      exact wpAny_truthy_list pl.isList (by simp only [List.size_toArray]; omega) ⟨H, I.tok _, by rw [isEmpty_of r]; exact q⟩
    · subst e'
      obtain ⟨its, r, pl, hz⟩ := I.tuple hx
      have hlen := r.length
      exact truthy_tuple pl (by simp only [List.size_toArray]; omega) ⟨H, I.tok _, by rw [isEmpty_of r]; exact q⟩
    · subst e'
      obtain ⟨hz, hS, vs, r, m⟩ : kvs.length ≤ sizeLine ∧ (p == sysModules) = false ∧ ∃ vs, KV kvs vs ∧ s.heap.DictOf (mixKind X.prog X.w) p vs := I.hok p _ hx
      have hlen : kvs.length = vs.length := Paired.length r
      exact wpAny_truthy_dict hS m (by omega) ⟨H, I.tok _, by rw [isEmpty_kv r]; exact q⟩
  | _ => exact (show False from e).elim
/-- any expression whose test is its value's truth (a name, a call, a subscript, a field ..: he by fun _ => rfl) -/
theorem pt_truth (ha : PE X a ta) (he : ∀ whole, isTrue a X.env whole = (do let v ← whole; standAt a.pos; holding [v] (truthy v))) :
    PT X a (fun σ H Q => ta σ H fun x H' => ∃ k, TruV X.K x H' k ∧ Q k H') := by
  intro pins s σ H Q I h
  exact isTrue_plain (thn (ha s σ H _ I h) fun v s1 ⟨x, H1, I1, r1, q1⟩ => tru_ok s1 σ H1 x v Q I1 r1 q1) (he _)
theorem op_add_str : OpR X (binaryOp .Add) (fun x y H Q => ∃ i j, x = .str i ∧ y = .str j ∧ i.length + j.length ≤ sizeLine ∧ Q (.str (i ++ j)) H) := by
  intro pins s σ H x y v u Q I rx ry h
  obtain ⟨i, j, rfl, rfl, hz, q⟩ := h
  obtain ⟨t, rfl⟩ := rx
  obtain ⟨t', rfl⟩ := ry
  exact add_str (fun t' tk => ⟨.str (i ++ j), H, I.tok _, ⟨_, rfl⟩, q⟩) hz
theorem vals1 {x : V} {us : List Value} (r : Vals [x] us) : ∃ u, us = [u] ∧ RelV x u := by
  cases r with
  | cons r1 r2 => cases r2; exact ⟨_, rfl, r1⟩
theorem vals2 {x y : V} {us : List Value} (r : Vals [x, y] us) : ∃ u w', us = [u, w'] ∧ RelV x u ∧ RelV y w' := by
  cases r with
  | cons r1 r2 =>
    cases r2 with
    | cons r3 r4 => cases r4; exact ⟨_, _, rfl, r1, r3⟩
theorem call_max2 (hc : X.calm = true) : CallR X (.builtin "max") (fun xs H Q => ∃ i j, xs = [.int i, .int j] ∧ Q (.int (if j > i then j else i)) H) := by
  intro pins s σ H xs us Q I r h
  obtain ⟨i, j, rfl, q⟩ := h
  obtain ⟨u, w', rfl, ⟨t, rfl⟩, ⟨t', rfl⟩⟩ := vals2 r
  refine max_two_ints (I.ok.hd hc) fun h' tk k => ⟨_, H, I.kept k, ?_, q⟩
  by_cases hj : j > i
  · rw [if_pos hj, if_pos hj]; exact ⟨_, rfl⟩
  · rw [if_neg hj, if_neg hj]; exact ⟨_, rfl⟩
theorem call_min2 (hc : X.calm = true) : CallR X (.builtin "min") (fun xs H Q => ∃ i j, xs = [.int i, .int j] ∧ Q (.int (if j < i then j else i)) H) := by
  intro pins s σ H xs us Q I r h
  obtain ⟨i, j, rfl, q⟩ := h
  obtain ⟨u, w', rfl, ⟨t, rfl⟩, ⟨t', rfl⟩⟩ := vals2 r
  refine min_two_ints (I.ok.hd hc) fun h' tk k => ⟨_, H, I.kept k, ?_, q⟩
  by_cases hj : j < i
  · rw [if_pos hj, if_pos hj]; exact ⟨_, rfl⟩
  · rw [if_neg hj, if_neg hj]; exact ⟨_, rfl⟩
theorem call_int1 : CallR X (.type "int") (fun xs H Q => (∃ i, xs = [.int i] ∧ Q (.int i) H) ∨ ∃ k, xs = [.bl k] ∧ Q (.int (if k then 1 else 0)) H) := by
  intro pins s σ H xs us Q I r h
  rcases h with ⟨i, rfl, q⟩ | ⟨k, rfl, q⟩
  · obtain ⟨u, rfl, t, rfl⟩ := vals1 r
    exact call_int_int ⟨.int i, H, I, ⟨_, rfl⟩, q⟩
  · obtain ⟨u, rfl, r1⟩ := vals1 r
    cases r1
    exact call_int_bool ⟨.int (if k then 1 else 0), H, I.tok _, ⟨_, rfl⟩, q⟩
theorem call_str_int : CallR X (.type "str") (fun xs H Q => ∃ i, xs = [.int i] ∧ i.natAbs.log2 < 1920 ∧ Q (.str (toString i)) H) := by
  intro pins s σ H xs us Q I r h
  obtain ⟨i, rfl, hz, q⟩ := h
  obtain ⟨u, rfl, t, rfl⟩ := vals1 r
  exact PySem.P.str_of_int hz ⟨.str _, H, I.tok _, ⟨_, rfl⟩, q⟩
end
end L2
namespace L2
open PySem PySem.Spec PyProof.Rows
structure ObjM (h : Heap) (x dx C : Addr) (mA : Str → Option Value) : Prop where
  obj : h.get? x = some (PySem.W.instObj C dx)
  ns : h.Ns1 dx mA
  ne : dx ≠ x
theorem lookIn_ns {h : Heap} {dx : Addr} {mA : Str → Option Value} (n : h.Ns1 dx mA) : ∃ od, h.get? dx = some od ∧ ∀ name, PySem.W.lookIn name od = some (mA name) := by
  obtain ⟨o, es, ep, ho, hd, hk, _, hm⟩ := n
  refine ⟨o, ho, fun name => ?_⟩
  have e := hm name
  unfold nsFind findBy at e
  rw [← Array.find?_toList] at e
  unfold PySem.W.lookIn
  rw [hd]
  dsimp only
  split
  · rename_i y q
    rw [q] at e
    exact congrArg some e
  · rename_i q
    rw [q] at e
    have a : es.toList.any (·.refKey) = false := by
      rw [List.any_eq_false]
      intro y hy
      obtain ⟨z, t, hkey⟩ := hk y (Array.mem_toList_iff.mp hy)
      simp [DictEntry.refKey, hkey]
    have a' : ¬ es.toList.any (·.refKey) = true := by rw [a]; exact Bool.false_ne_true
    rw [if_neg a']
    exact congrArg some e
theorem ObjM.look {h : Heap} {x dx C : Addr} {mA : Str → Option Value} (I : ObjM h x dx C mA) : ∃ od, PySem.W.InstAt h x (PySem.W.instObj C dx) C (some od) ∧ ∀ name, PySem.W.lookIn name od = some (mA name) :=
  let ⟨od, ho, hl⟩ := lookIn_ns I.ns
  ⟨od, ⟨I.obj, rfl, rfl, ho⟩, hl⟩
section
variable {prog : Program} {w : World} {A : Around} {E : Value → Shared → Prop} {s : Shared} {K : PySem.W.Frag} {x dx C f : Addr} {mA : Str → Option Value} {name : Str} {v : Value}
end
section
variable {P : Program} {w : World} {H H' : Hp} {h h' : Heap} {a C dx : Addr} {fs fs' : List (Str × V)}
theorem ins_get (hok : HOk P w H h) (e : H a = some (.ins C dx fs)) : ∃ mA, ObjM h a dx C mA ∧ (∀ f, RelO (fs.lookup f) (mA f)) ∧ PySem.Within mA (fs.map (·.1)) ∧ fs.length ≤ 1000 ∧ H dx = some (.own a) := by
  obtain ⟨d, z, ne, ob, mA, n, r, q⟩ := (show ObjOk P w H h a (.ins C dx fs) from hok a _ e)
  exact ⟨mA, ⟨ob, n, ne⟩, r, q, z, d⟩
end
structure Cls (K : PySem.W.Frag) (C : Addr) : Prop where
  pg : PySem.W.plainGet K C Str.empty = true
  hd : PySem.W.hasDictIn K C = true
  po : PySem.W.plainOver K C = true
  sa : PySem.W.findIn K (.ref C) "__setattr__" = some (some (.builtin "object.__setattr__"))
theorem Cls.get {K : PySem.W.Frag} {C : Addr} (c : Cls K C) (f : Str) : PySem.W.plainGet K C f = true := c.pg
/-- a constant of the class -/
structure Con (K : PySem.W.Frag) (C : Addr) (f : Str) (v : V) (u : Value) : Prop where
  at_ : PySem.W.findIn K (.ref C) f = some (some u)
  rel : RelV v u
  get : PySem.W.specialIn K u "__get__" = some none
  cp : PySem.W.copiedNames.contains f = false
/-- a method: a plain def of the class or of one above it -/
structure Meth (K : PySem.W.Frag) (C : Addr) (m : Str) (f : Addr) : Prop where
  at_ : PySem.W.findIn K (.ref C) m = some (some (.ref f))
  fn : PySem.W.isFn K (.ref f) = true
  kp : PySem.W.keepIn K (.ref f) = true
section
variable {X : Cx} {pins : List (Addr × Obj)} {σ : St} {H : Hp} {s : Shared} {a C dx : Addr} {fs : List (Str × V)} {f : Str} {v : V} {A : Around} {E : Value → Shared → Prop}
/-- a new instance, tracked, without attributes -/
theorem Inv.made (I : Inv X pins σ H s) : Inv X pins σ (upd (upd H s.heap.objs.size (.own (s.heap.objs.size + 1))) (s.heap.objs.size + 1) (.ins C s.heap.objs.size []))
    { s with heap := (s.heap.push PySem.W.emptyDict).push (PySem.W.instObj C s.heap.objs.size) } := by
  have e1 : (s.heap.push PySem.W.emptyDict).get? s.heap.objs.size = some PySem.W.emptyDict := Heap.get?_push_size s.heap rfl
  have e2 : ((s.heap.push PySem.W.emptyDict).push (PySem.W.instObj C s.heap.objs.size)).get? (s.heap.objs.size + 1) = some (PySem.W.instObj C s.heap.objs.size) := by
    have := Heap.get?_push_size (s.heap.push PySem.W.emptyDict) (o := PySem.W.instObj C s.heap.objs.size) rfl
    rwa [Heap.size_push] at this
  have e3 : (s.heap.push PySem.W.emptyDict).Ns s.heap.objs.size (fun _ => none) := ⟨PySem.W.emptyDict, #[], _, e1, rfl, (fun e he => absurd he (by simp)), fun _ => rfl⟩
  have I1 := I.laid (a := s.heap.objs.size) (o := .own (s.heap.objs.size + 1)) (h' := s.heap.push PySem.W.emptyDict) (t' := s.toks) (fun b u q => Heap.get?_push_of_some _ q) (Nat.le_refl _) ⟨_, e1⟩
  refine I1.laid (a := s.heap.objs.size + 1) (o := .ins C s.heap.objs.size []) (t' := s.toks) (fun b u q => Heap.get?_push_of_some _ q) (Nat.le_of_eq (Heap.size_push _ _)) ?_
  have ne : s.heap.objs.size ≠ s.heap.objs.size + 1 := Nat.ne_of_lt (Nat.lt_succ_self _)
  refine ⟨by rw [upd_ne ne, upd_same], Nat.zero_le _, ne, e2, fun _ => none, (Heap.Ns1.of_empty e3).at fun o q => Heap.get?_push_of_some _ q, fun _ => True.intro, fun y hy => absurd rfl hy⟩
end
section
variable {X : Cx} {o e value : Expr} {f : Str} {pos pos' tpos : Pos} {ta tv : TE}
end
section
variable {X : Cx} {pins : List (Addr × Obj)} {σ : St} {H : Hp} {s : Shared} {A : Around} {E : Value → Shared → Prop} {Q : Value → Shared → Prop} {c : Value} {b : Bool}
/-- the type of a value, as the fragment's deciders take it; for an instance its class -/
inductive TyOf (K : PySem.W.Frag) (H : Hp) : V → Value → Prop where
  | non : TyOf K H .non (.type "NoneType")
  | bl (x : Bool) : TyOf K H (.bl x) (.type "bool")
  | int (i : Int) : TyOf K H (.int i) (.type "int")
  | str (x : Str) : TyOf K H (.str x) (.type "str")
  | flt (x : UInt64) : TyOf K H (.flt x) (.type "float")
  | lst {a : Addr} {xs : List V} (e : H a = some (.lst xs)) : TyOf K H (.ref a) (.type "list")
  | frz {a : Addr} {o : Obj} {xs : List V} (e : H a = some (.frz o (.lst xs))) : TyOf K H (.ref a) (.type "list")
  | tup {a : Addr} {xs : List V} (e : H a = some (.tup xs)) : TyOf K H (.ref a) (.type "tuple")
  | dK {a : Addr} {kvs : List (Key × V)} (e : H a = some (.dK kvs)) : TyOf K H (.ref a) (.type "dict")
  | dT {a : Addr} {kvs : List (List Key × V)} (e : H a = some (.dT kvs)) : TyOf K H (.ref a) (.type "dict")
  | ins {a C dx : Addr} {fs : List (Str × V)} (e : H a = some (.ins C dx fs)) (cl : Cls K C) (ha : PySem.W.findIn K (.ref C) "__class__" = some (some (.builtin "object.__class__")))
      (hn : PySem.W.specialIn K (.builtin "object.__class__") "__get__" = some (some (.builtin "getset_descriptor.__get__"))) (htk : PySem.W.takesIn K (.builtin "object.__class__") = some true)
      (hm : PySem.W.mroIn K C (.type "object") = some true) : TyOf K H (.ref a) (.ref C)
/-- isinstance(x, c) for one class c, a built-in or an own one: kitOne's answer -/
theorem isinst_ok {x : V} {u t : Value} (I : Inv X pins σ H s) (rx : RelV x u) (ty : TyOf X.K H x t) (e : PySem.W.kitOne X.K t c = some b) (h : ∀ tk, Q (.bool b) { s with toks := tk }) :
    wpAny (model X.prog X.w) A (call (.builtin "isinstance") [u, c]) Q E s := by
  cases ty with
  | non => cases (show u = Value.none from rx); exact PySem.W.kia_one PySem.W.kitx_none I.kIn True.intro e (fun z => nomatch z) h
  | bl y => cases (show u = Value.bool y from rx); exact PySem.W.kia_one PySem.W.kitx_bool I.kIn True.intro e (fun z => nomatch z) h
  | int i => obtain ⟨t, q⟩ := (show ∃ t, u = Value.int i t from rx); cases q; exact PySem.W.kia_one PySem.W.kitx_int I.kIn True.intro e (fun z => nomatch z) h
  | str y => obtain ⟨t, q⟩ := (show ∃ t, u = Value.str y t from rx); cases q; exact PySem.W.kia_one PySem.W.kitx_str I.kIn True.intro e (fun z => nomatch z) h
  | flt y => obtain ⟨t, q⟩ := (show ∃ t, u = Value.float y t from rx); cases q; exact PySem.W.kia_one PySem.W.kitx_float I.kIn True.intro e (fun z => nomatch z) h
  | @lst a xs ea =>
    cases (show u = Value.ref a from rx)
    obtain ⟨_, _, n, _, h1⟩ := (show ObjOk X.prog X.w H s.heap a (.lst xs) from I.hok a _ ea)
    exact PySem.W.kia_one PySem.W.kitx_list I.kIn ⟨_, h1, rfl⟩ e (fun z => nomatch z) h
  | @frz a ob xs ea =>
    cases (show u = Value.ref a from rx)
    obtain ⟨_, _, _, n, _, h1⟩ := (show ObjOk X.prog X.w H s.heap a (.frz ob (.lst xs)) from I.hok a _ ea)
    exact PySem.W.kia_one PySem.W.kitx_list I.kIn ⟨_, h1, rfl⟩ e (fun z => nomatch z) h
  | @tup a xs ea =>
    cases (show u = Value.ref a from rx)
    obtain ⟨_, _, _, p⟩ := (show ObjOk X.prog X.w H s.heap a (.tup xs) from I.hok a _ ea)
    obtain ⟨o, h1, h2, _⟩ := p
    exact PySem.W.kia_one PySem.W.kitx_tuple I.kIn ⟨o, h1, h2⟩ e (fun z => nomatch z) h
  | @dK a kvs ea =>
    cases (show u = Value.ref a from rx)
    obtain ⟨_, _, vs, _, p⟩ := (show ObjOk X.prog X.w H s.heap a (.dK kvs) from I.hok a _ ea)
    obtain ⟨o, es, ep, h1, h2, _⟩ := p
    exact PySem.W.kia_one PySem.W.kitx_dict I.kIn ⟨o, h1, h2.1⟩ e (fun z => nomatch z) h
  | @dT a kvs ea =>
    cases (show u = Value.ref a from rx)
    obtain ⟨_, _, xs, _, o, es, ep, h1, h2, _⟩ := (show ObjOk X.prog X.w H s.heap a (.dT kvs) from I.hok a _ ea)
    exact PySem.W.kia_one PySem.W.kitx_dict I.kIn ⟨o, h1, h2.1⟩ e (fun z => nomatch z) h
  | @ins a C dx fs ea cl ha hn htk hm =>
    cases (show u = Value.ref a from rx)
    obtain ⟨mA, O, _⟩ := ins_get I.hok ea
    obtain ⟨od, J, _⟩ := O.look
    exact PySem.W.kia_one (PySem.W.kitx_own (cl.get _) cl.hd ha hn htk hm) I.kIn J e (fun z => nomatch z) h
end
end L2
namespace L2
open PySem PySem.Spec PyProof.Rows
structure Room (k : Nat) (A : Around) : Prop where
  hd : A.handled = none
  dp : A.depth + 3 * k + 5 < recursionLimit
  un : A.units + 16 * k + 200 < cLine
theorem Room.mono {j k : Nat} {A : Around} (r : Room k A) (h : j ≤ k) : Room j A := ⟨r.hd, by have := r.dp; omega, by have := r.un; omega⟩
theorem Room.deeper {k : Nat} {A : Around} (r : Room (k + 1) A) (env : Env) : Room k (A.deeper env) :=
  ⟨r.hd, by have := r.dp; show A.depth + 1 + 3 * k + 5 < _; omega, by have := r.un; show A.units + 3 + 16 * k + 200 < _; omega⟩
theorem Room.in1 {k : Nat} {A : Around} (r : Room (k + 1) A) : Room k A.in1 :=
  ⟨r.hd, by have := r.dp; show A.depth + 3 * k + 5 < _; omega, by have := r.un; show A.units + 1 + 16 * k + 200 < _; omega⟩
theorem Room.depth {k : Nat} {A : Around} (r : Room k A) : A.depth < recursionLimit := by have := r.dp; omega
theorem Room.units {k : Nat} {A : Around} (r : Room k A) : A.units + 64 < cLine := by have := r.un; omega
def tNil : TA := fun _ H Q => Q [] H
def tCons (ta : TE) (tr : TA) : TA := fun σ H Q => ta σ H fun x H1 => tr σ H1 fun xs H2 => Q (x :: xs) H2
section
variable {X : Cx} {e : Expr} {es : List Expr} {te : TE} {t : TA} {pos : Pos}
theorem pa_nil : PA X [] tNil := fun _ _ _ _ H Q I h => Calls.spliced_nil ⟨[], H, I, .nil, h⟩
theorem pa_cons (ha : PE X e te) (hr : PA X es t) (hs : starEach (e :: es) X.env = (false, eval e X.env) :: starEach es X.env := by exact star_of rfl) : PA X (e :: es) (tCons te t) := by
  intro pins pos s σ H Q I h
  rw [hs]
  show wpAny _ _ (spliced ((false, eval e X.env) :: backTo pos (starEach es X.env))) _ _ s
  refine Calls.spliced_cons (thn (ha s σ H _ I h) fun u s1 ⟨x, H1, I1, r1, q1⟩ => ?_)
  exact thn (hr pos s1 σ H1 _ I1 q1) fun us s2 ⟨xs, H2, I2, r2, q2⟩ => ⟨x :: xs, H2, I2, .cons r1 r2, q2⟩
/-- a tuple, a list of written items -/
def tTup (t : TA) : TE := fun σ H Q => t σ H fun xs H1 => xs.length ≤ sizeLine ∧ ∀ p, H1 p = none → Q (.ref p) (upd H1 p (.tup xs))
def tLst (t : TA) : TE := fun σ H Q => t σ H fun xs H1 => xs.length ≤ sizeLine ∧ ∀ p, H1 p = none → Q (.ref p) (upd H1 p (.lst xs))
theorem pe_tup {x1} (h : PA X es t) : PE X (.Tuple es x1 pos) (tTup t) := by
  intro pins s σ H Q I hq
  refine wpAny_Tuple_spliced (thn (h pos s σ H _ I hq) fun us s1 ⟨xs, H1, I1, r, z, q⟩ => ⟨by rw [← r.length]; exact z, ?_⟩)
  have hf : H1 s1.heap.objs.size = none := I1.hok.fresh (Nat.le_refl _)
  refine ⟨.ref s1.heap.objs.size, upd H1 s1.heap.objs.size (.tup xs), I1.laid (t' := s1.toks) (fun b u e => Heap.get?_push_of_some _ e) (Nat.le_refl _) ?_, rfl, q _ hf⟩
  exact ⟨z, us, r, ⟨_, Heap.get?_push_size _ rfl, rfl, ⟨_, rfl⟩, rfl⟩⟩
theorem pe_lst (h : PA X es t) : PE X (.List es pos) (tLst t) := by
  intro pins s σ H Q I hq
  refine wpAny_List_spliced (thn (h pos s σ H _ I hq) fun us s1 ⟨xs, H1, I1, r, z, q⟩ => ⟨by rw [← r.length]; exact z, ?_⟩)
  have hf : H1 s1.heap.objs.size = none := I1.hok.fresh (Nat.le_refl _)
  refine ⟨.ref s1.heap.objs.size, upd H1 s1.heap.objs.size (.lst xs), I1.laid (t' := s1.toks) (fun b u e => Heap.get?_push_of_some _ e) (Nat.le_refl _) ?_, rfl, q _ hf⟩
  exact ⟨z, us, 0, r, Heap.get?_push_size _ rfl⟩
end
/-- a def's promise: the bound arguments in the parameters' order, the heap, the wanted end, the wanted exception -/
abbrev Sp := List V → Hp → VK → XK → Prop
/-- how an exception lies behind a call (file 08 gives it): the callers' frames, abstract heap and state ahead of the call, the wish, the exception, the state -/
abbrev CXT := List Env → Hp → Shared → XK → Value → Shared → Prop
/-- the state at a call -/
structure Env0 (P : Program) (w : World) (K : PySem.W.Frag) (mg : Str → Option Value) (base : Heap) (A : Around) (outer : List Env) (s : Shared) (H : Hp) : Prop where
  frames : A.frames = some outer
  mod : Mod K mg base
  bs : ∀ b o, base.get? b = some o → s.heap.get? b = some o ∧ H b = none
  bsz : base.objs.size ≤ s.heap.objs.size
  funs : s.heap.FunFrames base outer
  frf : ∀ b ∈ frs outer, H b = none
  hok : HOk P w H s.heap
  bare : AllBare s.gens
/-- a call's end -/
def CE (outer : List Env) (P : Program) (w : World) (H : Hp) (s : Shared) (Q : VK) (u : Value) (s' : Shared) : Prop :=
  ∃ v H', s'.os = s.os ∧ GB s.gens.size s'.gens ∧ Un (frs outer) [] H H' s.heap s'.heap ∧ HOk P w H' s'.heap ∧ RelV v u ∧ Q v H'
def CR (CX : CXT) (outer : List Env) (P : Program) (w : World) (H : Hp) (s : Shared) (Q : VK) (E : XK) (r : Result) (s' : Shared) : Prop :=
  match r with
  | .ok (.ret u) => CE outer P w H s Q u s'
  | .ok _ => False
  | .error e => CX outer H s E e s'
structure FnOk (P : Program) (w : World) (K : PySem.W.Frag) (mg : Str → Option Value) (base : Heap) (CX : CXT) (k : Nat) (f : Addr) (fd : FuncData) (ps : List Str) (sp : Sp) : Prop where
  len : ∀ vs H Q E, sp vs H Q E → vs.length = ps.length
  run : ∀ (A : Around) (outer : List Env) (s : Shared) (H : Hp) (args : Args) (us : List Value) (vs : List V) (Q : VK) (E : XK), Room k A → Env0 P w K mg base A outer s H → BindsTo s fd args (ps.zip us) → Vals vs us → sp vs H Q E →
    codeAny (model P w) A (.call (.ref f) args) (CR CX outer P w H s Q E) s
theorem FnOk.mono {P : Program} {w : World} {K : PySem.W.Frag} {mg : Str → Option Value} {base : Heap} {CX : CXT} {j k : Nat} {f : Addr} {fd : FuncData} {ps : List Str} {sp : Sp} (F : FnOk P w K mg base CX j f fd ps sp) (h : j ≤ k) :
    FnOk P w K mg base CX k f fd ps sp := ⟨F.len, fun A outer s H args us vs Q E hr => F.run A outer s H args us vs Q E (hr.mono h)⟩
/-- a weaker promise -/
theorem FnOk.imp {P : Program} {w : World} {K : PySem.W.Frag} {mg : Str → Option Value} {base : Heap} {CX : CXT} {k : Nat} {f : Addr} {fd : FuncData} {ps : List Str} {sp sp' : Sp} (F : FnOk P w K mg base CX k f fd ps sp)
    (h : ∀ vs H Q E, sp' vs H Q E → sp vs H Q E) : FnOk P w K mg base CX k f fd ps sp' :=
  ⟨fun vs H Q E q => F.len vs H Q E (h _ _ _ _ q), fun A outer s H args us vs Q E hr he hb hv hs => F.run A outer s H args us vs Q E hr he hb hv (h _ _ _ _ hs)⟩
theorem Env0.in1 {P : Program} {w : World} {K : PySem.W.Frag} {mg : Str → Option Value} {base : Heap} {A : Around} {outer : List Env} {s : Shared} {H : Hp} (e : Env0 P w K mg base A outer s H) :
    Env0 P w K mg base A.in1 outer s H := ⟨e.frames, e.mod, e.bs, e.bsz, e.funs, e.frf, e.hok, e.bare⟩
section
variable {X : Cx} {pins : List (Addr × Obj)} {σ : St} {H : Hp} {s s' : Shared}
/-- from a body: what a callee wants -/
theorem Inv.env0 (I : Inv X pins σ H s) : Env0 X.prog X.w X.K X.mg X.base X.A X.stack s H :=
  ⟨I.ok.frames, I.ok.mod, I.bs, Nat.le_trans I.ok.bsz I.sz, I.stack, I.stkFree, I.hok, I.bare.all⟩
/-- behind a call -/
theorem Inv.after {Q : VK} {u : Value} (I : Inv X pins σ H s) (h : CE X.stack X.prog X.w H s Q u s') : EP X pins σ Q u s' := by
  obtain ⟨v, H', os, bare, un, hok, r, q⟩ := h
  obtain ⟨hh, g, d, t, os'⟩ := s'
  obtain rfl : os' = s.os := os
  exact ⟨v, H', I.call (h' := hh) (g' := g) (d' := d) (t' := t) (ch := []) un hok bare (fun b z => absurd z (by simp)), r, q⟩
end
/-- f(..): the written arguments, then the defaults dvs; E: what is wanted of an exception -/
def tCall (sp : Sp) (dvs : List V) (E : XK) (t : TA) : TE := fun σ H Q => t σ H fun vs H1 => sp (vs ++ dvs) H1 Q E
/-- how the parameters are bound: us the positional arguments, kw the keywords' values by name, ds the defaults that fill up -/
def Binds (K : PySem.W.Frag) (fd : FuncData) (ps : List Str) (ds : List Value) : Prop :=
  ∀ (s : Shared) (us : List Value), K.In s.heap → (us ++ ds).length = ps.length → BindsTo s fd ⟨us, []⟩ (ps.zip (us ++ ds))
/-- every parameter is given -/
theorem Binds.all {K : PySem.W.Frag} {fd : FuncData} {ps : List Str} (h : ∀ us : List Value, us.length = ps.length → bindArgs fd ⟨us, []⟩ = pure (ps.zip us)) : Binds K fd ps [] := fun s us _ hl => by
  rw [List.append_nil] at hl ⊢
  exact .of_eq (h us hl)
/-- an exception of a callee reaches what this body wants of exceptions -/
def Passes (CX : CXT) (X : Cx) (E : XK) : Prop := ∀ (pins : List (Addr × Obj)) (σ : St) (H : Hp) (s : Shared) (e : Value) (s' : Shared), Inv X pins σ H s → CX X.stack H s E e s' → X.xe e s'
section
variable {X : Cx} {CX : CXT} {k : Nat} {f C : Addr} {fd : FuncData} {ps : List Str} {sp : Sp} {dvs : List V} {ds : List Value} {E : XK} {x m : Str} {p pos apos : Pos} {e o : Expr} {es : List Expr} {ta : TE} {t : TA}
/-- the callee runs -/
theorem run_fn {pins : List (Addr × Obj)} {σ : St} {H : Hp} {s : Shared} {Q : VK} {us : List Value} {vs : List V} (F : FnOk X.prog X.w X.K X.mg X.base CX k f fd ps sp) (hr : Room k X.A) (hb : Binds X.K fd ps ds) (hd : Vals dvs ds) (hx : Passes CX X E)
    (I : Inv X pins σ H s) (r : Vals vs us) (h : sp (vs ++ dvs) H Q E) : wpAny (model X.prog X.w) X.A (call (.ref f) us) (EP X pins σ Q) X.xe s := by
  have r2 : Vals (vs ++ dvs) (us ++ ds) := r.append hd
  have hl : (us ++ ds).length = ps.length := by rw [← r2.length]; exact F.len _ _ _ _ h
  refine wpAny_call (codeAny_mono (F.run X.A X.stack s H ⟨us, []⟩ (us ++ ds) (vs ++ dvs) Q E hr I.env0 (hb s us I.kIn hl) r2 h) fun r s' hq => ?_)
  cases r with
  | error e => exact hx pins σ H s e s' I hq
  | ok fl =>
    cases fl with
    | ret u => exact I.after hq
    | next => exact False.elim hq
    | brk => exact False.elim hq
    | cont => exact False.elim hq
theorem pe_call (F : FnOk X.prog X.w X.K X.mg X.base CX k f fd ps sp) (hr : Room k X.A) (hg : Gl X x) (hm : X.mg x = some (.ref f)) (hk : PySem.W.keepIn X.K (.ref f) = true) (hb : Binds X.K fd ps ds) (hd : Vals dvs ds) (hx : Passes CX X E)
    (ha : PA X (e :: es) t) (hdb : (x == ("__debug__" : Str)) = false := by decide) (he : starEach (e :: es) X.env = (false, eval e X.env) :: starEach es X.env := by exact star_of rfl) (hpl : (backTo pos (starEach es X.env)).any (·.1) = false := by exact plain_of rfl) :
    PE X (.Call (.Name x p) (e :: es) [] pos) (tCall sp dvs E t) := by
  intro pins s σ H Q I h
  refine wpAny_Call_Name_kw (ld_glob I hg hm ?_ hdb)
  refine PySem.W.callWith_K (h₀ := X.base) I.ok.mod.kin hk (thn (ha pos s σ H _ I h) fun us s1 ⟨vs, H1, I1, r, q⟩ => ⟨I1.kIn, ?_⟩) he hpl
  exact run_fn F hr hb hd hx I1 r q
/-- what a class must have to be made -/
structure Mk (K : PySem.W.Frag) (C f : Addr) : Prop where
  makes : PySem.W.makesIn K C = true
  init : PySem.W.findIn K (.ref C) "__init__" = some (some (.ref f))
  fn : PySem.W.isFn K (.ref f) = true
  kp : PySem.W.keepIn K (.ref C) = true
end
/-- the values of the keywords, from the left -/
def PK (X : Cx) (kws : List Keyword) (t : TA) : Prop :=
  ∀ ⦃pins : List (Addr × Obj)⦄ (pos : Pos) (s : Shared) (σ : St) (H : Hp) (Q : List V → Hp → Prop), Inv X pins σ H s → t σ H Q → wpAny (model X.prog X.w) X.A (evalAll ((backToKw pos (keywordEach kws X.env)).map (·.2))) (AP X pins σ Q) X.xe s
section
variable {X : Cx} {CX : CXT} {k : Nat} {f C : Addr} {fd : FuncData} {ps ks : List Str} {sp : Sp} {E : XK} {x m : Str} {p pos apos kpos : Pos} {e o : Expr} {es : List Expr} {kws : List Keyword} {te ta : TE} {t tk : TA} {nm : Option Str}
theorem pk_nil : PK X [] tNil := fun _ _ _ _ H Q I h => wpAny_evalAll_nil ⟨[], H, I, .nil, h⟩
theorem pk_cons (ha : PE X e te) (hr : PK X kws t) : PK X (⟨nm, e, kpos⟩ :: kws) (tCons te t) := by
  intro pins pos s σ H Q I h
  show wpAny _ _ (evalAll ((do let v ← eval e X.env; standAt pos; pure v) :: (backToKw pos (keywordEach kws X.env)).map (·.2))) _ _ s
  refine wpAny_evalAll_cons (wpAny_bind (thn (ha s σ H _ I h) fun u s1 ⟨x, H1, I1, r1, q1⟩ => wpAny_bind (wpAny_standAt (wpAny_pure ?_))))
  exact thn (hr pos s1 σ H1 _ I1 q1) fun us s2 ⟨xs, H2, I2, r2, q2⟩ => ⟨x :: xs, H2, I2, .cons r1 r2, q2⟩
/-- how a call with keywords binds: g puts the positional values us and the keywords' values ws (names ks) in the parameters' order, defaults among them -/
structure KBinds (K : PySem.W.Frag) (fd : FuncData) (ps ks : List Str) (g : List Value → List Value → List Value) (gV : List V → List V → List V) : Prop where
  to : ∀ (s : Shared) (us ws : List Value), K.In s.heap → (g us ws).length = ps.length → BindsTo s fd ⟨us, ks.zip ws⟩ (ps.zip (g us ws))
  rel : ∀ {vs : List V} {us : List Value} {zs : List V} {ws : List Value}, Vals vs us → Vals zs ws → Vals (gV vs zs) (g us ws)
variable {g : List Value → List Value → List Value} {gV : List V → List V → List V}
theorem run_fnk {pins : List (Addr × Obj)} {σ : St} {H : Hp} {s : Shared} {Q : VK} {us ws : List Value} {vs zs : List V} (F : FnOk X.prog X.w X.K X.mg X.base CX k f fd ps sp) (hr : Room k X.A) (hb : KBinds X.K fd ps ks g gV) (hx : Passes CX X E)
    (I : Inv X pins σ H s) (r : Vals vs us) (rz : Vals zs ws) (h : sp (gV vs zs) H Q E) : wpAny (model X.prog X.w) X.A (call (.ref f) us (ks.zip ws)) (EP X pins σ Q) X.xe s := by
  have r2 := hb.rel r rz
  have hl : (g us ws).length = ps.length := by rw [← r2.length]; exact F.len _ _ _ _ h
  refine wpAny_call (codeAny_mono (F.run X.A X.stack s H ⟨us, ks.zip ws⟩ (g us ws) (gV vs zs) Q E hr I.env0 (hb.to s us ws I.kIn hl) r2 h) fun r s' hq => ?_)
  cases r with
  | error e => exact hx pins σ H s e s' I hq
  | ok fl =>
    cases fl with
    | ret u => exact I.after hq
    | next => exact False.elim hq
    | brk => exact False.elim hq
    | cont => exact False.elim hq
end
/-- names: the parameters first -/
structure FnScope (N P : List Str) (sc : Scope) : Prop where
  kind : sc.kind = .function
  co : sc.isCoroutine = false
  gen : sc.isGenerator = false
  nd : N.Nodup
  pre : N.take P.length = P
  par : ∀ x ∈ P, sc.names.lookup x = some .local ∨ sc.names.lookup x = some .cell
  nofree : ∀ y ∈ sc.names, y.2 ≠ .free
theorem bindL_out {kindOf : Str → Option NameKind} {x : Str} : ∀ {binds : List (Str × Value)} {m : Str → Option Value}, (∀ v, (x, v) ∉ binds) → bindL kindOf binds m x = m x
  | [], _, _ => rfl
  | (n, v) :: r, m, h => by
    unfold bindL
    rw [bindL_out fun w hw => h w (List.mem_cons_of_mem _ hw)]
    split
    · have : x ≠ n := by rintro rfl; exact h v List.mem_cons_self
      simp [this]
    · rfl
theorem bindC_out {kindOf : Str → Option NameKind} {x : Str} : ∀ {binds : List (Str × Value)} {m : Str → Option Value}, (∀ v, (x, v) ∉ binds) → bindC kindOf binds m x = m x
  | [], _, _ => rfl
  | (n, v) :: r, m, h => by
    unfold bindC
    rw [bindC_out fun w hw => h w (List.mem_cons_of_mem _ hw)]
    split
    · rfl
    · have : x ≠ n := by rintro rfl; exact h v List.mem_cons_self
      simp [this]
theorem bindL_get {kindOf : Str → Option NameKind} {x : Str} {v : Value} : ∀ {P : List Str} {vs : List Value} {i : Nat} {m : Str → Option Value}, P.Nodup → P[i]? = some x → vs[i]? = some v → kindOf x = some .local →
    bindL kindOf (P.zip vs) m x = some v
  | [], _, _, _, _, h, _, _ => by simp at h
  | _ :: _, [], _, _, _, _, h, _ => by simp at h
  | p :: P, w :: vs, 0, m, nd, h1, h2, hk => by
    simp at h1 h2; subst h1; subst h2
    show bindL kindOf ((p, w) :: P.zip vs) m p = _
    unfold bindL
    rw [bindL_out fun v hv => (List.nodup_cons.mp nd).1 (List.of_mem_zip hv).1, if_pos hk]
    simp
  | p :: P, w :: vs, i + 1, m, nd, h1, h2, hk => by
    show bindL kindOf ((p, w) :: P.zip vs) m x = _
    unfold bindL
    exact bindL_get (i := i) (List.nodup_cons.mp nd).2 (by simpa using h1) (by simpa using h2) hk
theorem bindC_get {kindOf : Str → Option NameKind} {x : Str} {v : Value} : ∀ {P : List Str} {vs : List Value} {i : Nat} {m : Str → Option Value}, P.Nodup → P[i]? = some x → vs[i]? = some v → kindOf x ≠ some .local →
    bindC kindOf (P.zip vs) m x = some v
  | [], _, _, _, _, h, _, _ => by simp at h
  | _ :: _, [], _, _, _, _, h, _ => by simp at h
  | p :: P, w :: vs, 0, m, nd, h1, h2, hk => by
    simp at h1 h2; subst h1; subst h2
    show bindC kindOf ((p, w) :: P.zip vs) m p = _
    unfold bindC
    rw [bindC_out fun v hv => (List.nodup_cons.mp nd).1 (List.of_mem_zip hv).1, if_neg hk]
    simp
  | p :: P, w :: vs, i + 1, m, nd, h1, h2, hk => by
    show bindC kindOf ((p, w) :: P.zip vs) m x = _
    unfold bindC
    exact bindC_get (i := i) (List.nodup_cons.mp nd).2 (by simpa using h1) (by simpa using h2) hk
/-- the names' values at the entry -/
def start (N : List Str) (vs : List V) : St := vs.map some ++ List.replicate (N.length - vs.length) none
/-- the context of a def's body, at its entry; an exception leaves the frame, then lies as CX says -/
def cxOf (CX : CXT) (P : Program) (w : World) (K : PySem.W.Frag) (mg : Str → Option Value) (base : Heap) (N : List Str) (qual : Str) (scope : Scope) (f : Addr) (cd : Value) (A : Around) (outer : List Env) (s : Shared) (H : Hp) (E : XK) : Cx where
  prog := P
  w := w
  K := K
  mg := mg
  base := base
  A := A.deeper (envOfC qual scope s.heap.objs.size f cd)
  N := N
  s_0 := s
  H_0 := H
  env := envOfC qual scope s.heap.objs.size f cd
  outer := outer
  stack := envOfC qual scope s.heap.objs.size f cd :: outer
  ex := []
  calm := true
  fn := fun _ => true
  pn := []
  xe := fun e s' => wpAny (model P w) (A.deeper (envOfC qual scope s.heap.objs.size f cd)) (leaving (envOfC qual scope s.heap.objs.size f cd) e) (fun _ s'' => CX outer H s E e s'') (fun e' s'' => CX outer H s E e' s'') s'
theorem cell_has {sc : Scope} {n : Nat} {x : Str} (h : sc.names.lookup x = some .cell) : ∃ c, (cellsFrom n sc.names []).lookup x = some c := by
  have q := PySem.W.cellsFrom_some sc.names n [] (.inl h)
  exact Option.isSome_iff_exists.mp q
theorem inv_start {CX : CXT} {P : Program} {w : World} {K : PySem.W.Frag} {mg : Str → Option Value} {base : Heap} {N ps : List Str} {qual : Str} {scope : Scope} {f : Addr} {cd : Value} {A : Around} {outer : List Env} {s s1 : Shared} {H : Hp} {E : XK} {us : List Value} {vs : List V}
    (S : FnScope N ps scope) (hd : A.handled = none) (e0 : Env0 P w K mg base A outer s H) (hl : vs.length = ps.length) (r : Vals vs us)
    (x : InCallC s s.heap.objs.size (bindL (envOfC qual scope s.heap.objs.size f cd).kindOf (ps.zip us) fun _ => none) (cellsFrom (s.heap.objs.size + 1) scope.names []) (bindC (envOfC qual scope s.heap.objs.size f cd).kindOf (ps.zip us) fun _ => none) s1) :
    Inv (cxOf CX P w K mg base N qual scope f cd A outer s H E) [] (start N vs) H s1 := by
  have hpl : ps.length ≤ N.length := by have := congrArg List.length S.pre; rw [List.length_take] at this; omega
  obtain ⟨h1, tk, rfl, hk⟩ := x.done
  have noA : ∀ b : Addr, b ∉ (cxOf CX P w K mg base N qual scope f cd A outer s H E).ex := fun b z => absurd (show b ∈ ([] : List Addr) from z) (by simp)
  refine ⟨⟨e0.mod, S.kind, rfl, rfl, Nat.le_refl _, fun y z c h1 h2 => ?_, fun y hy => ?_, fun y c _ h => ?_, fun _ => hd, Around.frames_deeper e0.frames, .inr ⟨rfl, rfl⟩, fun b z => absurd z (noA b), e0.bs, e0.bsz, fun b _ _ => noA b, fun b z => absurd z (noA b), e0.funs, e0.frf⟩,
    rfl, ⟨e0.bare, Nat.le_refl _⟩, Un.kept hk, ⟨_, x.toInCall.ns, fun i y v h1 h2 h3 => ?_⟩, fun y c h => ⟨_, x.cell y c h⟩, e0.hok.fresh (Nat.le_refl _), fun y c h => ?_, fun p hp => absurd (show p ∈ ([] : List (Addr × Obj)) from hp) (by simp), e0.hok.kept hk, ?_⟩
  · exact name_of_addr x.apart (PySem.mem_of_lookup h1) (PySem.mem_of_lookup h2)
  · have hy : scope.names.lookup y = some .cell ∨ scope.names.lookup y = some .free := hy
    rcases hy with hy | hy
    · exact cell_has hy
    · exact absurd rfl (S.nofree _ (PySem.mem_of_lookup hy))
  · exact Nat.le_of_lt (x.above y c (PySem.mem_of_lookup h))
  · have hi : i < vs.length := by
      unfold start at h2
      by_cases hi : i < vs.length
      · exact hi
      · rw [List.getElem?_append_right (by simpa using hi)] at h2
        rw [List.getElem?_replicate] at h2
        split at h2 <;> cases h2
    have ha : vs[i]? = some v := by
      unfold start at h2
      rw [List.getElem?_append_left (by simpa using hi), List.getElem?_map] at h2
      cases e : vs[i]? with
      | none => rw [e] at h2; cases h2
      | some a => rw [e] at h2; cases h2; rfl
    obtain ⟨u, hu, rv⟩ := r.get ha
    have hp : ps[i]? = some y := by
      rw [← S.pre, List.getElem?_take_of_lt (by omega)]; exact h1
    have ndP : ps.Nodup := by rw [← S.pre]; exact S.nd.sublist (List.take_sublist _ _)
    refine ⟨u, rv, ?_⟩
    rcases S.par y (List.mem_of_getElem? hp) with k | k
    · exact .inl ⟨k, bindL_get ndP hp hu k⟩
    · obtain ⟨c, e⟩ := cell_has (n := s.heap.objs.size + 1) k
      refine .inr ⟨.inl k, c, e, ?_⟩
      have q := x.cell y c e
      rw [bindC_get ndP hp hu (by show scope.names.lookup y ≠ _; rw [k]; decide)] at q
      exact q
  · exact e0.hok.fresh (Nat.le_of_lt (x.above y c (PySem.mem_of_lookup h)))
  · unfold start
    show _ = N.length
    rw [List.length_append, List.length_map, List.length_replicate]
    omega
/-- THE RULE: a def (or a method) of the text, by its body. The body's reading t is chosen for each entry; it is run at the parameters' values -/
theorem fn_of {CX : CXT} {P : Program} {w : World} {K : PySem.W.Frag} {mg : Str → Option Value} {base : Heap} {k : Nat} {f : Addr} {name qual : Str} {params : Arguments} {body : List Stmt} {scope : Scope} {dV kV doc pm cdv ct oc : Value} {an od : Option Addr}
    {osl : Array (Option Value)} {N ps : List Str} {sp : Sp} (lk : K.lookup f = some ⟨oc, od, .func (PySem.W.fnOf name qual params body scope dV kV doc pm an cdv ct), osl⟩) (hcd : PySem.W.codeIn K cdv qual = true) (S : FnScope N ps scope)
    (len : ∀ vs H Q E, sp vs H Q E → vs.length = ps.length)
    (hbody : ∀ (A : Around) (outer : List Env) (s : Shared) (H : Hp) (vs : List V) (Q : VK) (E : XK), Room k (A.deeper (envOfC qual scope s.heap.objs.size f cdv)) → sp vs H Q E →
      ∃ t, PSs (cxOf CX P w K mg base N qual scope f cdv A outer s H E) body t ∧ t { nx := fun _ H' => Q .non H', rt := Q } (start N vs) H) :
    FnOk P w K mg base CX (k + 1) f (PySem.W.fnOf name qual params body scope dV kV doc pm an cdv ct) ps sp := by
  refine ⟨len, fun A outer s H args us vs Q E hr e0 hb r hsp => ?_⟩
  have hl := len _ _ _ _ hsp
  have KX : K.In s.heap := e0.mod.kin.keeps fun b o e => (e0.bs b o e).1
  have lim : s.heap.NoLimit := e0.mod.nolimit.keeps fun b o e => (e0.bs b o e).1
  have hkind : ∀ y ∈ ps.zip us, scope.names.lookup y.1 = some .local ∨ (scope.names.lookup y.1 = some .cell ∧ ((cellsFrom (s.heap.objs.size + 1) scope.names []).lookup y.1).isSome = true) := fun ⟨n, v⟩ hy => by
    rcases S.par n (List.of_mem_zip hy).1 with q | q
    · exact .inl q
    · exact .inr ⟨q, PySem.W.cellsFrom_some _ _ _ (.inl q)⟩
  refine codeAny_call_function hr.depth (KX _ _ lk) rfl S.co S.gen rfl (PySem.W.codeRec_of KX hcd) (hb _ _ _ _ ?_)
  refine wpAny_newFunctionEnv_cells S.kind hkind fun env he s1 x => ?_
  subst he
  refine ⟨lim.keeps x.toInCall.keep, codeAny_func ?_⟩
  obtain ⟨t, ht, hq⟩ := hbody A outer s H vs Q E (hr.deeper _) hsp
  have I : Inv (cxOf CX P w K mg base N qual scope f cdv A outer s H E) [] (start N vs) H s1 := inv_start S hr.hd e0 hl r x
  refine wpAny_mono (ht s1 (start N vs) H _ I hq) (fun fl s' hs => ?_) fun e s' hs => hs
  have fin : ∀ {σ' : St} {H' : Hp} {v : V} {u : Value}, Inv (cxOf CX P w K mg base N qual scope f cdv A outer s H E) [] σ' H' s' → RelV v u → Q v H' → CE outer P w H s Q u s' :=
    fun {σ' H' v u} J rv q => ⟨v, H', J.os, J.bare, J.base, J.hok, rv, q⟩
  cases fl with
  | ret u =>
    obtain ⟨v, σ', H', J, rv, q⟩ := hs
    exact fin J rv q
  | next =>
    obtain ⟨σ', H', J, q⟩ := hs
    exact fin (v := V.non) (u := Value.none) J rfl q
  | brk =>
    obtain ⟨_, _, _, q⟩ := hs
    exact False.elim q
  | cont =>
    obtain ⟨_, _, _, q⟩ := hs
    exact False.elim q
end L2
namespace L2
open PySem PySem.Spec PyProof.Rows
section
variable {X : Cx} {x : Str} {p pos : Pos} {e : Expr} {es : List Expr} {t : TA} {id T : String} {r : List V → Hp → VK → Prop}
def tCB (r : List V → Hp → VK → Prop) (t : TA) : TE := fun σ H Q => t σ H fun vs H1 => r vs H1 Q
/-- f(e, ..), f a built-in function -/
theorem pe_callB (hc : CallR X (.builtin id) r) (hg : Gl X x) (hm : X.mg x = none) (hv : bootBuiltins x = some (.builtin id)) (ha : PA X (e :: es) t) (hn : x ≠ "__name__" := by decide) (hdb : (x == ("__debug__" : Str)) = false := by decide)
    (he : starEach (e :: es) X.env = (false, eval e X.env) :: starEach es X.env := by exact star_of rfl) (hpl : (backTo pos (starEach es X.env)).any (·.1) = false := by exact plain_of rfl) : PE X (.Call (.Name x p) (e :: es) [] pos) (tCB r t) := by
  intro pins s σ H Q I h
  refine wpAny_Call_Name_kw (ld_blt I hg hm hv ?_ hn hdb)
  exact PyProof.Rows.callWith_builtin1 (thn (ha pos s σ H _ I h) fun us s1 ⟨vs, H1, I1, r1, q1⟩ => hc s1 σ H1 vs us Q I1 r1 q1) he hpl
/-- T(e, ..), T a built-in type -/
theorem pe_callTy (hc : CallR X (.type T) r) (hg : Gl X x) (hm : X.mg x = none) (hv : bootBuiltins x = some (.type T)) (ha : PA X (e :: es) t) (hn : x ≠ "__name__" := by decide) (hdb : (x == ("__debug__" : Str)) = false := by decide)
    (he : starEach (e :: es) X.env = (false, eval e X.env) :: starEach es X.env := by exact star_of rfl) (hpl : (backTo pos (starEach es X.env)).any (·.1) = false := by exact plain_of rfl) : PE X (.Call (.Name x p) (e :: es) [] pos) (tCB r t) := by
  intro pins s σ H Q I h
  refine wpAny_Call_Name_kw (ld_blt I hg hm hv ?_ hn hdb)
  exact PyProof.Rows.callWith_type1 (thn (ha pos s σ H _ I h) fun us s1 ⟨vs, H1, I1, r1, q1⟩ => hc s1 σ H1 vs us Q I1 r1 q1) he hpl
/-- T() -/
theorem pe_callTy0 (hc : CallR X (.type T) r) (hg : Gl X x) (hm : X.mg x = none) (hv : bootBuiltins x = some (.type T)) (hn : x ≠ "__name__" := by decide) (hdb : (x == ("__debug__" : Str)) = false := by decide) :
    PE X (.Call (.Name x p) [] [] pos) (tCB r tNil) := by
  intro pins s σ H Q I h
  refine wpAny_Call_Name_kw (ld_blt I hg hm hv ?_ hn hdb)
  exact PyProof.Rows.callWith_type0 (hc s σ H [] [] Q I .nil h)
end
end L2
namespace HT
open PySem PyProof.Rows
section
open PySem.SeqAt
open PySem.AutoSeq1 (wpAny_loadPart')
open PySem.MeetsSeq PySem.MeetsSeq2 PySem.MeetsSeq3
end
section
variable {prog : Program} {w : World} {A : Around} {E : Value → Shared → Prop} {s : Shared}
/-- t + u, t not empty -/
theorem cat_tup {t b : Addr} {vs ws : List Value} {Q : Value → Shared → Prop} (ht : IsTup s.heap t vs.toArray) (hb : IsTup s.heap b ws.toArray) (hv : vs ≠ [])
    (h1 : ws = [] → Q (.ref t) s) (h2 : ws ≠ [] → Q (.ref s.heap.objs.size) { s with heap := s.heap.push { cls := .type "tuple", data := .seq (vs ++ ws).toArray } })
    (hsz : vs.length + ws.length ≤ sizeLine) : wpAny (model prog w) A (binaryOp .Add (.ref t) (.ref b)) Q E s := by
  obtain ⟨⟨cls, dd, data, sl⟩, ho, hc, n, hd⟩ := id ht
  obtain ⟨⟨cls2, dd2, data2, sl2⟩, ho2, hc2, n2, hd2⟩ := id hb
  simp only at hc hd hc2 hd2
  subst hc hd hc2 hd2
  have e : vs.toArray ++ ws.toArray = (vs ++ ws).toArray := by simp
  by_cases hw : ws = []
  · exact concat_meets ⟨_, ho, rfl⟩ ⟨_, ho2, rfl⟩ noFill_tuple_add seq_tuple_add PySem.F.slot_tuple_add PySem.F.entry_tuple_add (PySem.F.args_tuple_add_2 _ _)
      (tuple_addW1 t b vs.toArray ws.toArray n n2 dd dd2 sl sl2 (by simpa using hv) (by simp [hw])) ⟨ho, ho2, h1 hw⟩
  · refine concat_meets ⟨_, ho, rfl⟩ ⟨_, ho2, rfl⟩ noFill_tuple_add seq_tuple_add PySem.F.slot_tuple_add PySem.F.entry_tuple_add (PySem.F.args_tuple_add_2 _ _)
      (tuple_addW2 t b vs.toArray ws.toArray n n2 dd dd2 sl sl2 (by simpa using hv) (by simpa using hw) (by rw [List.size_toArray, List.size_toArray]; exact hsz)) ⟨ho, ho2, ?_⟩
    rw [e]
    exact h2 hw
/-- a slice's bound as a place among n (d where it is left out) -/
def sIx (n d : Nat) : Option Int → Nat
  | none => d
  | some v => if v < 0 then (v + (n : Int)).toNat else min v.toNat n
theorem sIx_none (n d : Nat) : sIx n d none = d := rfl
theorem sIx_nat (n d k : Nat) : sIx n d (some (k : Int)) = min k n := by
  show (if (k : Int) < 0 then ((k : Int) + (n : Int)).toNat else min (k : Int).toNat n) = min k n
  rw [if_neg (by omega), Int.toNat_natCast]
theorem sIx_le (n d : Nat) (hd : d ≤ n) (o : Option Int) : sIx n d o ≤ n := by
  cases o with
  | none => exact hd
  | some v =>
    show (if v < 0 then (v + (n : Int)).toNat else min v.toNat n) ≤ n
    by_cases hv : v < 0
    · rw [if_pos hv]; omega
    · rw [if_neg hv]; exact Nat.min_le_right _ _
theorem clip_eq (v : Int) (n d : Nat) : (if v < 0 then max (v + (n : Int)) 0 else min v (n : Int)) = ((sIx n d (some v) : Nat) : Int) := by
  show (if v < 0 then max (v + (n : Int)) 0 else min v (n : Int)) = (((if v < 0 then (v + (n : Int)).toNat else min v.toNat n) : Nat) : Int)
  by_cases hv : v < 0
  · simp only [if_pos hv]; omega
  · simp only [if_neg hv]; omega
theorem adjust_gen (lo hi : Option Int) (n : Nat) : Builtin.Slice.sliceAdjust lo hi 1 (n : Int) = (((sIx n 0 lo : Nat) : Int), ((sIx n n hi : Nat) : Int)) := by
  have h1 : ¬ ((1 : Int) < 0) := by omega
  unfold Builtin.Slice.sliceAdjust
  simp only [h1, if_false]
  refine Prod.ext ?_ ?_
  · cases lo with
    | none => rfl
    | some v => exact clip_eq v n 0
  · cases hi with
    | none => rfl
    | some v => exact clip_eq v n n
theorem places_gen (i j : Nat) : Builtin.Slice.slicePlaces (i : Int) (j : Int) 1 = j - i := by
  unfold Builtin.Slice.slicePlaces
  have h1 : (1 : Int) > 0 := by omega
  simp only [h1, if_true, Int.ediv_one]
  split <;> omega
theorem slicePart_ {v : Value} {o : Option Int} {Q : Option Int → Shared → Prop} (p : IsPart v o) (h : Q o s) : wpAny (model prog w) A (Builtin.Slice.slicePartIndex v) Q E s := by
  cases p with
  | none => exact slicePart_none h
  | int i t => exact slicePart_int h
theorem sliceApplied_gen {sl : Addr} {vl vu : Value} {lo hi : Option Int} {n : Nat} {Q : Int × Int × Nat → Shared → Prop} (hs : s.heap.IsSliceOf sl vl vu .none) (pl : IsPart vl lo) (pu : IsPart vu hi)
    (h : Q (((sIx n 0 lo : Nat) : Int), 1, sIx n n hi - sIx n 0 lo) s) : wpAny (model prog w) A (Builtin.Slice.sliceApplied (.ref sl) (pure (n : Int))) Q E s := by
  obtain ⟨os, hos, hcs, hds⟩ := id hs
  unfold Builtin.Slice.sliceApplied Builtin.Slice.sliceFields
  refine wpAny_bind (wpAny_bind (wpAny_field hos hds (x := vl) rfl (wpAny_bind (wpAny_field hos hds (x := vu) rfl (wpAny_bind (wpAny_field hos hds (x := .none) rfl (wpAny_pure ?_)))))))
  refine wpAny_bind (slicePart_none ?_)
  show wpAny _ _ (if ((1 : Int) == 0) = true then _ else _) _ _ s
  rw [if_neg (by decide)]
  refine wpAny_bind (slicePart_ pl (wpAny_bind (slicePart_ pu (wpAny_bind (wpAny_pure ?_)))))
  show wpAny _ _ (match Builtin.Slice.sliceAdjust lo hi 1 (n : Int) with | (lo, hi) => pure (lo, (1 : Int), Builtin.Slice.slicePlaces lo hi 1)) _ _ s
  rw [adjust_gen lo hi n]
  show wpAny _ _ (pure (((sIx n 0 lo : Nat) : Int), (1 : Int), Builtin.Slice.slicePlaces ((sIx n 0 lo : Nat) : Int) ((sIx n n hi : Nat) : Int) 1)) _ _ s
  rw [places_gen]
  exact wpAny_pure h
theorem pick_gen (xs : Array Value) (i k : Nat) : ((List.range k).filterMap fun (m : Nat) => xs[((i : Int) + (m : Int) * 1).toNat]?).toArray = ((xs.toList.drop i).take k).toArray := by
  have e : (fun (m : Nat) => xs[((i : Int) + (m : Int) * 1).toNat]?) = fun m => xs[i + m]? := by
    funext m
    have : ((i : Int) + (m : Int) * 1).toNat = i + m := by omega
    rw [this]
  rw [e]
  have := pick_run xs i k
  rw [List.filterMap_map] at this
  have e2 : ((fun x => xs[x]?) ∘ fun x => i + x) = fun m => xs[i + m]? := rfl
  rw [e2] at this
  rw [this]
theorem getItem_tuple_cut {t sl : Addr} {items : Array Value} {vl vu : Value} {lo hi : Option Int} {Q : Value → Shared → Prop} (ht : IsTup s.heap t items) (hs : s.heap.IsSliceOf sl vl vu .none) (pl : IsPart vl lo) (pu : IsPart vu hi)
    (hw : ¬ (sIx items.size 0 lo = 0 ∧ sIx items.size items.size hi = items.size))
    (h : Q (.ref s.heap.objs.size) { s with heap := s.heap.push { cls := .type "tuple", data := .seq ((items.toList.drop (sIx items.size 0 lo)).take (sIx items.size items.size hi - sIx items.size 0 lo)).toArray } })
    (hsz : items.size ≤ sizeLine) : wpAny (model prog w) A (getItem (.ref t) (.ref sl)) Q E s := by
  have htake : sizeOk (.seq ((items.toList.drop (sIx items.size 0 lo)).take (sIx items.size items.size hi - sIx items.size 0 lo)).toArray) := by
    show ((items.toList.drop (sIx items.size 0 lo)).take (sIx items.size items.size hi - sIx items.size 0 lo)).toArray.size ≤ sizeLine
    rw [List.size_toArray, List.length_take, List.length_drop, Array.length_toList]
    omega
  have hj : sIx items.size items.size hi ≤ items.size := sIx_le _ _ (Nat.le_refl _) hi
  obtain ⟨os, hos, hcs, hds⟩ := id hs
  have hTs : s.TypeIs (.ref sl) "slice" := ⟨os, hos, hcs⟩
  unfold getItem
  try with_reducible refine wpAny_holding ?_
  first | refine wpAny_bind (wpAny_pure ?_) | skip
  refine wpAny_bind (wpAny_sequenceKey ht.typeIs (by decide) ?_)
  refine wpAny_bind (wpAny_callSpecial?_slot (name := Str.ofString "__getitem__") ht.typeIs PyProof.Rows.slot_tuple_getitem
    (wpAny_call_entry PyProof.Rows.slot_tuple_getitem ht.typeIs entry_tuple_getitem ?_ (args_tuple_getitem _ _)))
  show wpAny _ _ (Builtin.Tuple.tupleItemsOf (.ref t) >>= _) _ _ s
  refine wpAny_bind (tupleItemsOf_ ht ?_)
  refine wpAny_bind (wpAny_typeOf hTs ?_)
  rw [if_pos (by decide)]
  refine wpAny_bind (sliceApplied_gen hs pl pu ?_)
  have hno : ¬ ((((sIx items.size 0 lo : Nat) : Int) == 0 && (1 : Int) == 1 && (sIx items.size items.size hi - sIx items.size 0 lo) == items.size) = true) := by
    intro q
    rw [Bool.and_eq_true, Bool.and_eq_true] at q
    have q1 : ((sIx items.size 0 lo : Nat) : Int) = 0 := eq_of_beq q.1.1
    have q2 : sIx items.size items.size hi - sIx items.size 0 lo = items.size := eq_of_beq q.2
    exact hw ⟨by omega, by omega⟩
  show wpAny _ _ (if (((sIx items.size 0 lo : Nat) : Int) == 0 && (1 : Int) == 1 && (sIx items.size items.size hi - sIx items.size 0 lo) == items.size) = true then _ else _) _ _ s
  rw [if_neg hno, pick_gen]
  first
    | exact wpAny_bind (m := Builtin.Tuple.tupleExact _) (wpAny_newObj_type (wpAny_pure ⟨_, rfl, wpAny_pure h⟩) htake)
    | exact wpAny_bind (m := Builtin.Tuple.tupleExact _) (wpAny_newObj_type (wpAny_bind (wpAny_pure (wpAny_pure ⟨_, rfl, wpAny_pure h⟩))) htake)
    | exact wpAny_bind (wpAny_bind (m := Builtin.Tuple.tupleExact _) (wpAny_newObj_type (wpAny_pure (wpAny_pure ⟨_, rfl, wpAny_pure h⟩)) htake))
    | exact wpAny_bind (wpAny_bind (m := Builtin.Tuple.tupleExact _) (wpAny_newObj_type (wpAny_pure ⟨_, rfl, wpAny_pure h⟩) htake))
end
end HT
namespace L2
open PySem PySem.Spec PyProof.Rows
abbrev TO := St → Hp → (Option Int → Hp → Prop) → Prop
/-- a slice's part (left out, or an int) -/
def PO (X : Cx) (e : Option Expr) (t : TO) : Prop :=
  ∀ ⦃pins : List (Addr × Obj)⦄ (s : Shared) (σ : St) (H : Hp) (Q : Option Int → Hp → Prop), Inv X pins σ H s → t σ H Q →
    wpAny (model X.prog X.w) X.A (evalPart e X.env) (fun u s' => ∃ o H', Inv X pins σ H' s' ∧ IsPart u o ∧ Q o H') X.xe s
def tNoPart : TO := fun _ H Q => Q none H
def tPart (t : TE) : TO := fun σ H Q => t σ H fun x H1 => ∃ i, x = .int i ∧ Q (some i) H1
section
variable {X : Cx} {e : Expr} {te : TE} {lo hi : Option Expr} {tl th : TO} {pos p2 : Pos}
theorem po_none : PO X none tNoPart := by
  intro pins s σ H Q I h
  rw [evalPart_none]
  exact wpAny_pure ⟨none, H, I, .none, h⟩
theorem po_some (h : PE X e te) : PO X (some e) (tPart te) := by
  intro pins s σ H Q I hw
  rw [evalPart_some]
  refine thn (h s σ H _ I hw) fun u s1 ⟨x, H1, I1, r1, q1⟩ => ?_
  obtain ⟨i, rfl, q⟩ := q1
  obtain ⟨t, rfl⟩ := r1
  exact ⟨some i, H1, I1, .int i t, q⟩
/-- what a slice of a value is, by values: the slice object stands at sl -/
def SlR (X : Cx) (r : V → Option Int → Option Int → Hp → VK → Prop) : Prop :=
  ∀ ⦃pins : List (Addr × Obj)⦄ (s : Shared) (σ : St) (H : Hp) (x : V) (v vl vu : Value) (lo hi : Option Int) (sl : Addr) (Q : VK), Inv X pins σ H s → RelV x v → s.heap.IsSliceOf sl vl vu .none → IsPart vl lo → IsPart vu hi → r x lo hi H Q →
    ∃ T id, typeLookup (.type T) "__getitem__" = pure (some (.builtin id)) ∧ s.TypeIs v T ∧ wpAny (model X.prog X.w) X.A (getItem v (.ref sl)) (EP X pins σ Q) X.xe s
theorem SlR.or {r r' : V → Option Int → Option Int → Hp → VK → Prop} (h : SlR X r) (h' : SlR X r') : SlR X (fun x lo hi H Q => r x lo hi H Q ∨ r' x lo hi H Q) := by
  intro pins s σ H x v vl vu lo hi sl Q I rx hs pl pu q
  rcases q with q | q
  · exact h s σ H x v vl vu lo hi sl Q I rx hs pl pu q
  · exact h' s σ H x v vl vu lo hi sl Q I rx hs pl pu q
def tSl (r : V → Option Int → Option Int → Hp → VK → Prop) (te : TE) (tl th : TO) : TE := fun σ H Q => te σ H fun x H1 => tl σ H1 fun l H2 => th σ H2 fun u H3 => r x l u H3 Q
/-- a[lo:hi], any a -/
theorem pe_slice {r : V → Option Int → Option Int → Hp → VK → Prop} (hr : SlR X r) (he : PE X e te) (hl : PO X lo tl) (hu : PO X hi th) : PE X (.Subscript e (.Slice lo hi none p2) pos) (tSl r te tl th) := by
  intro pins s σ H Q I h
  refine Subscript_ (thn (he s σ H _ I h) fun v s1 ⟨x, H1, I1, r1, q1⟩ => ?_)
  refine wpAny_Slice (thn (hl s1 σ H1 _ I1 q1) fun vl s2 ⟨l, H2, I2, pl, q2⟩ => thn (hu s2 σ H2 _ I2 q2) fun vu s3 ⟨u, H3, I3, pu, q3⟩ => ?_)
  rw [evalPart_none]
  refine wpAny_pure ?_
  have I4 : Inv X pins σ H3 { s3 with heap := s3.heap.push { cls := .type "slice", data := .fields #[vl, vu, .none] } } := I3.kept (t' := s3.toks) fun b ob q => Heap.get?_push_of_some _ q
  obtain ⟨T, id, hT, ht, hg⟩ := hr { s3 with heap := s3.heap.push { cls := .type "slice", data := .fields #[vl, vu, .none] } } σ H3 x v vl vu l u s3.heap.objs.size Q I4 r1 (Heap.IsSliceOf.new ..) pl pu q3
  show wpAny (model X.prog X.w) X.A (subscriptTail e (.Slice lo hi none p2) v (.ref s3.heap.objs.size)) (EP X pins σ Q) X.xe { s3 with heap := s3.heap.push { cls := .type "slice", data := .fields #[vl, vu, .none] } }
  exact tail_any (ops := [.ref s3.heap.objs.size, v]) ht hT hg (by with_unfolding_all rfl)
/-- the items of xs[lo:hi] -/
def cutV (xs : List V) (lo hi : Option Int) : List V := (xs.drop (HT.sIx xs.length 0 lo)).take (HT.sIx xs.length xs.length hi - HT.sIx xs.length 0 lo)
theorem cutV_length (xs : List V) (lo hi : Option Int) : (cutV xs lo hi).length ≤ xs.length := by
  unfold cutV
  rw [List.length_take, List.length_drop]
  omega
/-- t[lo:hi], not the whole of it (the whole would be t itself) -/
def rSlT (K : PySem.W.Frag) : V → Option Int → Option Int → Hp → VK → Prop := fun x lo hi H Q => ∃ a xs, x = .ref a ∧ SqT K H a xs ∧
  ¬ (HT.sIx xs.length 0 lo = 0 ∧ HT.sIx xs.length xs.length hi = xs.length) ∧ ∀ p, H p = none → Q (.ref p) (upd H p (.tup (cutV xs lo hi)))
theorem sl_tup : SlR X (rSlT X.K) := by
  intro pins s σ H x v vl vu lo hi sl Q I rx hs pl pu h
  obtain ⟨a, xs, rfl, hx, hw, q⟩ := h
  cases rx
  obtain ⟨its, r, ht, hz⟩ := I.tuple hx
  have hlen : its.toArray.size = xs.length := by rw [List.size_toArray]; exact r.length.symm
  refine ⟨"tuple", _, PyProof.Rows.slot_tuple_getitem.lookup, ht.typeIs, ?_⟩
  refine HT.getItem_tuple_cut ht hs pl pu (by rw [hlen]; exact hw) ?_ (by rw [hlen]; exact hz)
  rw [hlen]
  refine ⟨.ref s.heap.objs.size, _, I.laid (t' := s.toks) (o := .tup (cutV xs lo hi)) (fun b ob q => Heap.get?_push_of_some _ q) (Nat.le_refl _) ?_, rfl, q _ (I.hok.fresh (Nat.le_refl _))⟩
  exact ⟨Nat.le_trans (cutV_length xs lo hi) hz, _, (r.drop (HT.sIx xs.length 0 lo)).take (HT.sIx xs.length xs.length hi - HT.sIx xs.length 0 lo), IsTupN.new _ _⟩
/-- t + u, t not empty: u empty gives t itself -/
def rCatT (K : PySem.W.Frag) : R2 := fun x y H Q => ∃ a b xs ys, x = .ref a ∧ y = .ref b ∧ SqT K H a xs ∧ SqT K H b ys ∧ xs ≠ [] ∧ xs.length + ys.length ≤ sizeLine ∧
  (ys = [] → Q (.ref a) H) ∧ (ys ≠ [] → ∀ p, H p = none → Q (.ref p) (upd H p (.tup (xs ++ ys))))
theorem Vals.nil_iff {xs : List V} {us : List Value} (r : Vals xs us) : us = [] ↔ xs = [] := by
  cases r with
  | nil => simp
  | cons _ _ => simp
theorem op_catT : OpR X (binaryOp .Add) (rCatT X.K) := by
  intro pins s σ H x y v u Q I rx ry h
  obtain ⟨a, b, xs, ys, rfl, rfl, ha, hb, hx, hz, q1, q2⟩ := h
  cases rx
  cases ry
  obtain ⟨its, r1, p1, _⟩ := I.tuple ha
  obtain ⟨its2, r2, p2, _⟩ := I.tuple hb
  refine HT.cat_tup p1 p2 (fun z => hx (r1.nil_iff.mp z)) (fun z => ⟨.ref a, H, I, rfl, q1 (r2.nil_iff.mp z)⟩) (fun z => ?_) (by rw [← r1.length, ← r2.length]; exact hz)
  refine ⟨.ref s.heap.objs.size, _, I.laid (t' := s.toks) (o := .tup (xs ++ ys)) (fun b ob q => Heap.get?_push_of_some _ q) (Nat.le_refl _) ?_, rfl, q2 (fun w => z (r2.nil_iff.mpr w)) _ (I.hok.fresh (Nat.le_refl _))⟩
  exact ⟨by rw [List.length_append]; exact hz, _, r1.append r2, IsTupN.new _ _⟩
end
end L2
namespace L2
open PySem PySem.Spec PyProof.Rows
/-- the place that an index of any sign means -/
def ixN (n : Nat) (i : Int) : Option Nat := if 0 ≤ i then (if i < n then some i.toNat else none) else if -(n : Int) ≤ i then some (i + n).toNat else none
def atI {α : Type} (xs : List α) (i : Int) : Option α := (ixN xs.length i).bind fun j => xs[j]?
theorem ixN_seq {n : Nat} {i : Int} {j : Nat} (h : ixN n i = some j) : seqIndex? i n = some j ∧ j < n ∧ -(n : Int) ≤ i ∧ i < n := by
  unfold ixN at h
  by_cases h0 : 0 ≤ i
  · rw [if_pos h0] at h
    by_cases h1 : i < n
    · rw [if_pos h1] at h
      have e : i.toNat = j := Option.some.inj h
      exact ⟨by rw [seqIndex_of h0 h1, e], by omega, by omega, h1⟩
    · rw [if_neg h1] at h; cases h
  · rw [if_neg h0] at h
    by_cases h1 : -(n : Int) ≤ i
    · rw [if_pos h1] at h
      have e : (i + n).toNat = j := Option.some.inj h
      exact ⟨by rw [seqIndex_neg (by omega) h1, e], by omega, h1, by omega⟩
    · rw [if_neg h1] at h; cases h
theorem atI_get {α : Type} {xs : List α} {i : Int} {v : α} (h : atI xs i = some v) : ∃ j, seqIndex? i xs.length = some j ∧ xs[j]? = some v ∧ j < xs.length ∧ -(xs.length : Int) ≤ i ∧ i < xs.length := by
  unfold atI at h
  cases e : ixN xs.length i with
  | none => rw [e] at h; cases h
  | some j =>
    rw [e] at h
    obtain ⟨h1, h2, h3, h4⟩ := ixN_seq e
    exact ⟨j, h1, h, h2, h3, h4⟩
theorem atI_nat {α : Type} {xs : List α} {j : Nat} {v : α} (h : xs[j]? = some v) : atI xs (j : Int) = some v := by
  have hj : j < xs.length := (List.getElem?_eq_some_iff.mp h).1
  have e : ixN xs.length (j : Int) = some j := by
    unfold ixN
    rw [if_pos (by omega), if_pos (by omega)]; simp
  unfold atI; rw [e]; exact h
theorem atI_last {α : Type} (xs : List α) (v : α) : atI (xs ++ [v]) (-1) = some v := by
  have hl : (xs ++ [v]).length = xs.length + 1 := by simp
  have e : ixN (xs ++ [v]).length (-1) = some xs.length := by
    unfold ixN
    rw [hl, if_neg (by decide), if_pos (by omega)]
    congr 1
    omega
  unfold atI
  rw [e]
  show (xs ++ [v])[xs.length]? = some v
  simp
/-- what stands as an index of a plain subscript -/
def PlainIx (b : Expr) : Prop := ∀ o i, subscripted b false o i = operate [o, i] (getItem o i)
/-- a subscript by values -/
def IxR (X : Cx) (r : R2) : Prop :=
  ∀ (value slice : Expr) ⦃pins : List (Addr × Obj)⦄ (s : Shared) (σ : St) (H : Hp) (x y : V) (v u : Value) (Q : VK), Inv X pins σ H s → RelV x v → RelV y u → r x y H Q →
    subscripted slice false v u = operate [v, u] (getItem v u) → wpAny (model X.prog X.w) X.A (subscriptTail value slice v u) (EP X pins σ Q) X.xe s
/-- a call of a builtin's method by values: the receiver, the arguments -/
def MtR (X : Cx) (id : String) (r : V → List V → Hp → VK → Prop) : Prop :=
  ∀ ⦃pins : List (Addr × Obj)⦄ (s : Shared) (σ : St) (H : Hp) (x : V) (xs : List V) (v : Value) (us : List Value) (Q : VK), Inv X pins σ H s → RelV x v → Vals xs us → r x xs H Q →
    wpAny (model X.prog X.w) X.A (call (.builtin id) (v :: us)) (EP X pins σ Q) X.xe s
section
variable {X : Cx} {a b : Expr} {ta tb : TE} {pos : Pos}
theorem IxR.or {r r' : R2} (h : IxR X r) (h' : IxR X r') : IxR X (fun x y H Q => r x y H Q ∨ r' x y H Q) := by
  intro value slice pins s σ H x y v u Q I rx ry q hs
  rcases q with q | q
  · exact h value slice s σ H x y v u Q I rx ry q hs
  · exact h' value slice s σ H x y v u Q I rx ry q hs
theorem MtR.or {id : String} {r r' : V → List V → Hp → VK → Prop} (h : MtR X id r) (h' : MtR X id r') : MtR X id (fun x xs H Q => r x xs H Q ∨ r' x xs H Q) := by
  intro pins s σ H x xs v us Q I rx rs q
  rcases q with q | q
  · exact h s σ H x xs v us Q I rx rs q
  · exact h' s σ H x xs v us Q I rx rs q
/-- a[b] -/
theorem pe_ix {r : R2} (hr : IxR X r) (ha : PE X a ta) (hb : PE X b tb) (hs : PlainIx b) : PE X (.Subscript a b pos) (tOp r ta tb) := by
  intro pins s σ H Q I h
  exact Subscript_ (binT ha hb I h fun v u s2 x y H2 I2 rx ry q => hr a b s2 σ H2 x y v u Q I2 rx ry q (hs _ _))
def rIxL (K : PySem.W.Frag) : R2 := fun x y H Q => ∃ p xs i v, x = .ref p ∧ y = .int i ∧ SqL K H p xs ∧ atI xs i = some v ∧ Q v H
def rIxT (K : PySem.W.Frag) : R2 := fun x y H Q => ∃ p xs i v, x = .ref p ∧ y = .int i ∧ SqT K H p xs ∧ atI xs i = some v ∧ Q v H
def rIxS : R2 := fun x y H Q => ∃ z i c, x = .str z ∧ y = .int i ∧ z.length ≤ sizeLine ∧ atI z.cps.toList i = some c ∧ Q (.str ⟨#[c]⟩) H
theorem ix_list : IxR X (rIxL X.K) := by
  intro value slice pins s σ H x y v u Q I rx ry h hs
  obtain ⟨p, xs, i, z, rfl, rfl, hq, he, q⟩ := h
  cases rx
  obtain ⟨t, rfl⟩ := ry
  obtain ⟨its, r, pl, hz⟩ := I.list hq
  obtain ⟨j, h1, h2, h3, h4, h5⟩ := atI_get he
  obtain ⟨w, ew, rw'⟩ := r.get h2
  have hl := r.length
  have hn := line63
  have fin : EP X pins σ Q w s := ⟨z, H, I, rw', q⟩
  by_cases h0 : 0 ≤ i
  · have hj : i.toNat = j := by
      rw [seqIndex_of h0 h5] at h1
      exact Option.some.inj h1
    exact item_listR pl.isList h0 (by omega) (by rw [hj]; simpa using ew) fin hs
  · have hj : (i + (its.toArray.size : Int)).toNat = j := by
      rw [seqIndex_neg (by omega) h4] at h1
      rw [List.size_toArray, ← hl]
      exact Option.some.inj h1
    exact subscriptTail_builtinR (x := w) pl.isList.typeIs slot_list_getitem.lookup
      (wpAny_getItem_list_neg (Q := fun r s' => r = w ∧ EP X pins σ Q r s') pl.isList (by omega) (by rw [List.size_toArray] <;> omega) (by omega) (by rw [hj]; simpa using ew) ⟨rfl, fin⟩) hs
theorem ix_tup : IxR X (rIxT X.K) := by
  intro value slice pins s σ H x y v u Q I rx ry h hs
  obtain ⟨p, xs, i, z, rfl, rfl, hq, he, q⟩ := h
  cases rx
  obtain ⟨t, rfl⟩ := ry
  obtain ⟨its, r, pl, hz⟩ := I.tuple hq
  obtain ⟨j, h1, h2, h3, h4, h5⟩ := atI_get he
  obtain ⟨w, ew, rw'⟩ := r.get h2
  have hl := r.length
  have hn := line63
  have fin : EP X pins σ Q w s := ⟨z, H, I, rw', q⟩
  exact subscriptTail_builtinR (x := w) pl.typeIs slot_tuple_getitem.lookup
    (getItem_tuple (j := j) (Q := fun r s' => r = w ∧ EP X pins σ Q r s') pl (by omega) (by omega) (by rw [List.size_toArray, ← hl]; exact h1) (by simpa using ew) ⟨rfl, fin⟩) hs
theorem ix_str : IxR X rIxS := by
  intro value slice pins s σ H x y v u Q I rx ry h hs
  obtain ⟨z, i, c, rfl, rfl, hz, he, q⟩ := h
  obtain ⟨t, rfl⟩ := rx
  obtain ⟨t', rfl⟩ := ry
  obtain ⟨j, h1, h2, h3, h4, h5⟩ := atI_get he
  have hl : z.cps.toList.length = z.length := by simp [Str.length]
  rw [hl] at h1 h4 h5
  have hn := line63
  exact tail_any (typeIs_str s z t) slot_str_getitem.lookup (getItem_str (c := c) (by
    have e1 : decide (i < -(2 ^ 63 : Int)) = false := decide_eq_false (by omega)
    have e2 : decide (i ≥ 2 ^ 63) = false := decide_eq_false (by omega)
    rw [e1, e2, Bool.or_false]) (by rw [h1]; simpa using h2) ⟨.str ⟨#[c]⟩, H, I.tok _, ⟨_, rfl⟩, q⟩) hs
/-- the list's object behind a store -/
theorem mapSeq_set (its : List Value) (n j : Nat) (u : Value) : Obj.mapSeq (·.setIfInBounds j u) { cls := .type "list", data := .seq its.toArray n } = { cls := .type "list", data := .seq (its.set j u).toArray n } := by
  simp [Obj.mapSeq]
theorem Inv.lst {pins : List (Addr × Obj)} {σ : St} {H : Hp} {s : Shared} {p : Addr} {xs : List V} (I : Inv X pins σ H s) (h : H p = some (.lst xs)) :
    ∃ (its : List Value) (n : Nat), Vals xs its ∧ s.heap.get? p = some { cls := .type "list", data := .seq its.toArray n } ∧ xs.length ≤ sizeLine := by
  obtain ⟨z, its, n, r, e⟩ := I.hok p _ h
  exact ⟨its, n, r, e, z⟩
/-- the list at p is written by an update of its object -/
theorem Inv.lstUpd {pins : List (Addr × Obj)} {σ : St} {H : Hp} {s : Shared} {p : Addr} {xs ys : List V} {its its' : List Value} {n n' : Nat} {f : Obj → Obj} (I : Inv X pins σ H s) (h : H p = some (.lst xs))
    (ho : s.heap.get? p = some { cls := .type "list", data := .seq its.toArray n }) (hf : f { cls := .type "list", data := .seq its.toArray n } = { cls := .type "list", data := .seq its'.toArray n' }) (r : Vals ys its') (hz : ys.length ≤ sizeLine) (t : Nat) :
    Inv X pins σ (upd H p (.lst ys)) { s with heap := s.heap.update p f, toks := t } := by
  have e : (s.heap.update p f).get? p = some { cls := .type "list", data := .seq its'.toArray n' } := by
    rw [Heap.get?_update_self f ho (by rw [hf] <;> rfl), hf]
  refine I.write (x := p) (e := p) (by rw [h]; trivial) (.inl rfl) (fun b u hb q => (Heap.get?_update_other _ _ (Ne.symm hb)).trans q) ⟨_, e⟩ ?_
  exact ⟨hz, its', n', r, e⟩
def rSetL : V → V → V → Hp → (Hp → Prop) → Prop := fun o i v H Q => ∃ p xs k j, o = .ref p ∧ i = .int k ∧ H p = some (.lst xs) ∧ ixN xs.length k = some j ∧ Q (upd H p (.lst (xs.set j v)))
theorem set_list : PSet X rSetL := by
  intro pins s σ H o i v ov iv u Q I ro ri rv h
  obtain ⟨p, xs, k, j, rfl, rfl, hp, hj, q⟩ := h
  cases ro
  obtain ⟨t, rfl⟩ := ri
  obtain ⟨its, n, r, ho, hz⟩ := I.lst hp
  obtain ⟨h1, h2, h3, h4⟩ := ixN_seq hj
  have hl := r.length
  have hn := line63
  have I' : Inv X pins σ (upd H p (.lst (xs.set j v))) { s with heap := s.heap.update p (Obj.mapSeq (·.setIfInBounds j u)) } :=
    I.lstUpd hp ho (mapSeq_set its n j u) (r.set rv j) (by rw [List.length_set]; exact hz) s.toks
  by_cases h0 : 0 ≤ k
  · have hk : k.toNat = j := by
      rw [seqIndex_of h0 h4] at h1
      exact Option.some.inj h1
    exact PySem.W.ki_setAt ho h0 (by omega) (by rw [List.size_toArray, ← hl]; exact h4) (by rw [hk]; exact ⟨_, I', q⟩)
  · have hk : (k + (its.toArray.size : Int)).toNat = j := by
      rw [seqIndex_neg (by omega) h3] at h1
      rw [List.size_toArray, ← hl]
      exact Option.some.inj h1
    exact PySem.W.ki_setBack ho (by omega) (by rw [List.size_toArray, ← hl]; exact h3) (by omega) (by rw [hk]; exact ⟨_, I', q⟩)
theorem slice_bounds (lo hi : Option Int) (n : Nat) : (sliceBounds lo hi none n).1 = ((HT.sIx n 0 lo : Nat) : Int) ∧ (sliceBounds lo hi none n).2.1 = ((HT.sIx n n hi : Nat) : Int) ∧ (sliceBounds lo hi none n).2.2 = 1 := by
  refine ⟨?_, ?_, rfl⟩
  · cases lo with
    | none => simp [sliceBounds, HT.sIx]
    | some i =>
      simp only [sliceBounds, HT.sIx, Option.getD_none, show (1 : Int) > 0 by decide, if_true]
      by_cases h : i < 0
      · simp only [h, if_true] <;> omega
      · simp only [h, if_false] <;> omega
  · cases hi with
    | none => simp [sliceBounds, HT.sIx]
    | some i =>
      simp only [sliceBounds, HT.sIx, Option.getD_none, show (1 : Int) > 0 by decide, if_true]
      by_cases h : i < 0
      · simp only [h, if_true] <;> omega
      · simp only [h, if_false] <;> omega
theorem slicePick_cut (its : List Value) (lo hi : Option Int) : slicePick its.toArray lo hi none = ((its.drop (HT.sIx its.length 0 lo)).take (HT.sIx its.length its.length hi - HT.sIx its.length 0 lo)).toArray := by
  obtain ⟨h1, h2, h3⟩ := slice_bounds lo hi its.toArray.size
  unfold slicePick
  rw [h1, h2, h3]
  simp only [sliceRange_one, pick_run, List.size_toArray] <;> rfl
/-- xs[lo:hi] of a list: a new list -/
def rSlL (K : PySem.W.Frag) : V → Option Int → Option Int → Hp → VK → Prop := fun x lo hi H Q => ∃ a xs, x = .ref a ∧ SqL K H a xs ∧ ∀ p, H p = none → Q (.ref p) (upd H p (.lst (cutV xs lo hi)))
theorem sl_list : SlR X (rSlL X.K) := by
  intro pins s σ H x v vl vu lo hi sl Q I rx hs pl pu h
  obtain ⟨a, xs, rfl, hx, q⟩ := h
  cases rx
  obtain ⟨its, r, ht, hz⟩ := I.list hx
  have hlen := r.length
  refine ⟨"list", _, slot_list_getitem.lookup, ht.isList.typeIs, ?_⟩
  refine wpAny_getItem_list_slice ht.isList hs pl pu .none (by simp) ?_ (by rw [List.size_toArray] <;> omega)
  rw [slicePick_cut, ← hlen]
  refine ⟨.ref s.heap.objs.size, _, I.laid (t' := s.toks) (o := .lst (cutV xs lo hi)) (fun b ob q => Heap.get?_push_of_some _ q) (Nat.le_refl _) ?_, rfl, q _ (I.hok.fresh (Nat.le_refl _))⟩
  exact ⟨Nat.le_trans (cutV_length xs lo hi) hz, _, 0, (r.drop (HT.sIx xs.length 0 lo)).take (HT.sIx xs.length xs.length hi - HT.sIx xs.length 0 lo), Heap.get?_push_size _ rfl⟩
def flatV : V → Bool
  | .non => true
  | .bl _ => true
  | .int _ => true
  | .str _ => true
  | _ => false
/-- == of flat values -/
def eqV : V → V → Bool
  | .non, .non => true
  | .bl a, .bl b => a == b
  | .bl a, .int b => (if a then 1 else 0) == b
  | .int a, .bl b => a == (if b then 1 else 0)
  | .int a, .int b => a == b
  | .str a, .str b => a == b
  | _, _ => false
theorem eqAt_V {A : Around} {s : Shared} {y x : V} {u v : Value} (ry : RelV y u) (rx : RelV x v) (fy : flatV y = true) (fx : flatV x = true) : SeqAt.EqAt A s u v (eqV y x) := by
  cases y with
  | non =>
    cases ry
    cases x with
    | non => cases rx; exact SeqAt.EqAt.same _
    | bl b => cases rx; exact SeqAt.EqAt.none_bool b
    | int b => obtain ⟨t, rfl⟩ := rx; exact SeqAt.EqAt.none_int b t
    | str b => obtain ⟨t, rfl⟩ := rx; exact SeqAt.EqAt.none_str b t
    | _ => exact absurd (show false = true from fx) Bool.false_ne_true
  | bl a =>
    cases ry
    cases x with
    | non => cases rx; exact SeqAt.EqAt.bool_none a
    | bl b => cases rx; exact SeqAt.EqAt.bool_bool a b
    | int b => obtain ⟨t, rfl⟩ := rx; exact SeqAt.EqAt.bool_int a b t
    | str b => obtain ⟨t, rfl⟩ := rx; exact SeqAt.EqAt.bool_str a b t
    | _ => exact absurd (show false = true from fx) Bool.false_ne_true
  | int a =>
    obtain ⟨t', rfl⟩ := ry
    cases x with
    | non => cases rx; exact SeqAt.EqAt.int_none a t'
    | bl b => cases rx; exact SeqAt.EqAt.int_bool a t' b
    | int b => obtain ⟨t, rfl⟩ := rx; exact SeqAt.EqAt.int_int a t' b t
    | str b => obtain ⟨t, rfl⟩ := rx; exact SeqAt.EqAt.int_str a t' b t
    | _ => exact absurd (show false = true from fx) Bool.false_ne_true
  | str a =>
    obtain ⟨t', rfl⟩ := ry
    cases x with
    | non => cases rx; exact SeqAt.EqAt.str_none a t'
    | bl b => cases rx; exact SeqAt.EqAt.str_bool a t' b
    | int b => obtain ⟨t, rfl⟩ := rx; exact SeqAt.EqAt.str_int a t' b t
    | str b => obtain ⟨t, rfl⟩ := rx; exact SeqAt.EqAt.str_str a t' b t
    | _ => exact absurd (show false = true from fx) Bool.false_ne_true
  | _ => exact absurd (show false = true from fy) Bool.false_ne_true
/-- the items' answers, read off the values (a value's own answer does not lean on its token) -/
def eqU (x : V) (u : Value) : Bool := match u with
  | .none => eqV .non x
  | .bool b => eqV (.bl b) x
  | .int i _ => eqV (.int i) x
  | .str z _ => eqV (.str z) x
  | _ => false
theorem eqU_of {x y : V} {u : Value} (r : RelV y u) (f : flatV y = true) : eqU x u = eqV y x := by
  cases y with
  | non => cases r; rfl
  | bl b => cases r; rfl
  | int i => obtain ⟨t, rfl⟩ := r; rfl
  | str z => obtain ⟨t, rfl⟩ := r; rfl
  | _ => exact absurd (show false = true from f) Bool.false_ne_true
theorem any_eqU {x : V} : ∀ {xs : List V} {us : List Value}, Vals xs us → xs.all flatV = true → us.any (eqU x) = xs.any fun y => eqV y x
  | _, _, .nil, _ => rfl
  | y :: xs, u :: us, .cons r t, f => by
    rw [List.all_cons, Bool.and_eq_true] at f
    rw [List.any_cons, List.any_cons, eqU_of r f.1, any_eqU t f.2]
theorem mem_eqAt {A : Around} {s : Shared} {x : V} {v : Value} (rx : RelV x v) (fx : flatV x = true) : ∀ {xs : List V} {us : List Value}, Vals xs us → xs.all flatV = true → ∀ u ∈ us, SeqAt.EqAt A s u v (eqU x u)
  | _, _, .nil, _ => fun u hu => by cases hu
  | y :: xs, u :: us, .cons r t, f => fun u' hu => by
    rw [List.all_cons, Bool.and_eq_true] at f
    rcases List.mem_cons.mp hu with rfl | hu
    · rw [eqU_of r f.1]; exact eqAt_V r rx f.1 fx
    · exact mem_eqAt rx fx t f.2 u' hu
def inV (x : V) (xs : List V) : Bool := xs.any fun y => eqV y x
/-- x in a list or tuple of flat items -/
def rIn (K : PySem.W.Frag) (neg : Bool) : R2 := fun x y H Q => ∃ p xs, y = .ref p ∧ (SqL K H p xs ∨ SqT K H p xs) ∧ flatV x = true ∧ xs.all flatV = true ∧ Q (.bl (if neg then !inV x xs else inV x xs)) H
theorem op_notIn_seq : OpR X (compareOp .NotIn) (rIn X.K true) := by
  intro pins s σ H x y v u Q I rx ry h
  obtain ⟨p, xs, rfl, hq, fx, fs, q⟩ := h
  cases ry
  rcases hq with hq | hq
  · obtain ⟨its, r, pl, hz⟩ := I.list hq
    refine SeqAt.notIn_listAt (eqU x) pl.isList (fun w hw => mem_eqAt rx fx r fs w (by simpa using hw)) ⟨.bl _, H, I, rfl, ?_⟩
    rw [show its.toArray.any (eqU x) = its.any (eqU x) by simp, any_eqU r fs]
    exact q
  · obtain ⟨its, r, pl, hz⟩ := I.tuple hq
    refine SeqAt.notIn_tupleAt (eqU x) pl (fun w hw => mem_eqAt rx fx r fs w (by simpa using hw)) ⟨.bl _, H, I, rfl, ?_⟩
    rw [show its.toArray.any (eqU x) = its.any (eqU x) by simp, any_eqU r fs]
    exact q
theorem call_len_seq : CallR X (.builtin "len") (fun xs H Q => ∃ p ys, xs = [.ref p] ∧ (SqL X.K H p ys ∨ SqT X.K H p ys) ∧ Q (.int ys.length) H) := by
  intro pins s σ H xs us Q I r h
  obtain ⟨p, ys, rfl, hq, q⟩ := h
  obtain ⟨u, rfl, rx⟩ := vals1 r
  cases rx
  have hn := line63
  rcases hq with hq | hq
  · obtain ⟨its, r', pl, hz⟩ := I.list hq
    have hlen := r'.length
    exact Calls.call_len_list pl.isList (by simp only [List.size_toArray] <;> omega) ⟨.int ys.length, H, I.tok _, ⟨s.toks + 1, by rw [List.size_toArray, hlen]⟩, q⟩
  · obtain ⟨its, r', pl, hz⟩ := I.tuple hq
    have hlen := r'.length
    exact len_tuple pl (by simp only [List.size_toArray] <;> omega) ⟨.int ys.length, H, I.tok _, ⟨s.toks + 1, by rw [List.size_toArray, hlen]⟩, q⟩
theorem CallR.or {f : Value} {r r' : List V → Hp → VK → Prop} (h : CallR X f r) (h' : CallR X f r') : CallR X f (fun xs H Q => r xs H Q ∨ r' xs H Q) := by
  intro pins s σ H xs us Q I rs q
  rcases q with q | q
  · exact h s σ H xs us Q I rs q
  · exact h' s σ H xs us Q I rs q
theorem call_list_of : CallR X (.type "list") (fun xs H Q => ∃ p ys, xs = [.ref p] ∧ (SqL X.K H p ys ∨ SqT X.K H p ys) ∧ ∀ l, H l = none → Q (.ref l) (upd H l (.lst ys))) := by
  intro pins s σ H xs us Q I r h
  obtain ⟨p, ys, rfl, hq, q⟩ := h
  obtain ⟨u, rfl, rx⟩ := vals1 r
  cases rx
  have fin : ∀ (its : List Value), Vals ys its → ys.length ≤ sizeLine → ∀ (h' : Heap) (c' : Nat), (∀ b o', s.heap.get? b = some o' → h'.get? b = some o') →
      h'.get? s.heap.objs.size = some { cls := .type "list", dict := none, data := .seq its.toArray c', slots := #[] } → EP X pins σ Q (.ref s.heap.objs.size) { s with heap := h' } := fun its r' hz h' c' kp e =>
    ⟨.ref s.heap.objs.size, _, I.laid (t' := s.toks) kp (Nat.le_refl _) (show ObjOk X.prog X.w _ h' _ (.lst ys) from ⟨hz, its, c', r', e⟩), rfl, q _ (I.hok.fresh (Nat.le_refl _))⟩
  rcases hq with hq | hq
  · obtain ⟨its, r', pl, hz⟩ := I.list hq
    have hlen := r'.length
    obtain ⟨o, ho, hc, n, hd⟩ := pl.isList
    exact call_list_seq p (.inl rfl) ho hc hd (fun h' c' kp e => fin its r' hz h' c' kp e) (by simp only [List.size_toArray] <;> omega)
  · obtain ⟨its, r', pl, hz⟩ := I.tuple hq
    have hlen := r'.length
    obtain ⟨o, ho, hc, n, hd⟩ := pl
    exact call_list_seq p (.inr rfl) ho hc hd (fun h' c' kp e => fin its r' hz h' c' kp e) (by simp only [List.size_toArray] <;> omega)
theorem call_tuple_of : CallR X (.type "tuple") (fun xs H Q => ∃ p ys, xs = [.ref p] ∧ ((SqL X.K H p ys ∧ ∀ l, H l = none → Q (.ref l) (upd H l (.tup ys))) ∨ (SqT X.K H p ys ∧ Q (.ref p) H))) := by
  intro pins s σ H xs us Q I r h
  obtain ⟨p, ys, rfl, h⟩ := h
  obtain ⟨u, rfl, rx⟩ := vals1 r
  cases rx
  rcases h with ⟨hq, q⟩ | ⟨hq, q⟩
  · obtain ⟨its, r', pl, hz⟩ := I.list hq
    have hlen := r'.length
    refine call_tuple_list pl.isList (fun h' kp => ?_) (by simp only [List.size_toArray] <;> omega)
    have I1 : Inv X pins σ H { s with heap := h' } := I.kept (t' := s.toks) kp
    have I2 : Inv X pins σ (upd H h'.objs.size (.tup ys)) { s with heap := h'.push { cls := .type "tuple", data := .seq its.toArray } } :=
      I1.laid (t' := s.toks) (fun b o e => Heap.get?_push_of_some _ e) (Nat.le_refl _) (show ObjOk X.prog X.w _ _ _ (.tup ys) from ⟨hz, its, r', IsTupN.new _ _⟩)
    exact ⟨.ref h'.objs.size, _, I2, rfl, q _ (I1.hok.fresh (Nat.le_refl _))⟩
  · obtain ⟨its, r', pl, hz⟩ := I.tuple hq
    exact call_tuple_same pl ⟨.ref p, H, I, rfl, q⟩
/-- the value is of that builtin type -/
def tyV (K : PySem.W.Frag) (T : String) (x : V) (H : Hp) : Prop := match x with
  | .str _ => T = "str"
  | .int _ => T = "int"
  | .ref p => (T = "list" ∧ ∃ xs, SqL K H p xs) ∨ (T = "tuple" ∧ ((∃ o, K.lookup p = some o ∧ o.cls = .type "tuple" ∧ o.dict = none) ∨ ∃ xs, H p = some (.tup xs))) ∨
      (T = "dict" ∧ ((∃ kvs, H p = some (.dK kvs)) ∨ ∃ kvs, H p = some (.dT kvs))) ∨ (T = "set" ∧ ∃ S n, H p = some (.set S n))
  | _ => False
theorem tyV_is {pins : List (Addr × Obj)} {σ : St} {H : Hp} {s : Shared} {T : String} {x : V} {v : Value} (I : Inv X pins σ H s) (r : RelV x v) (ty : tyV X.K T x H) :
    s.TypeIs v T ∧ ∀ a, v = .ref a → ∃ ob, s.heap.get? a = some ob ∧ ob.dict = none := by
  cases x with
  | str z =>
    obtain ⟨t, rfl⟩ := r
    cases (show T = "str" from ty)
    exact ⟨typeIs_str s z t, fun _ e => nomatch e⟩
  | int i =>
    obtain ⟨t, rfl⟩ := r
    cases (show T = "int" from ty)
    exact ⟨typeIs_int s i t, fun _ e => nomatch e⟩
  | ref p =>
    cases r
    rcases ty with ⟨rfl, xs, hq⟩ | ⟨rfl, ⟨o, hk, hc, hd⟩ | ⟨xs, hx⟩⟩ | ⟨rfl, hk⟩ | ⟨rfl, S, n, hk⟩
    · obtain ⟨its, _, pl, _⟩ := I.list hq
      refine ⟨pl.isList.typeIs, fun a e => ?_⟩
      cases e
      obtain ⟨o, n, e, c, hd, _⟩ := pl
      exact ⟨o, e, hd⟩
    · refine ⟨⟨o, I.kIn p o hk, hc⟩, fun a e => ?_⟩
      cases e
      exact ⟨o, I.kIn _ o hk, hd⟩
    · obtain ⟨_, _, _, o, h1, h2, _, h3⟩ := I.hok p _ hx
      refine ⟨⟨o, h1, h2⟩, fun a e => ?_⟩
      cases e
      exact ⟨o, h1, h3⟩
    · have z : ∃ o, s.heap.get? p = some o ∧ o.ExactDict := by
        rcases hk with ⟨kvs, hk⟩ | ⟨kvs, hk⟩
        · obtain ⟨_, _, _, _, o, _, _, e, ex, _⟩ := I.hok p _ hk
          exact ⟨o, e, ex⟩
        · obtain ⟨_, _, _, _, o, _, _, e, ex, _⟩ := I.hok p _ hk
          exact ⟨o, e, ex⟩
      obtain ⟨o, e, ex⟩ := z
      refine ⟨⟨o, e, ex.1⟩, fun a e2 => ?_⟩
      cases e2
      exact ⟨o, e, ex.2.1⟩
    · obtain ⟨o, _, _, _, e, ex, _⟩ := I.hok p _ hk
      refine ⟨⟨o, e, ex.1⟩, fun a e2 => ?_⟩
      cases e2
      exact ⟨o, e, ex.2.1⟩
  | _ => exact False.elim ty
def tBM0 (K : PySem.W.Frag) (T : String) (r : V → List V → Hp → VK → Prop) (to : TE) : TE := fun σ H Q => to σ H fun x H1 => tyV K T x H1 ∧ r x [] H1 Q
def tBM (K : PySem.W.Frag) (T : String) (r : V → List V → Hp → VK → Prop) (to : TE) (t : TA) : TE := fun σ H Q => to σ H fun x H1 => tyV K T x H1 ∧ t σ H1 fun xs H2 => r x xs H2 Q
variable {o e : Expr} {es : List Expr} {to : TE} {t : TA} {name : Str} {apos cpos : Pos} {T id : String} {r : V → List V → Hp → VK → Prop}
theorem pe_bm0 (pa : PlainAttrs T) (slot : Slot T name id) (hty : typeOf (.builtin id) = pure (.type "method_descriptor")) (hm : MtR X id r) (ho : PE X o to)
    (hbase : attributeBase o name X.env (eval o X.env) = eval o X.env := by rfl) (hline : (apos.endLine == cpos.line) = true := by rfl) : PE X (.Call (.Attribute o name apos) [] [] cpos) (tBM0 X.K T r to) := by
  intro pins s σ H Q I h
  refine wpAny_Call_method0_late hbase hline (thn (ho s σ H _ I h) fun v s1 ⟨x, H1, I1, r1, ty, q1⟩ => ?_)
  obtain ⟨h1, h2⟩ := tyV_is I1 r1 ty
  exact ⟨T, id, pa, slot, hty, h1, h2, Calls.callWith_builtin rfl (PySem.evalArgs_none (hm s1 σ H1 x [] v [] Q I1 r1 .nil q1))⟩
theorem pe_bm (pa : PlainAttrs T) (slot : Slot T name id) (hty : typeOf (.builtin id) = pure (.type "method_descriptor")) (hm : MtR X id r) (ho : PE X o to) (ha : PA X (e :: es) t)
    (hbase : attributeBase o name X.env (eval o X.env) = eval o X.env := by rfl)
    (hfew : ((backTo cpos (starEach (e :: es) X.env)).all (fun x => !x.1) && (backToKw cpos (keywordEach [] X.env)).all (fun x => x.1.isSome)
      && decide ((e :: es).length + ([] : List Keyword).length + (if ([] : List Keyword).isEmpty then 0 else 1) < 30)) = true := by rfl)
    (hline : (apos.endLine == cpos.line) = true := by rfl) (hs : starEach (e :: es) X.env = (false, eval e X.env) :: starEach es X.env := by exact star_of rfl) (hplain : (backTo cpos (starEach es X.env)).any (·.1) = false := by exact plain_of rfl) :
    PE X (.Call (.Attribute o name apos) (e :: es) [] cpos) (tBM X.K T r to t) := by
  intro pins s σ H Q I h
  refine wpAny_Call_method_late hbase hfew hline rfl (thn (ho s σ H _ I h) fun v s1 ⟨x, H1, I1, r1, ty, q1⟩ => ?_)
  obtain ⟨h1, h2⟩ := tyV_is I1 r1 ty
  refine ⟨T, id, pa, slot, hty, h1, h2, ?_⟩
  have hA := ha cpos s1 σ H1 _ I1 q1
  rw [hs] at hA ⊢
  refine Calls.callWith_builtin (by show (false || (backTo cpos (starEach es X.env)).any (·.1)) = false; rw [hplain] <;> rfl) (Calls.evalArgs_plain ?_)
  exact thn hA fun us s2 ⟨vs, H2, I2, r2, q2⟩ => hm s2 σ H2 x vs v us Q I2 r1 r2 q2
end
end L2
namespace L2
open PySem PySem.Spec PyProof.Rows
def MtM (X : Cx) (id : String) (r : V → List V → Hp → VK → Prop) : Prop :=
  ∀ ⦃pins : List (Addr × Obj)⦄ (s : Shared) (σ : St) (H : Hp) (x : V) (xs : List V) (v : Value) (us : List Value) (Q : VK), Inv X pins σ H s → RelV x v → Vals xs us → r x xs H Q →
    wpAny (model X.prog X.w) X.A (call (.builtin id) (v :: us)) (EP X pins σ Q) X.xe s
theorem Vals.one : ∀ {x : V} {us : List Value}, Vals [x] us → ∃ u, us = [u] ∧ RelV x u
  | _, _, .cons r .nil => ⟨_, rfl, r⟩
theorem Vals.two : ∀ {x y : V} {us : List Value}, Vals [x, y] us → ∃ u v, us = [u, v] ∧ RelV x u ∧ RelV y v
  | _, _, _, .cons r (.cons q .nil) => ⟨_, _, rfl, r, q⟩
theorem Vals.zero : ∀ {us : List Value}, Vals [] us → us = []
  | _, .nil => rfl
theorem Vals.dropLast {xs : List V} {us : List Value} (h : Vals xs us) : Vals xs.dropLast us.dropLast := by
  induction h with
  | nil => exact .nil
  | cons r t ih =>
    cases t with
    | nil => exact .nil
    | cons q t' => exact .cons r ih
theorem Vals.eraseIdx : ∀ {xs : List V} {us : List Value} (i : Nat), Vals xs us → Vals (xs.eraseIdx i) (us.eraseIdx i)
  | _, _, _, .nil => .nil
  | _, _, 0, .cons _ t => t
  | _, _, i + 1, .cons r t => .cons r (Vals.eraseIdx i t)
theorem Vals.reverse {xs : List V} {us : List Value} (h : Vals xs us) : Vals xs.reverse us.reverse := by
  induction h with
  | nil => exact .nil
  | cons r t ih => rw [List.reverse_cons, List.reverse_cons]; exact Vals.append ih (.cons r .nil)
theorem Vals.rep {xs : List V} {us : List Value} (h : Vals xs us) : ∀ k : Nat, Vals (List.replicate k xs).flatten (List.replicate k us).flatten
  | 0 => .nil
  | k + 1 => by
    rw [List.replicate_succ, List.replicate_succ, List.flatten_cons, List.flatten_cons]
    exact Vals.append h (Vals.rep h k)
theorem erase_last {α : Type} (l : List α) : l.eraseIdx (l.length - 1) = l.dropLast := by
  induction l with
  | nil => rfl
  | cons a r ih =>
    cases r with
    | nil => rfl
    | cons b r =>
      have e : (a :: b :: r).length - 1 = ((b :: r).length - 1) + 1 := by
        have h1 : (a :: b :: r).length = r.length + 2 := rfl
        have h2 : (b :: r).length = r.length + 1 := rfl
        omega
      rw [e, List.eraseIdx_cons_succ, ih]
      all_goals rfl
theorem len_erase {α : Type} : ∀ (l : List α) (i : Nat), (l.eraseIdx i).length ≤ l.length
  | [], _ => Nat.le_refl _
  | _ :: _, 0 => Nat.le_succ _
  | _ :: r, i + 1 => Nat.succ_le_succ (len_erase r i)
theorem foldl_rep (its : List Value) : ∀ (k : Nat) (acc : List Value),
    List.foldl (fun x1 x2 => x1 ++ x2) acc.toArray (List.replicate k its.toArray) = (acc ++ (List.replicate k its).flatten).toArray
  | 0, acc => by simp
  | k + 1, acc => by
    have e : acc.toArray ++ its.toArray = (acc ++ its).toArray := by simp
    have e2 : (acc ++ its) ++ (List.replicate k its).flatten = acc ++ (List.replicate (k + 1) its).flatten := by
      rw [List.replicate_succ, List.flatten_cons, List.append_assoc]
    rw [← e2, ← foldl_rep its k (acc ++ its), ← e, List.replicate_succ, List.foldl_cons]
section
variable {X : Cx} {pins : List (Addr × Obj)} {σ : St} {H : Hp} {s : Shared} {l b : Addr} {xs ys zs : List V}
theorem Inv.lset {its its' : List Value} {n : Nat} {f : Array Value → Array Value} {t' : Nat} (I : Inv X pins σ H s) (hH : H l = some (.lst xs))
    (e : s.heap.get? l = some { cls := .type "list", data := .seq its.toArray n }) (hf : f its.toArray = its'.toArray) (hv : Vals ys its') (hz : ys.length ≤ sizeLine) :
    Inv X pins σ (upd H l (.lst ys)) { s with heap := s.heap.update l (Obj.mapSeq f), toks := t' } := by
  have q := PySem.IsL.update e f
  rw [hf] at q
  refine I.write (x := l) (e := l) (by rw [hH]; exact trivial) (.inl rfl) (fun b' u hb hu => (Heap.get?_update_other s.heap (Obj.mapSeq f) (Ne.symm hb)).trans hu) ⟨_, q⟩ ?_
  exact ⟨hz, its', _, hv, q⟩
theorem Inv.lnew {its : List Value} {t' : Nat} (I : Inv X pins σ H s) (hv : Vals ys its) (hz : ys.length ≤ sizeLine) :
    Inv X pins σ (upd H s.heap.objs.size (.lst ys)) { s with heap := s.heap.push { cls := .type "list", data := .seq its.toArray }, toks := t' } :=
  I.laid (fun _ _ q => Heap.get?_push_of_some _ q) (Nat.le_refl _) ⟨hz, its, 0, hv, Heap.get?_push_size _ rfl⟩
theorem Inv.fresh (I : Inv X pins σ H s) : H s.heap.objs.size = none := I.hok.fresh (Nat.le_refl _)
theorem Inv.lstM (I : Inv X pins σ H s) (hH : H l = some (.lst xs)) : xs.length ≤ sizeLine ∧ ∃ (its : List Value) (n : Nat), Vals xs its ∧ xs.length = its.length ∧ s.heap.get? l = some { cls := .type "list", data := .seq its.toArray n } := by
  obtain ⟨z, its, n, r, e⟩ := I.hok l _ hH
  exact ⟨z, its, n, r, r.length, e⟩
theorem notLongL {n : Nat} (h : n ≤ sizeLine) : Builtin.List.listTooLong n = false := by
  unfold Builtin.List.listTooLong
  exact decide_eq_false (by omega)
end
section
variable {X : Cx}
def rAppend : V → List V → Hp → VK → Prop := fun x vs H Q => ∃ l xs y, x = .ref l ∧ vs = [y] ∧ H l = some (.lst xs) ∧ xs.length < sizeLine ∧ Q .non (upd H l (.lst (xs ++ [y])))
theorem mt_append : MtM X "list.append" rAppend := by
  intro pins s σ H x vs v us Q I rx rv h
  obtain ⟨l, xs, y, rfl, rfl, hH, hz, q⟩ := h
  cases rx
  obtain ⟨u, rfl, ru⟩ := rv.one
  obtain ⟨z, its, n, r, hl, e⟩ := I.lstM hH
  refine call_meets F.slot_list_append ⟨_, e, rfl⟩ F.entry_list_append (F.args_list_append_2 _ _) (PySem.list_append l its.toArray n u (by rw [List.size_toArray]; omega)) ⟨e, ?_⟩
  refine ⟨.non, _, I.lset (its' := its ++ [u]) hH e (by simp) (r.append (.cons ru .nil)) ?_, rfl, q⟩
  rw [List.length_append, List.length_singleton]
  omega
def rPop : V → List V → Hp → VK → Prop := fun x vs H Q => ∃ l xs y, x = .ref l ∧ vs = [] ∧ H l = some (.lst xs) ∧ xs[xs.length - 1]? = some y ∧ Q y (upd H l (.lst xs.dropLast))
theorem mt_pop : MtM X "list.pop" rPop := by
  intro pins s σ H x vs v us Q I rx rv h
  obtain ⟨l, xs, y, rfl, rfl, hH, hy, q⟩ := h
  cases rx
  have hus := rv.zero
  subst hus
  obtain ⟨z, its, n, r, hl, e⟩ := I.lstM hH
  obtain ⟨u, hu, ru⟩ := r.get hy
  have hy' : its.toArray[its.toArray.size - 1]? = some u := by
    show its.toArray[its.length - 1]? = some u
    rw [← Array.getElem?_toList, ← hl]
    exact hu
  refine call_meets F.slot_list_pop ⟨_, e, rfl⟩ F.entry_list_pop (F.args_list_pop_1 _) (MeetsSeq.list_pop_last l its.toArray n u hy' (by rw [List.size_toArray]; omega)) ⟨e, ?_⟩
  refine ⟨y, _, I.lset (its' := its.dropLast) hH e ?_ r.dropLast ?_, ru, q⟩
  · show its.toArray.eraseIdxIfInBounds (its.toArray.size - 1) = its.dropLast.toArray
    rw [List.size_toArray, List.eraseIdxIfInBounds_toArray, erase_last]
  · rw [List.length_dropLast]
    omega
def rPopAt : V → List V → Hp → VK → Prop := fun x vs H Q => ∃ l xs i k y, x = .ref l ∧ vs = [.int i] ∧ H l = some (.lst xs) ∧ -(2 ^ 63) ≤ i ∧ i < 2 ^ 63 ∧ seqIndex? i xs.length = some k ∧ xs[k]? = some y ∧ Q y (upd H l (.lst (xs.eraseIdx k)))
theorem mt_popAt : MtM X "list.pop" rPopAt := by
  intro pins s σ H x vs v us Q I rx rv h
  obtain ⟨l, xs, i, k, y, rfl, rfl, hH, h1, h2, hk, hy, q⟩ := h
  cases rx
  obtain ⟨u, rfl, ru⟩ := rv.one
  obtain ⟨t, rfl⟩ := ru
  obtain ⟨z, its, n, r, hl, e⟩ := I.lstM hH
  obtain ⟨w, hw, rw'⟩ := r.get hy
  refine call_meets F.slot_list_pop ⟨_, e, rfl⟩ F.entry_list_pop (F.args_list_pop_2 _ _)
    (MeetsSeq.list_pop_at l its.toArray n i t k w (fitsIndex_both h1 h2) (by rw [List.size_toArray, ← hl]; exact hk) (by rw [← Array.getElem?_toList]; exact hw) (by rw [List.size_toArray]; omega)) ⟨e, ?_⟩
  refine ⟨y, _, I.lset (its' := its.eraseIdx k) hH e ?_ (r.eraseIdx k) ?_, rw', q⟩
  · show its.toArray.eraseIdxIfInBounds k = (its.eraseIdx k).toArray
    rw [List.eraseIdxIfInBounds_toArray]
  · have := len_erase xs k
    omega
def rCat : R2 := fun x y H Q => ∃ l b xs zs, x = .ref l ∧ y = .ref b ∧ H l = some (.lst xs) ∧ H b = some (.lst zs) ∧ xs.length + zs.length ≤ sizeLine ∧ ∀ p, H p = none → Q (.ref p) (upd H p (.lst (xs ++ zs)))
theorem op_cat : OpR X (binaryOp .Add) rCat := by
  intro pins s σ H x y v u Q I rx ry h
  obtain ⟨l, b, xs, zs, rfl, rfl, hH, hB, hz, q⟩ := h
  cases rx
  cases ry
  obtain ⟨z, its, n, r, hl, e⟩ := I.lstM hH
  obtain ⟨z2, its2, n2, r2, hl2, e2⟩ := I.lstM hB
  refine PySem.P.add_list e e2 ?_ (by rw [List.size_toArray, List.size_toArray]; omega)
  have ea : its.toArray ++ its2.toArray = (its ++ its2).toArray := by simp
  rw [ea]
  exact ⟨.ref _, _, I.lnew (t' := s.toks) (r.append r2) (by rw [List.length_append]; omega), rfl, q _ I.fresh⟩
/-- a list times an int (a negative one is nothing) -/
def rRep : R2 := fun x y H Q => ∃ l k xs, x = .ref l ∧ y = .int k ∧ H l = some (.lst xs) ∧ -(2 ^ 63) ≤ k ∧ k < 2 ^ 63 ∧ xs.length * k.toNat ≤ sizeLine ∧
  ∀ p, H p = none → Q (.ref p) (upd H p (.lst (List.replicate k.toNat xs).flatten))
theorem len_rep {α : Type} (xs : List α) (k : Nat) : (List.replicate k xs).flatten.length = k * xs.length := by
  induction k with
  | zero => simp
  | succ k ih => rw [List.replicate_succ, List.flatten_cons, List.length_append, ih, Nat.succ_mul, Nat.add_comm]
theorem op_rep : OpR X (binaryOp .Mult) rRep := by
  intro pins s σ H x y v u Q I rx ry h
  obtain ⟨l, k, xs, rfl, rfl, hH, h1, h2, hz, q⟩ := h
  cases rx
  obtain ⟨t, rfl⟩ := ry
  obtain ⟨z, its, n, r, hl, e⟩ := I.lstM hH
  have hlen : its.toArray.size * k.toNat ≤ sizeLine := by rw [List.size_toArray, ← hl]; exact hz
  have hcap : ¬ its.toArray.size * k.toNat > (2 ^ 63 - 1) / 8 := by
    have : (sizeLine : Nat) ≤ (2 ^ 63 - 1) / 8 := by decide
    omega
  have hfit : ¬ (!Builtin.List.listFitsIndex k) = true := by
    rw [fitsIndex_both h1 h2]
    exact Bool.false_ne_true
  have hlong : ¬ Builtin.List.listTooLong (its.toArray.size * k.toNat) = true := by
    rw [notLongL hlen]
    exact Bool.false_ne_true
  have hnew : List.foldl (fun x1 x2 => x1 ++ x2) #[] (List.replicate (if its.toArray.isEmpty = true then 0 else k.toNat) its.toArray) = (List.replicate k.toNat its).flatten.toArray := by
    have f0 : ∀ m : Nat, List.foldl (fun x1 x2 => x1 ++ x2) #[] (List.replicate m its.toArray) = (List.replicate m its).flatten.toArray := fun m => by
      have := foldl_rep its m []
      rw [List.nil_append] at this
      exact this
    rw [f0]
    cases its with
    | nil => simp
    | cons a r' => rw [if_neg (by simp)]
  refine wpAny_binaryOp_repeat_ref (T := "list") (U := "int") (by decide) ⟨_, e, rfl⟩ (fun s' => typeIs_int s' k t) noFill_list_mul F.fills_int_mul F.slot_int_rmul repeat_list F.slot_int_index.lookup
    (call_meets F.slot_int_rmul (typeIs_int s k t) F.entry_int_rmul (F.args_int_rmul_2 _ _) (int___rmul___int_list k t l its.toArray n)
      ⟨e, rfl, ⟨_, e, rfl⟩, call_meets F.slot_list_mul ⟨_, e, rfl⟩ F.entry_list_mul (F.args_list_mul_2 _ _) (AutoListH.list___mul___list_int_3 l its.toArray n k t hfit hcap hlong) ⟨e, ?_⟩⟩)
  rw [hnew]
  exact ⟨.ref _, _, I.lnew (t' := s.toks) (r.rep k.toNat) (by rw [len_rep, Nat.mul_comm]; exact hz), rfl, q _ I.fresh⟩
end
section
variable {prog : Program} {w : World} {A : Around} {E : Value → Shared → Prop} {s : Shared}
end
section
variable {X : Cx}
end
end L2
namespace L2
open PySem PySem.Spec PyProof.Rows
theorem Vals.ints : ∀ {ns : List Int} {us : List Value}, Vals (ns.map V.int) us → IntsAre us ns
  | [], us, h => by
    rw [List.map_nil] at h
    cases h
    exact IntsAre.nil
  | n :: ns, us, h => by
    rw [List.map_cons] at h
    cases h with
    | cons r t =>
      obtain ⟨k, rfl⟩ := r
      exact IntsAre.cons n k (Vals.ints t)
theorem Vals.strs : ∀ {xs : List Str} {us : List Value}, Vals (xs.map V.str) us → StrsAre us xs
  | [], us, h => by
    rw [List.map_nil] at h
    cases h
    exact StrsAre.nil
  | x :: xs, us, h => by
    rw [List.map_cons] at h
    cases h with
    | cons r t =>
      obtain ⟨k, rfl⟩ := r
      exact StrsAre.cons x k (Vals.strs t)
theorem vals_of_strs : ∀ {us : List Value} {xs : List Str}, StrsAre us xs → Vals (xs.map V.str) us
  | _, _, .nil => by rw [List.map_nil]; exact Paired.nil
  | _, _, .cons x t h => by rw [List.map_cons]; exact Paired.cons (show RelV (V.str x) (Value.str x t) from ⟨t, rfl⟩) (vals_of_strs h)
theorem Vals.ref1 {a : Addr} {us : List Value} (r : Vals [V.ref a] us) : us = [Value.ref a] := by
  cases r with
  | cons r t =>
    cases t
    cases r
    rfl
section
variable {prog : Program} {w : World} {A : Around} {E : Value → Shared → Prop} {s : Shared} {l : Addr} {its : List Value} {ns : List Int} {Q : Value → Shared → Prop}
end
section
variable {X : Cx}
def rSortedS (K : PySem.W.Frag) : List V → Hp → VK → Prop := fun vs H Q => ∃ (a : Addr) (xs : List Str), vs = [V.ref a] ∧ SqL K H a (xs.map V.str) ∧ xs.length < 64 ∧
  ∀ (ys : List Str) (p : Addr), ys.Perm xs → sortedS ys = true → H p = none → Q (.ref p) (upd H p (.lst (ys.map V.str)))
theorem small64 {n : Nat} (h : n < 64) : n ≤ sizeLine := by rw [sizeLine_eq]; omega
theorem cr_sortedS : CallR X (.builtin "sorted") (rSortedS X.K) := by
  intro pins s σ H vs us Q I r h
  obtain ⟨a, xs, rfl, hs, h64, q⟩ := h
  obtain ⟨its, rv, hl, _⟩ := I.list hs
  rw [Vals.ref1 r]
  have hlen0 := rv.length
  rw [List.length_map] at hlen0
  refine PyProof.Rows.sorted_strs hl.isList rv.strs (by rw [← hlen0]; exact h64) fun out ys h1 h2 h3 => ?_
  obtain ⟨ep, he'⟩ := PyProof.Rows.sortedAll_at s.heap its out
  have hlen : (ys.map V.str).length ≤ sizeLine := by rw [List.length_map, h2.length_eq]; exact small64 h64
  exact ⟨.ref _, upd H (s.heap.objs.size + 1) (.lst (ys.map V.str)), I.laid (t' := s.toks) (fun _ _ => PyProof.Rows.sortedAll_old) (Nat.le_succ _) ⟨hlen, out.toList, ep, vals_of_strs h1, he'⟩, rfl, q ys _ h2 h3 (I.hok.fresh (Nat.le_succ _))⟩
end
section
variable {X : Cx}
def rIndex (K : PySem.W.Frag) : V → List V → Hp → VK → Prop := fun x xs H Q => ∃ (a : Addr) (ys : List V) (y : V) (j : Nat) (z : V), x = V.ref a ∧ xs = [y] ∧ SqL K H a ys ∧ flatV y = true ∧ ys.all flatV = true ∧ ys[j]? = some z ∧ eqV z y = true ∧
  (∀ (m : Nat) (z' : V), m < j → ys[m]? = some z' → eqV z' y = false) ∧ Q (.int (j : Nat)) H
theorem flat_at {ys : List V} (f : ys.all flatV = true) {j : Nat} {z : V} (h : ys[j]? = some z) : flatV z = true := List.all_eq_true.mp f z (List.mem_of_getElem? h)
theorem mt_index : MtR X "list.index" (rIndex X.K) := by
  intro pins s σ H x xs v us Q I rx rxs h
  obtain ⟨a, ys, y, j, z, rfl, rfl, hs, fy, fys, hz, hzj, hno, q⟩ := h
  cases rx
  cases rxs with
  | cons ry rt =>
    rename_i uy ut
    cases rt
    obtain ⟨its, rv, ⟨⟨cls, dd, data, sl⟩, n, ho, hc, hdn, hd⟩, hlen⟩ := I.list hs
    simp only at hc hd
    subst hc hd
    obtain ⟨u, hu, ru⟩ := rv.get hz
    obtain ⟨hjl, hje⟩ := List.getElem?_eq_some_iff.mp hu
    have hvl := rv.length
    have hj : j < its.toArray.size := by simpa using hjl
    have hsl := sizeLine_eq
    refine call_meets PySem.F.slot_list_index ⟨_, ho, rfl⟩ PySem.F.entry_list_index (PySem.F.args_list_index_2 _ _)
      (SeqAt.list_indexAt a its.toArray n dd sl uy (eqU y) j hj (by omega) ?_ ?_) ⟨ho, fun u' hu' => mem_eqAt ry fy rv fys u' (by simpa using hu'), ?_⟩
    · have e1 : its.toArray[j] = u := by simpa using hje
      rw [e1, eqU_of ru (flat_at fys hz)]
      exact hzj
    · intro m hm hmj
      have hml : m < its.length := by simpa using hm
      have hmy : m < ys.length := by omega
      have hy' : ys[m]? = some ys[m] := List.getElem?_eq_getElem hmy
      obtain ⟨u2, hu2, ru2⟩ := rv.get hy'
      obtain ⟨_, hme⟩ := List.getElem?_eq_some_iff.mp hu2
      have e1 : its.toArray[m] = u2 := by simpa using hme
      rw [e1, eqU_of ru2 (flat_at fys hy')]
      exact hno m _ hmj hy'
    · exact ⟨.int (j : Nat), H, I.tok _, ⟨_, rfl⟩, q⟩
end
section
variable {X : Cx}
end
section
variable {X : Cx}
end
mutual
inductive Dp (K : PySem.W.Frag) (H : Hp) : V → PyData → Prop
  | non : Dp K H .non .none
  | bl (b : Bool) : Dp K H (.bl b) (.bool b)
  | int (i : Int) : Dp K H (.int i) (.int i)
  | str (x : Str) : Dp K H (.str x) (.str x)
  | lst {a : Addr} {xs : List V} {ds : List PyData} : SqL K H a xs → DpAll K H xs ds → Dp K H (.ref a) (.list ds)
  | tup {a : Addr} {xs : List V} {ds : List PyData} : SqT K H a xs → DpAll K H xs ds → Dp K H (.ref a) (.tuple ds)
inductive DpAll (K : PySem.W.Frag) (H : Hp) : List V → List PyData → Prop
  | nil : DpAll K H [] []
  | cons {v : V} {vs : List V} {d : PyData} {ds : List PyData} : Dp K H v d → DpAll K H vs ds → DpAll K H (v :: vs) (d :: ds)
end
section
variable {X : Cx} {pins : List (Addr × Obj)} {σ : St} {H : Hp} {s : Shared}
mutual
theorem Dp.reads (I : Inv X pins σ H s) : ∀ (d : PyData) (v : V) (u : Value), Dp X.K H v d → RelV v u → ∃ as, Reads s.heap u d as
  | .none, _, _, h, r => by
    cases h
    cases r
    exact ⟨_, Reads.none⟩
  | .bool b, _, _, h, r => by
    cases h
    cases r
    exact ⟨_, Reads.bool b⟩
  | .int i, _, _, h, r => by
    cases h
    obtain ⟨t, rfl⟩ := r
    exact ⟨_, Reads.int i t⟩
  | .str x, _, _, h, r => by
    cases h
    obtain ⟨t, rfl⟩ := r
    exact ⟨_, Reads.str x t⟩
  | .list ds, _, _, h, r => by
    cases h with
    | lst hs ha =>
      cases r
      obtain ⟨its, rv, ⟨o, n, ho, hc, _, hd⟩, _⟩ := I.list hs
      obtain ⟨as, hr⟩ := Dp.readsAll I ds _ its ha rv
      exact ⟨_, Reads.list ho hc hd hr⟩
  | .tuple ds, _, _, h, r => by
    cases h with
    | tup hs ha =>
      cases r
      obtain ⟨its, rv, ⟨o, ho, hc, n, hd⟩, _⟩ := I.tuple hs
      obtain ⟨as, hr⟩ := Dp.readsAll I ds _ its ha rv
      exact ⟨_, Reads.tuple ho hc hd hr⟩
  | .dict _, _, _, h, _ => by cases h
theorem Dp.readsAll (I : Inv X pins σ H s) : ∀ (ds : List PyData) (vs : List V) (us : List Value), DpAll X.K H vs ds → Vals vs us → ∃ as, ReadsAll s.heap us ds as
  | [], _, _, h, r => by
    cases h
    cases r
    exact ⟨_, ReadsAll.nil⟩
  | d :: ds, _, _, h, r => by
    cases h with
    | cons h1 h2 =>
      cases r with
      | cons r1 r2 =>
        obtain ⟨as, q1⟩ := Dp.reads I d _ _ h1 r1
        obtain ⟨bs, q2⟩ := Dp.readsAll I ds _ _ h2 r2
        exact ⟨_, ReadsAll.cons q1 q2⟩
end
end
section
variable {X : Cx}
def rEqD (K : PySem.W.Frag) : R2 := fun x y H Q => ∃ d e, Dp K H x d ∧ Dp K H y e ∧ SeqAt.shaped d = true ∧ SeqAt.shaped e = true ∧ Q (.bl (PyData.eqv d e)) H
def rNeD (K : PySem.W.Frag) : R2 := fun x y H Q => ∃ d e, Dp K H x d ∧ Dp K H y e ∧ SeqAt.shaped d = true ∧ SeqAt.shaped e = true ∧ Q (.bl (!PyData.eqv d e)) H
theorem op_eqD (hu : X.A.units + 64 < cLine) : OpR X (compareOp .Eq) (rEqD X.K) := by
  intro pins s σ H x y v u Q I rx ry h
  obtain ⟨d, e, hd, he, sd, se, q⟩ := h
  obtain ⟨as, r1⟩ := Dp.reads I d x v hd rx
  obtain ⟨bs, r2⟩ := Dp.reads I e y u he ry
  exact SeqAt.compareEq_shaped r1 r2 sd se hu ⟨.bl _, H, I, rfl, q⟩
theorem op_neD (hu : X.A.units + 64 < cLine) : OpR X (compareOp .NotEq) (rNeD X.K) := by
  intro pins s σ H x y v u Q I rx ry h
  obtain ⟨d, e, hd, he, sd, se, q⟩ := h
  obtain ⟨as, r1⟩ := Dp.reads I d x v hd rx
  obtain ⟨bs, r2⟩ := Dp.reads I e y u he ry
  exact SeqAt.compareNe_shaped r1 r2 sd se hu ⟨.bl _, H, I, rfl, q⟩
end
end L2
namespace L2
open PySem PySem.Spec PyProof.Rows
abbrev CellAt (h : Heap) (c : Addr) (v : Option Value) : Prop := h.IsCell c v
def relS (scope sc : Scope) : Scope :=
  { scope with names := scope.names.map fun (n, k) => if (k == .free && sc.kind == .function && sc.names.lookup n == some .cell) then (n, .cell) else (n, k) }
def cloFrom (cells : List (Str × Addr)) : List (Str × NameKind) → List (Str × Addr) → List (Str × Addr)
  | [], acc => acc
  | (n, k) :: r, acc => if k == .free then cloFrom cells r ((n, (cells.lookup n).getD 0) :: acc) else cloFrom cells r acc
theorem closure_loop (env : Env) (f : Str × NameKind → List (Str × Addr) → Sem (ForInStep (List (Str × Addr))))
    (hf : ∀ n k c, f (n, k) c = if k == .free then (do let a ← cellOf env n; pure (.yield ((n, a) :: c))) else pure (.yield c)) :
    ∀ (names : List (Str × NameKind)) (acc : List (Str × Addr)), (∀ y ∈ names, y.2 = .free → ∃ c, env.cells.lookup y.1 = some c) → forIn names acc f = pure (cloFrom env.cells names acc)
  | [], acc, _ => by rw [List.forIn_nil]; rfl
  | (n, k) :: r, acc, h => by
    rw [List.forIn_cons, hf]
    have ih := fun acc => closure_loop env f hf r acc fun y hy => h y (List.mem_cons_of_mem _ hy)
    unfold cloFrom
    by_cases hk : (k == NameKind.free) = true
    · rw [if_pos hk, if_pos hk]
      obtain ⟨c, hc⟩ := h (n, k) List.mem_cons_self (by simpa using hk)
      have e : cellOf env n = pure c := by unfold cellOf; rw [hc]
      rw [e]
      have e2 : (env.cells.lookup n).getD 0 = c := by rw [hc]; rfl
      rw [e2]
      exact ih _
    · rw [if_neg hk, if_neg hk]
      exact ih _
theorem closure_ok {scope : Scope} {env : Env} (h : ∀ y ∈ scope.names, y.2 = .free → ∃ c, env.cells.lookup y.1 = some c) : closureFor scope env = pure (cloFrom env.cells scope.names []) := by
  simp only [closureFor]
  rw [closure_loop env _ (fun n k c => rfl) scope.names [] h]
  rfl
theorem mem_lookup {α : Type} : ∀ {l : List (Str × α)} {n : Str} {c : α}, (n, c) ∈ l → ∃ c', l.lookup n = some c'
  | (k, v) :: r, n, c, h => by
    rw [List.lookup_cons]
    cases hb : n == k with
    | true => exact ⟨_, rfl⟩
    | false =>
      rcases List.mem_cons.mp h with e | h
      · cases e; simp at hb
      · exact mem_lookup h
theorem cloFrom_mem {cells : List (Str × Addr)} : ∀ {names : List (Str × NameKind)} {acc : List (Str × Addr)} {n : Str} {c : Addr}, (n, c) ∈ cloFrom cells names acc → (n, c) ∈ acc ∨ ((n, .free) ∈ names ∧ c = (cells.lookup n).getD 0)
  | [], _, _, _, h => .inl h
  | (m, k) :: r, acc, n, c, h => by
    unfold cloFrom at h
    split at h
    · rename_i hk
      have hk : k = .free := by simpa using hk
      rcases cloFrom_mem h with h | ⟨h1, h2⟩
      · rcases List.mem_cons.mp h with e | h
        · cases e; exact .inr ⟨hk ▸ List.mem_cons_self, rfl⟩
        · exact .inl h
      · exact .inr ⟨List.mem_cons_of_mem _ h1, h2⟩
    · rcases cloFrom_mem h with h | ⟨h1, h2⟩
      · exact .inl h
      · exact .inr ⟨List.mem_cons_of_mem _ h1, h2⟩
theorem cloFrom_acc {cells : List (Str × Addr)} : ∀ {names : List (Str × NameKind)} {acc : List (Str × Addr)} {p : Str × Addr}, p ∈ acc → p ∈ cloFrom cells names acc
  | [], _, _, h => h
  | (m, k) :: r, acc, p, h => by
    unfold cloFrom
    split
    · exact cloFrom_acc (List.mem_cons_of_mem _ h)
    · exact cloFrom_acc h
theorem cloFrom_has {cells : List (Str × Addr)} : ∀ {names : List (Str × NameKind)} {acc : List (Str × Addr)} {n : Str}, (n, .free) ∈ names → (n, (cells.lookup n).getD 0) ∈ cloFrom cells names acc
  | (m, k) :: r, acc, n, h => by
    unfold cloFrom
    rcases List.mem_cons.mp h with e | h
    · cases e
      exact cloFrom_acc List.mem_cons_self
    · split
      · exact cloFrom_has h
      · exact cloFrom_has h
theorem cells_mem : ∀ {names : List (Str × NameKind)} {h : Heap} {acc : List (Str × Addr)} {x : Str} {c : Addr}, (x, c) ∈ cellsFrom h.objs.size names acc →
    (x, c) ∈ acc ∨ ((x, .cell) ∈ names ∧ h.objs.size ≤ c ∧ CellAt (pushCells h names) c none)
  | [], _, _, _, _, h => .inl h
  | (n, k) :: r, h, acc, x, c, hm => by
    unfold cellsFrom at hm
    unfold pushCells
    split at hm
    · rename_i hk
      rw [if_pos hk]
      have hk : k = .cell := by simpa using hk
      rw [← Heap.size_push h { cls := .type "cell", data := .cell none }] at hm
      rcases cells_mem hm with hm | ⟨h1, h2, h3⟩
      · rcases List.mem_cons.mp hm with e | hm
        · cases e
          exact .inr ⟨hk ▸ List.mem_cons_self, Nat.le_refl _, _, pushCells_keeps r _ _ _ (Heap.get?_push_size _ rfl), rfl⟩
        · exact .inl hm
      · rw [Heap.size_push] at h2
        exact .inr ⟨List.mem_cons_of_mem _ h1, Nat.le_of_succ_le h2, h3⟩
    · rename_i hk
      rw [if_neg hk]
      rcases cells_mem hm with hm | ⟨h1, h2, h3⟩
      · exact .inl hm
      · exact .inr ⟨List.mem_cons_of_mem _ h1, h2, h3⟩
theorem cells_acc : ∀ {names : List (Str × NameKind)} {n : Nat} {acc : List (Str × Addr)} {p : Str × Addr}, p ∈ acc → p ∈ cellsFrom n names acc
  | [], _, _, _, h => h
  | (m, k) :: r, n, acc, p, h => by
    unfold cellsFrom
    split
    · exact cells_acc (List.mem_cons_of_mem _ h)
    · exact cells_acc h
theorem cells_has : ∀ {names : List (Str × NameKind)} {n : Nat} {acc : List (Str × Addr)} {x : Str}, (x, .cell) ∈ names → ∃ c, (x, c) ∈ cellsFrom n names acc
  | (m, k) :: r, n, acc, x, h => by
    unfold cellsFrom
    rcases List.mem_cons.mp h with e | h
    · cases e
      exact ⟨n, cells_acc List.mem_cons_self⟩
    · split
      · exact cells_has h
      · exact cells_has h
theorem cells_inj : ∀ {names : List (Str × NameKind)} {h : Heap} {acc : List (Str × Addr)} {x y : Str} {c : Addr}, (∀ p ∈ acc, p.2 < h.objs.size) → (∀ x y c, (x, c) ∈ acc → (y, c) ∈ acc → x = y) →
    (x, c) ∈ cellsFrom h.objs.size names acc → (y, c) ∈ cellsFrom h.objs.size names acc → x = y
  | [], _, _, _, _, _, _, hi, h1, h2 => hi _ _ _ h1 h2
  | (n, k) :: r, h, acc, x, y, c, hl, hi, h1, h2 => by
    unfold cellsFrom at h1 h2
    split at h1
    · rename_i hk
      rw [if_pos hk] at h2
      rw [← Heap.size_push h { cls := .type "cell", data := .cell none }] at h1 h2
      refine cells_inj (h := h.push _) (fun p hp => ?_) (fun x y c a b => ?_) h1 h2
      · rw [Heap.size_push]
        rcases List.mem_cons.mp hp with rfl | hp
        · exact Nat.lt_succ_self _
        · exact Nat.lt_succ_of_lt (hl p hp)
      · rcases List.mem_cons.mp a with e | a <;> rcases List.mem_cons.mp b with e' | b
        · cases e; cases e'; rfl
        · cases e; exact absurd (hl _ b) (Nat.lt_irrefl _)
        · cases e'; exact absurd (hl _ a) (Nat.lt_irrefl _)
        · exact hi _ _ _ a b
    · rename_i hk
      rw [if_neg hk] at h2
      exact cells_inj hl hi h1 h2
theorem newEnv_comp {M : Model} {A : Around} {E : Value → Shared → Prop} {s : Shared} {scope : Scope} {globals : Addr} {closure : List (Str × Addr)} {qual : Str} {func : Option Addr} {code : Value} {around : Env} {builtins : Addr} {Q : Env → Shared → Prop}
    (h : Q (newEnv scope s.heap.objs.size globals (cellsFrom (s.heap.objs.size + 1) scope.names closure) qual func code (some around) builtins)
      { s with heap := pushCells (s.heap.push { cls := .type "dict", data := .dict #[] }) scope.names }) :
    wpAny M A (newFunctionEnv scope globals closure [] qual func code (some around) builtins) Q E s := by
  simp only [newFunctionEnv, Option.isSome_some, if_true]
  refine wpAny_bind (wpAny_alloc ?_)
  refine wpAny_bind (wpAny_layCells _ (fun n k c => rfl) scope.names closure _ _ ?_)
  rw [show ({ s with heap := s.heap.push { cls := .type "dict", data := .dict #[] } } : Shared).heap.objs.size = s.heap.objs.size + 1 from Heap.size_push ..]
  rw [List.forIn_nil]
  exact wpAny_bind (wpAny_pure (wpAny_pure h))
/-- every name of the written scope, in the scope that runs -/
theorem lookup_relS {sc : Scope} : ∀ {names : List (Str × NameKind)} {x : Str} {k : NameKind},
    (names.map fun (n, k) => if (k == NameKind.free && sc.kind == .function && sc.names.lookup n == some .cell) then (n, NameKind.cell) else (n, k)).lookup x = some k →
    ∃ k', names.lookup x = some k' ∧ (k = k' ∨ (k' = .free ∧ k = .cell))
  | [], _, _, h => by simp at h
  | (n, k₀) :: r, x, k, h => by
    have ih := @lookup_relS sc r x k
    have h' : List.lookup x ((if (k₀ == NameKind.free && sc.kind == .function && sc.names.lookup n == some .cell) = true then (n, NameKind.cell) else (n, k₀)) :: (r.map _)) = some k := h
    cases hx : x == n with
    | true =>
      simp only [List.lookup_cons, hx]
      by_cases hc : (k₀ == NameKind.free && sc.kind == .function && sc.names.lookup n == some .cell) = true
      · rw [if_pos hc] at h'
        simp only [List.lookup_cons, hx] at h'
        cases h'
        simp only [Bool.and_eq_true, beq_iff_eq] at hc
        exact ⟨k₀, rfl, .inr ⟨hc.1.1, rfl⟩⟩
      · rw [if_neg hc] at h'
        simp only [List.lookup_cons, hx] at h'
        cases h'
        exact ⟨_, rfl, .inl rfl⟩
    | false =>
      simp only [List.lookup_cons, hx]
      by_cases hc : (k₀ == NameKind.free && sc.kind == .function && sc.names.lookup n == some .cell) = true
      · rw [if_pos hc] at h'
        simp only [List.lookup_cons, hx] at h'
        exact ih h'
      · rw [if_neg hc] at h'
        simp only [List.lookup_cons, hx] at h'
        exact ih h'
/-- the names of a comprehension's block: its own (with their places in N), or captured -/
structure BlkOk (N : List Str) (sc scope : Scope) (own : List (Str × Nat)) : Prop where
  kind : scope.kind = .function
  uniq : ∀ y ∈ scope.names, scope.names.lookup y.1 = some y.2
  ix : ∀ p ∈ own, N[p.2]? = some p.1
  free : ∀ y ∈ scope.names, y.2 = .free → sc.names.lookup y.1 = some .cell ∨ sc.names.lookup y.1 = some .free
  own : ∀ y ∈ scope.names, y.2 = .local ∨ y.2 = .cell → y.1 ∈ own.map (·.1) ∨ y.1 ∉ N
/-- the slots of the block's own names forgotten -/
def wipe (σ : St) : List Nat → St
  | [] => σ
  | v :: vs => (wipe σ vs).set v none
theorem wipe_length (σ : St) : ∀ vs : List Nat, (wipe σ vs).length = σ.length
  | [] => rfl
  | v :: vs => by unfold wipe; rw [List.length_set, wipe_length σ vs]
theorem wipe_some {σ : St} {i : Nat} {x : V} : ∀ {vs : List Nat}, (wipe σ vs)[i]? = some (some x) → σ[i]? = some (some x) ∧ i ∉ vs
  | [], h => ⟨h, by simp⟩
  | v :: vs, h => by
    unfold wipe at h
    by_cases hi : v = i
    · subst hi
      by_cases hv : v < (wipe σ vs).length
      · rw [List.getElem?_set_self hv] at h; cases h
      · rw [List.getElem?_eq_none (by simpa using hv)] at h; cases h
    · rw [List.getElem?_set_ne hi] at h
      obtain ⟨h1, h2⟩ := wipe_some h
      exact ⟨h1, by simp only [List.mem_cons, not_or]; exact ⟨fun e => hi e.symm, h2⟩⟩
/-- the context of a block that starts at s, its iterator's objects at fp -/
abbrev Cx.blk (X : Cx) (s : Shared) (H : Hp) (scope : Scope) (cenv : Env) (fp : List Addr) : Cx := { X with s_0 := s, H_0 := H, env := cenv, outer := X.stack, ex := fp, fn := fun x => scope.names.lookup x == some .cell, pn := [], xe := fun _ _ => False }
section
variable {X : Cx} {pins : List (Addr × Obj)} {σ : St} {H : Hp} {s : Shared}
theorem block_start {scope : Scope} {own : List (Str × Nat)} {fp : List Addr} (I : Inv X pins σ H s) (ok : BlkOk X.N X.env.scope scope own) (hN : X.N.Nodup) (hfp : ∀ b ∈ fp, FpOk X pins H b ∧ b < s.heap.objs.size) :
    Inv (X.blk s H scope (compEnvC scope (cellsFrom (s.heap.objs.size + 1) scope.names (cloFrom X.env.cells scope.names [])) s.heap.objs.size X.env) fp) [] (wipe σ (own.map (·.2))) H { s with heap := pushCells (s.heap.push { cls := .type "dict", data := .dict #[] }) scope.names } := by
  have hfree : ∀ y ∈ scope.names, y.2 = .free → ∃ c, X.env.cells.lookup y.1 = some c := fun y hy e => by
    rcases ok.free y hy e with k | k
    · exact I.ok.has _ (.inl k)
    · exact I.ok.has _ (.inr k)
  generalize hcenv : compEnvC scope (cellsFrom (s.heap.objs.size + 1) scope.names (cloFrom X.env.cells scope.names [])) s.heap.objs.size X.env = cenv
  have kp : ∀ b o, s.heap.get? b = some o → (pushCells (s.heap.push { cls := .type "dict", data := .dict #[] }) scope.names).get? b = some o := fun b o e => pushCells_keeps _ _ _ _ (Heap.get?_push_of_some _ e)
  have hL : cenv.locals = s.heap.objs.size := by rw [← hcenv]; rfl
  have hcl : cenv.cells = cellsFrom (s.heap.objs.size + 1) scope.names (cloFrom X.env.cells scope.names []) := by rw [← hcenv]; rfl
  have hsc : cenv.scope = relS scope X.env.scope := by rw [← hcenv]; rfl
  rw [← Heap.size_push s.heap { cls := .type "dict", data := .dict #[] }] at hcl
  have cm : ∀ {y c}, (y, c) ∈ cloFrom X.env.cells scope.names [] → X.env.cells.lookup y = some c ∧ c < s.heap.objs.size := fun {y c} hm => by
    rcases cloFrom_mem hm with hm | ⟨h1, rfl⟩
    · cases hm
    · obtain ⟨c, hc⟩ := hfree _ h1 rfl
      rw [hc]
      obtain ⟨w, z⟩ := I.cell _ _ hc
      exact ⟨rfl, z.lt⟩
  have mem : ∀ {y c}, cenv.cells.lookup y = some c → (X.env.cells.lookup y = some c ∧ c < s.heap.objs.size) ∨ (s.heap.objs.size + 1 ≤ c ∧ CellAt (pushCells (s.heap.push { cls := .type "dict", data := .dict #[] }) scope.names) c none) := fun {y c} e => by
    rw [hcl] at e
    rcases cells_mem (PySem.mem_of_lookup e) with hm | ⟨_, h2, h3⟩
    · exact .inl (cm hm)
    · rw [Heap.size_push] at h2; exact .inr ⟨h2, h3⟩
  have look : ∀ {y}, scope.names.lookup y = some .free → ∃ c, cenv.cells.lookup y = some c ∧ X.env.cells.lookup y = some c := fun {y} hl => by
    have hy : (y, NameKind.free) ∈ scope.names := PySem.mem_of_lookup hl
    obtain ⟨c', e'⟩ := mem_lookup (cells_acc (names := scope.names) (n := (s.heap.push { cls := .type "dict", data := .dict #[] }).objs.size) (cloFrom_has (cells := X.env.cells) (acc := []) hy))
    rw [← hcl] at e'
    refine ⟨c', e', ?_⟩
    rw [hcl] at e'
    rcases cells_mem (PySem.mem_of_lookup e') with hm | ⟨h1, _, _⟩
    · exact (cm hm).1
    · have := ok.uniq _ h1
      rw [hl] at this; cases this
  have okB : (X.blk s H scope cenv fp).Ok := by
    refine ⟨I.ok.mod, by show cenv.scope.kind = _; rw [hsc]; exact ok.kind, by show cenv.globals = _; rw [← hcenv]; exact I.ok.glob, by show cenv.builtins = _; rw [← hcenv]; exact I.ok.blt, by show s.heap.objs.size ≤ cenv.locals; rw [hL]; exact Nat.le_refl _,
      fun y z c e1 e2 => ?_, fun y hy => ?_, fun y c z e => ?_, I.ok.hd, I.ok.frames, .inl rfl, fun b hb => ⟨?_, fun y c e z => ?_⟩, I.bs, Nat.le_trans I.ok.bsz I.sz, fun b o e hb => ?_, fun b hb z => ?_, I.stack, I.stkFree⟩
    · have e1 : cenv.cells.lookup y = some c := e1
      have e2 : cenv.cells.lookup z = some c := e2
      rw [hcl] at e1 e2
      refine cells_inj (fun p hp => ?_) (fun y z c a b => I.ok.inj y z c (cm a).1 (cm b).1) (PySem.mem_of_lookup e1) (PySem.mem_of_lookup e2)
      rw [Heap.size_push]
      exact Nat.lt_succ_of_lt (cm (y := p.1) (c := p.2) hp).2
    · show ∃ c, cenv.cells.lookup y = some c
      have key : ∀ k, cenv.kindOf y = some k → (k = .cell ∨ k = .free) → ∃ c, cenv.cells.lookup y = some c := fun k hk hk' => by
        unfold Env.kindOf at hk
        rw [hsc] at hk
        obtain ⟨k', e, r⟩ := lookup_relS hk
        have : k' = .cell ∨ k' = .free := by
          rcases r with rfl | ⟨rfl, _⟩
          · exact hk'
          · exact .inr rfl
        rcases this with rfl | rfl
        · obtain ⟨c, hm⟩ := cells_has (n := (s.heap.push { cls := .type "dict", data := .dict #[] }).objs.size) (acc := cloFrom X.env.cells scope.names []) (PySem.mem_of_lookup e)
          obtain ⟨c', e'⟩ := mem_lookup hm
          exact ⟨c', by rw [hcl]; exact e'⟩
        · obtain ⟨c, h1, _⟩ := look e
          exact ⟨c, h1⟩
      rcases hy with hy | hy
      · exact key _ hy (.inl rfl)
      · exact key _ hy (.inr rfl)
    · have z : (scope.names.lookup y == some NameKind.cell) = true := z
      have z : scope.names.lookup y = some .cell := by simpa using z
      have e : cenv.cells.lookup y = some c := e
      rw [hcl] at e
      rcases cells_mem (PySem.mem_of_lookup e) with hm | ⟨_, h2, _⟩
      · rcases cloFrom_mem hm with hm | ⟨h1, _⟩
        · cases hm
        · have q := ok.uniq _ h1
          rw [z] at q; cases q
      · rw [Heap.size_push] at h2
        exact Nat.le_of_succ_le h2
    · show b ≠ cenv.locals
      rw [hL]; exact Nat.ne_of_lt (hfp b hb).2
    · have e : cenv.cells.lookup y = some c := e
      rcases mem e with ⟨h1, _⟩ | ⟨h1, _⟩
      · exact (hfp b hb).1.2.2.2.2.1 y c h1 z
      · have h2 : s.heap.objs.size + 1 ≤ b := by rw [← z]; exact h1
        exact absurd (Nat.lt_of_lt_of_le (hfp b hb).2 (Nat.le_of_succ_le h2)) (Nat.lt_irrefl _)
    · rcases (hfp b hb).1.2.2.2.1 with z | z
      · exact I.ok.noex b o e z
      · exact absurd (Nat.lt_of_lt_of_le (Heap.lt_size e) (Nat.le_trans I.ok.bsz z)) (Nat.lt_irrefl _)
    · rcases List.mem_cons.mp (I.stkSub b z) with z | z
      · exact (hfp b hb).1.2.1 z
      · exact (hfp b hb).1.2.2.1 z
  refine ⟨okB, rfl, I.bare.self, Un.kept kp, ⟨fun _ => none, ?_, fun i y av e1 e2 e3 => ?_⟩, fun y c e => ?_, ?_, fun y c e => ?_, fun p hp => ?_, I.hok.kept kp, by rw [wipe_length]; exact I.len⟩
  · show Heap.Ns _ cenv.locals _
    rw [hL]
    exact Heap.Ns.keeps (Heap.Ns.new ..) fun b o e => pushCells_keeps _ _ _ _ e
  · obtain ⟨e2, hne⟩ := wipe_some e2
    have hfr : scope.names.lookup y = some .free ∧ (cenv.kindOf y = some .cell ∨ cenv.kindOf y = some .free) := by
      have key : ∀ k, cenv.scope.names.lookup y = some k → k = .local ∨ k = .cell ∨ k = .free → scope.names.lookup y = some .free ∧ (cenv.kindOf y = some .cell ∨ cenv.kindOf y = some .free) := fun k hk hk' => by
        have hk0 := hk
        rw [hsc] at hk
        obtain ⟨k', e, r⟩ := lookup_relS hk
        have no : ¬ (k' = .local ∨ k' = .cell) := fun hh => by
          rcases ok.own _ (PySem.mem_of_lookup e) hh with e' | e'
          · obtain ⟨p, hp, hpy⟩ := List.mem_map.mp e'
            have e3 := ok.ix p hp
            have : p.1 = y := hpy
            rw [this] at e3
            exact hne (List.mem_map.mpr ⟨p, hp, nodup_ix hN e3 e1⟩)
          · exact e' (List.mem_of_getElem? e1)
        rcases r with rfl | ⟨rfl, rfl⟩
        · rcases hk' with rfl | rfl | rfl
          · exact absurd (.inl rfl) no
          · exact absurd (.inr rfl) no
          · exact ⟨e, .inr hk0⟩
        · exact ⟨e, .inl hk0⟩
      have e3 : Vis cenv.scope y := e3
      rcases e3 with e3 | e3 | e3
      · exact key _ e3 (.inl rfl)
      · exact key _ e3 (.inr (.inl rfl))
      · exact key _ e3 (.inr (.inr rfl))
    obtain ⟨m, hn, hl⟩ := I.loc
    have hvis : Vis X.env.scope y := (ok.free _ (PySem.mem_of_lookup hfr.1) rfl).elim (fun k => .inr (.inl k)) (fun k => .inr (.inr k))
    obtain ⟨w, r, q⟩ := hl i y av e1 e2 hvis
    refine ⟨w, r, .inr ⟨hfr.2, ?_⟩⟩
    obtain ⟨c, h1, h2⟩ := look hfr.1
    rcases q with ⟨k, _⟩ | ⟨_, c', e', z⟩
    · have k : X.env.scope.names.lookup y = some .local := k
      rcases ok.free _ (PySem.mem_of_lookup hfr.1) rfl with k' | k' <;> rw [show X.env.scope.names.lookup y = _ from k'] at k <;> cases k
    · rw [h2] at e'; cases e'
      exact ⟨c, h1, z.keeps kp⟩
  · have e : cenv.cells.lookup y = some c := e
    rcases mem e with ⟨h1, _⟩ | ⟨_, z⟩
    · obtain ⟨w, z⟩ := I.cell y c h1
      exact ⟨w, z.keeps kp⟩
    · exact ⟨_, z⟩
  · show H cenv.locals = none
    rw [hL]; exact I.hok.fresh (Nat.le_refl _)
  · have e : cenv.cells.lookup y = some c := e
    rcases mem e with ⟨h1, _⟩ | ⟨h1, _⟩
    · exact I.freeC y c h1
    · exact I.hok.fresh (Nat.le_of_succ_le h1)
  · exact absurd (show p ∈ ([] : List (Addr × Obj)) ++ [] from hp) (by simp)
/-- an item appended to a tracked list -/
theorem app_ok {E : Value → Shared → Prop} {D : Addr} {xs : List V} {y : V} {v : Value} {Q : Value → Shared → Prop} (I : Inv X pins σ H s) (hD : H D = some (.lst xs)) (hz : xs.length < sizeLine) (r : RelV y v)
    (h : ∀ s', Inv X pins σ (upd H D (.lst (xs ++ [y]))) s' → Q .none s') : wpAny (model X.prog X.w) X.A (call (.builtin "list.append") [.ref D, v]) Q E s := by
  obtain ⟨hz', its, n, ri, e⟩ := I.hok D _ hD
  have hl := ri.length
  refine append_at (hsz := by rw [List.size_toArray]; omega) e fun h' sb ho' => ?_
  refine h { s with heap := h' } (I.write (t' := s.toks) (by rw [hD]; trivial) (.inl rfl) (fun b u hb q => (sb.2 b hb).trans q) ⟨_, ho'⟩ ⟨by rw [List.length_append]; exact hz, its ++ [v], n + 1, ri.append (.cons r .nil), ?_⟩)
  rw [ho']
  simp
/-- a clause's tests -/
def PTs (X : Cx) (ifs : List Expr) (t : TT) : Prop :=
  ∀ ⦃pins : List (Addr × Obj)⦄ (s : Shared) (σ : St) (H : Hp) (Q : Bool → Hp → Prop), Inv X pins σ H s → t σ H Q →
    wpAny (model X.prog X.w) X.A (forIn ifs true fun c r => if r = true then do let ok ← isTrue c X.env (eval c X.env); pure (ForInStep.yield ok) else pure (ForInStep.yield r)) (TP X pins σ Q) X.xe s
def tYes : TT := fun _ H Q => Q true H
theorem pts_nil : PTs X [] tYes := fun _ _ _ H _ I h => wpAny_tests_nil ⟨H, I, h⟩
theorem pts_one {c : Expr} {t : TT} (h : PT X c t) : PTs X [c] t := fun pins s σ H Q I hw => wpAny_tests_one (h s σ H Q I hw)
end
theorem thnF {α : Type} {t : Sem α} {Q Q' : α → Shared → Prop} {M : Model} {A : Around} {E : Value → Shared → Prop} {s : Shared} (h : wpAny M A t Q (fun _ _ => False) s) (hQ : ∀ a s, Q a s → Q' a s) : wpAny M A t Q' E s := wpAny_mono h hQ fun _ _ z => False.elim z
/-- the loop of a list comprehension's block, the target of any form (codeAny_compLoop_tests asks a target that no tuple goes to; statement and proof follow it, PyProof/CompMap.lean:41-61, with the step letOwnedTupleGo kept) -/
theorem compLoop_any {prog : Program} {w : World} {A : Around} {R : Result → Shared → Prop} {s : Shared} {elt target iter : Expr} {ifs : List Expr} {scope : Scope} {pos : Pos} {it acc : Value} {env : Env} (I : Nat → Shared → Prop)
    (turn : ∀ n s, I n s → wpAny (model prog w) A (pyNext it) (fun r s₁ => match r with
      | none => R (.ok .next) s₁
      | some v => wpAny (model prog w) A (letOwnedTupleGo target it v) (fun _ s₁' => wpAny (model prog w) A (assign target env v) (fun _ s₂ =>
          wpAny (model prog w) A (forIn ifs true fun c r => if r = true then do let ok ← isTrue c env (eval c env); pure (ForInStep.yield ok) else pure (ForInStep.yield r)) (fun ok s₃ =>
            if ok = true then wpAny (model prog w) A (eval elt env) (fun x s₄ =>
              wpAny (model prog w) A (call (.builtin "list.append") [acc, x]) (fun _ s₅ => ∃ m, m < n ∧ I m s₅) (notedBy (model prog w) A env fun e s' => R (.error e) s') s₄) (notedBy (model prog w) A env fun e s' => R (.error e) s') s₃
            else ∃ m, m < n ∧ I m s₃) (notedBy (model prog w) A env fun e s' => R (.error e) s') s₂) (notedBy (model prog w) A env fun e s' => R (.error e) s') s₁') (notedBy (model prog w) A env fun e s' => R (.error e) s') s₁) (notedBy (model prog w) A env fun e s' => R (.error e) s') s)
    (n : Nat) (h : I n s) :
    codeAny (model prog w) A (.compLoop (.ListComp elt [⟨target, iter, ifs, 0⟩] scope pos) 0 it acc env) R s := by
  refine codeAny_loop rfl I (fun n s hI => ?_) n h
  show wpAny _ A ((compTurn (.ListComp elt [⟨target, iter, ifs, 0⟩] scope pos) 0 it acc env).onRaise (fun x => do noteFrame x env; theTreesLotGoes x)) _ _ s
  refine wpAny_noted ?_
  rw [compTurn_list]
  refine wpAny_bind (wpAny_standAt (wpAny_bind (wpAny_mono (turn n s hI) (fun r s₁ h₁ => ?_) fun _ _ h' => h')))
  cases r with
  | none => exact wpAny_pure h₁
  | some v =>
    refine wpAny_bind (wpAny_mono h₁ (fun _ s₁' h₁' => ?_) fun _ _ h' => h')
    refine wpAny_bind (wpAny_mono h₁' (fun _ s₂ h₂ => wpAny_bind (wpAny_mono h₂ (fun ok s₃ h₃ => ?_) fun _ _ h' => h')) fun _ _ h' => h')
    cases ok with
    | false => exact wpAny_pure ⟨rfl, h₃⟩
    | true =>
      exact wpAny_bind (wpAny_bind (wpAny_mono h₃ (fun x s₄ h₄ => wpAny_bind (wpAny_mono h₄ (fun _ s₅ h₅ => wpAny_pure (wpAny_pure ⟨rfl, h₅⟩)) fun _ _ h' => h')) fun _ _ h' => h'))
section
variable {X : Cx}
/-- [elt for target in iter if ..]: D the new list; W by the turn and a measure, Nx what a turn is to reach -/
def tLc (wi : TI) (g : TG) (tt : TT) (te : TE) (vs : List Nat) : TE := fun σ H Q => wi σ H fun J H1 => ∀ D, H1 D = none → ∃ W : Nat → Nat → Hp → Prop, (∃ m, W 0 m (upd H1 D (.lst []))) ∧ ∀ i m H, W i m H →
  (J.stop i H ∧ Q (.ref D) H) ∨ (J.go i H ∧ ∃ Nx : Hp → Prop, (∀ H', Nx H' → ∃ m', m' < m ∧ W (i + 1) m' H') ∧ ∀ x H', J.yld i H x H' → g x (wipe σ vs) H' fun σ2 H2 => wipe σ2 vs = wipe σ vs ∧ tt σ2 H2 fun b H3 =>
    if b = true then te σ2 H3 fun y H4 => ∃ acc, H4 D = some (.lst acc) ∧ acc.length < sizeLine ∧ Nx (upd H4 D (.lst (acc ++ [y]))) else Nx H3)
theorem lc_core {pins : List (Addr × Obj)} {s : Shared} {σ : St} {H : Hp} {Q : VK} {elt tg iter : Expr} {ifs : List Expr} {scope : Scope} {own : List (Str × Nat)} {pos pos' : Pos} {wi : TI} {g : TG} {tt : TT} {te : TE} {use : Option (Value → Sem Unit)} {Qf : Value → Shared → Prop}
    (hc : X.calm = true) (hN : X.N.Nodup) (I : Inv X pins σ H s) (hi : PI X tg iter wi) (ok : BlkOk X.N X.env.scope scope own)
    (hg : ∀ (s : Shared) (H : Hp) (C : Addr) (cl : List (Str × Addr)) (fp : List Addr), PG (X.blk s H scope (compEnvC scope cl C X.env) fp) tg g) (ht : ∀ (s : Shared) (H : Hp) (C : Addr) (cl : List (Str × Addr)) (fp : List Addr), PTs (X.blk s H scope (compEnvC scope cl C X.env) fp) ifs tt)
    (he : ∀ (s : Shared) (H : Hp) (C : Addr) (cl : List (Str × Addr)) (fp : List Addr), PE (X.blk s H scope (compEnvC scope cl C X.env) fp) elt te) (hs : ∀ x, foldedSetIterable iter X.env x = pure x)
    (h : tLc wi g tt te (own.map (·.2)) σ H Q)
    (hRR : ∀ D C s' m H', Inv X pins σ H' s' → Q (.ref D) H' → s'.heap.Ns C m → FpOk X pins H' C → compPost (model X.prog X.w) X.A X.xe use Qf (.ref D) C (.ok .next) s') :
    wpAny (model X.prog X.w) X.A (comprehension (.ListComp elt [⟨tg, iter, ifs, 0⟩] scope pos) scope X.env pos' (newList []) false (eval iter X.env) use) Qf X.xe s := by
  have hfree : ∀ y ∈ scope.names, y.2 = .free → ∃ c, X.env.cells.lookup y.1 = some c := fun y hy e => by
    rcases ok.free y hy e with k | k
    · exact I.ok.has _ (.inl k)
    · exact I.ok.has _ (.inr k)
  refine wpAny_comprehension_free (use := use) rfl hs (closure_ok hfree) ok.kind (fun y hy e => by rw [ok.uniq y hy, e])
    (thn (hi s σ H _ I h) fun xv s1 hx => thn hx fun itv s2 h2 => ?_)
  obtain ⟨it, fp, tn, J, H2, e, I2, T, st2, f2, q⟩ := h2
  subst e
  refine wpAny_newObj_type (newEnv_comp ?_) (by show 0 ≤ sizeLine; decide)
  generalize hD : s2.heap.objs.size = D
  have hDn : H2 D = none := I2.hok.fresh (Nat.le_of_eq hD)
  obtain ⟨W, ⟨m0, w0⟩, turn⟩ := q D hDn
  -- the new list
  generalize hs3 : ({ s2 with heap := s2.heap.push { cls := .type "list", data := .seq ([] : List Value).toArray } } : Shared) = s3
  have I3 : Inv X pins σ (upd H2 D (.lst [])) s3 := by
    rw [← hs3]
    refine I2.laid (t' := s2.toks) (fun b o e => Heap.get?_push_of_some _ e) (Nat.le_of_eq hD) ⟨Nat.zero_le _, [], 0, .nil, ?_⟩
    rw [← hD]
    exact Heap.get?_push_size _ rfl
  have h3 : s3.heap = s2.heap.push { cls := .type "list", data := .seq ([] : List Value).toArray } := by rw [← hs3]
  have sz : ∀ b ∈ fp, b < s2.heap.objs.size := fun b hb => by
    obtain ⟨o, e, _⟩ := T.obj _ _ st2 b hb
    exact Heap.lt_size e
  have f3 : ∀ b ∈ fp, FpOk X pins (upd H2 D (.lst [])) b ∧ b < s3.heap.objs.size := fun b hb => by
    have hlt := sz b hb
    refine ⟨⟨?_, (f2 b hb).2⟩, by rw [h3, Heap.size_push]; exact Nat.lt_succ_of_lt hlt⟩
    rw [upd_ne (by rw [← hD]; exact Nat.ne_of_lt hlt)]
    exact (f2 b hb).1
  have st3 : tn 0 s3.heap := T.keep _ _ _ st2 fun b _ o e => by rw [h3]; exact Heap.get?_push_of_some _ e
  have I4 := block_start I3 ok hN f3
  have pg := hg s3 (upd H2 D (.lst [])) s3.heap.objs.size (cellsFrom (s3.heap.objs.size + 1) scope.names (cloFrom X.env.cells scope.names [])) fp
  have pt := ht s3 (upd H2 D (.lst [])) s3.heap.objs.size (cellsFrom (s3.heap.objs.size + 1) scope.names (cloFrom X.env.cells scope.names [])) fp
  have pe := he s3 (upd H2 D (.lst [])) s3.heap.objs.size (cellsFrom (s3.heap.objs.size + 1) scope.names (cloFrom X.env.cells scope.names [])) fp
  show codeAny _ _ (.compStart (.ListComp elt [⟨tg, iter, ifs, 0⟩] scope pos) 0 (.ref it) (.ref D) (compEnvC scope (cellsFrom (s3.heap.objs.size + 1) scope.names (cloFrom X.env.cells scope.names [])) s3.heap.objs.size X.env)) (compPost (model X.prog X.w) X.A X.xe use Qf (.ref D) s3.heap.objs.size) { s3 with heap := pushCells (s3.heap.push { cls := .type "dict", data := .dict #[] }) scope.names }
  have nfp : ∀ b ∈ fp, (upd H2 D (.lst [])) b = none := fun b hb => (f3 b hb).1.1
  generalize hce : compEnvC scope (cellsFrom (s3.heap.objs.size + 1) scope.names (cloFrom X.env.cells scope.names [])) s3.heap.objs.size X.env = ce at I4 pg pt pe ⊢
  have cL : ce.locals = s3.heap.objs.size := by subst hce; rfl
  generalize hH3 : upd H2 D (.lst []) = H3 at I3 I4 pg pt pe w0 nfp f3
  generalize hs4 : ({ s3 with heap := pushCells (s3.heap.push { cls := .type "dict", data := .dict #[] }) scope.names } : Shared) = s4 at I4 ⊢
  have st4 : tn 0 s4.heap := T.keep _ _ _ st3 fun b _ o e => by rw [← hs4]; exact pushCells_keeps _ _ _ _ (Heap.get?_push_of_some _ e)
  have stat : ∀ {σ' : St} {H' : Hp} {s' : Shared}, Inv (X.blk s3 H3 scope ce fp) [] σ' H' s' → (∀ b ∈ fp, H' b = none) → ∀ b ∈ fp, FpOk (X.blk s3 H3 scope ce fp) [] H' b := fun {σ' H' s'} I' hn b hb =>
    ⟨hn b hb, (I'.ok.exf b hb).1, I'.ok.exfs b hb, .inl hb, fun x c e => (I'.ok.exf b hb).2 x c e, fun p hp => absurd (show p ∈ ([] : List (Addr × Obj)) ++ [] from hp) (by simp)⟩
  have loop : codeAny (model X.prog X.w) X.A (.compLoop (.ListComp elt [⟨tg, iter, ifs, 0⟩] scope pos) 0 (.ref it) (.ref D) ce) (compPost (model X.prog X.w) X.A X.xe use Qf (.ref D) s3.heap.objs.size) s4 := by
    refine compLoop_any (fun n s' => ∃ i H', Inv (X.blk s3 H3 scope ce fp) [] (wipe σ (own.map (·.2))) H' s' ∧ tn i s'.heap ∧ (∀ b ∈ fp, H' b = none) ∧ W i n H') ?_ m0 ⟨0, H3, I4, st4, nfp, w0⟩
    rintro n s5 ⟨i, H5, I5, st5, n5, w5⟩
    rcases turn i n H5 w5 with ⟨stop, qq⟩ | ⟨go, Nx, hNx, step⟩
    · have td := T.done (X.blk s3 H3 scope ce fp) rfl rfl rfl hc i s5 _ H5 (fun _ _ => False) I5 (stat I5 n5) st5 stop
      refine thnF td fun r s6 ⟨hr, I6⟩ => ?_
      subst hr
      -- back in the def's context
      have I7 : Inv X pins σ H5 s6 := I3.call' (ch := fp) I6.os I6.base I6.hok I6.bare fun b hb => ⟨(f3 b hb).1.2.2.2.1, (f3 b hb).1.2.1, (f3 b hb).1.2.2.2.2.1, (f3 b hb).1.2.2.2.2.2⟩
      have nC : H5 s3.heap.objs.size = none := by
        have z : H5 ce.locals = none := I6.free
        rw [cL] at z
        exact z
      obtain ⟨m, hn, _⟩ := I6.loc
      have hn : s6.heap.Ns ce.locals m := hn
      rw [cL] at hn
      exact hRR D s3.heap.objs.size s6 m H5 I7 qq hn (I3.fpOk (Nat.le_refl _) nC)
    · have ti := T.item (X.blk s3 H3 scope ce fp) rfl rfl rfl hc i s5 _ H5 (fun _ _ => False) I5 (stat I5 n5) st5 go
      refine thnF ti fun r s6 ⟨u, hr, h6⟩ => ?_
      subst hr
      refine thnF h6 fun _ s7 ⟨x, H7, I7, r7, y7, st7, n7⟩ => ?_
      have I7' := I7.pinned (stat I7 n7) (T.obj _ _ st7)
      refine thnF (pg s7 _ H7 x u _ I7' r7 (step x H7 y7)) fun _ s8 ⟨σ8, H8, I8, hw8, q8⟩ => ?_
      refine thnF (pt s8 σ8 H8 _ I8 q8) fun b s9 ⟨H9, I9, q9⟩ => ?_
      -- the turn's end
      have fin : ∀ {s' : Shared} {H' : Hp}, Inv (X.blk s3 H3 scope ce fp) ([] ++ pinsAt fp s7.heap) σ8 H' s' → Nx H' → ∃ m, m < n ∧ ∃ i H', Inv (X.blk s3 H3 scope ce fp) [] (wipe σ (own.map (·.2))) H' s' ∧ tn i s'.heap ∧ (∀ b ∈ fp, H' b = none) ∧ W i m H' := fun {s' H'} I' nx => by
        obtain ⟨m', hm, w'⟩ := hNx H' nx
        have pin' : ∀ b ∈ fp, ∀ o, s7.heap.get? b = some o → s'.heap.get? b = some o ∧ H' b = none := fun b hb o e =>
          let z := I'.pin (b, o) (List.mem_append_right _ (List.mem_append_right _ (mem_pinsAt hb e)))
          ⟨z.1, z.2.1⟩
        have hl : (wipe σ (own.map (·.2))).length = σ8.length := by rw [← hw8, wipe_length]
        refine ⟨m', hm, i + 1, H', (I'.unpinned (pins := [])).weak hl (fun j v e => ?_), T.keep _ _ _ st7 fun b hb o e => (pin' b hb o e).1, fun b hb => ?_, w'⟩
        · rw [← hw8] at e
          exact (wipe_some e).1
        · obtain ⟨o, e, _⟩ := T.obj _ _ st7 b hb
          exact (pin' b hb o e).2
      cases b with
      | false =>
        simp only [Bool.false_eq_true, if_false] at q9 ⊢
        exact fin I9 q9
      | true =>
        simp only [if_true] at q9 ⊢
        refine thnF (pe s9 σ8 H9 _ I9 q9) fun z s10 ⟨yv, H10, I10, r10, acc, hD10, hz10, nx⟩ => ?_
        exact app_ok (X := X.blk s3 H3 scope ce fp) I10 hD10 hz10 r10 fun s11 I11 => fin I11 nx
  exact codeAny_compStart_list loop (T.self X.A 0 _ _ _ st4 loop)
/-- as a value -/
theorem pe_lc {elt tg iter : Expr} {ifs : List Expr} {scope : Scope} {own : List (Str × Nat)} {pos : Pos} {wi : TI} {g : TG} {tt : TT} {te : TE} (hc : X.calm = true) (hN : X.N.Nodup) (hi : PI X tg iter wi) (ok : BlkOk X.N X.env.scope scope own)
    (hg : ∀ (s : Shared) (H : Hp) (C : Addr) (cl : List (Str × Addr)) (fp : List Addr), PG (X.blk s H scope (compEnvC scope cl C X.env) fp) tg g) (ht : ∀ (s : Shared) (H : Hp) (C : Addr) (cl : List (Str × Addr)) (fp : List Addr), PTs (X.blk s H scope (compEnvC scope cl C X.env) fp) ifs tt)
    (he : ∀ (s : Shared) (H : Hp) (C : Addr) (cl : List (Str × Addr)) (fp : List Addr), PE (X.blk s H scope (compEnvC scope cl C X.env) fp) elt te) (hs : ∀ x, foldedSetIterable iter X.env x = pure x := by intro _; rfl) :
    PE X (.ListComp elt [⟨tg, iter, ifs, 0⟩] scope pos) (tLc wi g tt te (own.map (·.2))) := by
  intro pins s σ H Q I h
  rw [eval_ListComp]
  refine lc_core hc hN I hi ok hg ht he hs h fun D C s' m H' I' q hn f => ⟨m, hn, fun h'' sb => ?_⟩
  obtain ⟨f0, f1, f2, f3, f4, f5⟩ := f
  exact ⟨.ref D, H', I'.turned (t' := s'.toks) (fun b o hb e => (sb.2 b hb).trans e) f0 f1 f3 f4 f5, rfl, q⟩
/-- name = [..] on one line, the name a local -/
theorem ps_setLc {i : Nat} {y : Str} {py : Pos} {elt tg iter : Expr} {ifs : List Expr} {scope : Scope} {own : List (Str × Nat)} {pos spos : Pos} {wi : TI} {g : TG} {tt : TT} {te : TE} (hc : X.calm = true) (hN : X.N.Nodup) (hy : X.N[i]? = some y) (hyl : X.env.scope.names.lookup y = some .local)
    (hsw : swapsWith (.ListComp elt [⟨tg, iter, ifs, 0⟩] scope pos) (some (.Name y py)) spos.line X.env = pure true) (hi : PI X tg iter wi) (ok : BlkOk X.N X.env.scope scope own)
    (hg : ∀ (s : Shared) (H : Hp) (C : Addr) (cl : List (Str × Addr)) (fp : List Addr), PG (X.blk s H scope (compEnvC scope cl C X.env) fp) tg g) (ht : ∀ (s : Shared) (H : Hp) (C : Addr) (cl : List (Str × Addr)) (fp : List Addr), PTs (X.blk s H scope (compEnvC scope cl C X.env) fp) ifs tt)
    (he : ∀ (s : Shared) (H : Hp) (C : Addr) (cl : List (Str × Addr)) (fp : List Addr), PE (X.blk s H scope (compEnvC scope cl C X.env) fp) elt te) (hs : ∀ x, foldedSetIterable iter X.env x = pure x := by intro _; rfl) :
    PS X (.Assign [.Name y py] (.ListComp elt [⟨tg, iter, ifs, 0⟩] scope pos) spos) (tAsg (tLc wi g tt te (own.map (·.2))) (gName i)) := by
  intro pins s σ H D I h
  rw [exec_Assign_Name_used _ _ _ _ hsw]
  refine wpAny_bind (wpAny_standAt (wpAny_bind ?_))
  show wpAny _ X.A (do let _ ← comprehension (.ListComp elt [⟨tg, iter, ifs, 0⟩] scope pos) scope X.env (firstIterPos [⟨tg, iter, ifs, 0⟩] pos) (newList []) false (eval iter X.env) (some (assign (.Name y py) X.env))) _ _ s
  have h : tLc wi g tt te (own.map (·.2)) σ H (fun x H1 => gName i x σ H1 D.nx) := h
  refine wpAny_bind (thn (lc_core (Qf := fun _ s' => SP X pins D .next s') hc hN I hi ok hg ht he hs h fun L C s' m H' I' q hn f => ?_) fun _ s' hq => wpAny_pure (wpAny_pure hq))
  show wpAny _ _ (assign (.Name y py) X.env (.ref L)) _ _ _
  refine wpAny_assign_Name (store_ok2 (v := V.ref L) I' hN hy (.inl hyl) rfl (fun s2 I2 ⟨a, sb, ha⟩ => ?_) (.inr hyl))
  obtain ⟨f0, f1, f2, f3, f4, f5⟩ := f
  have haC : C ≠ a := by
    rcases ha with z | z
    · rw [z]; exact f1
    · exact fun e => f4 y a z e.symm
  refine ⟨m, hn.sameBut sb haC, fun h3 sb3 => ?_⟩
  exact ⟨_, H', I2.turned (t' := s2.toks) (fun b o hb e => (sb3.2 b hb).trans e) f0 f1 f3 f4 f5, q⟩
theorem sw_true {elt : Expr} {gs : List Comprehension} {scope : Scope} {pos py : Pos} {y : Str} {l : Nat} {env : Env} (hk : env.scope.kind = .function) (hy : env.scope.names.lookup y = some .local) (hl : (py.line == pos.line) = true)
    (ha : (scope.names.any fun (n, k) => n == y && (k == .local || k == .cell)) = false) : swapsWith (.ListComp elt gs scope pos) (some (.Name y py)) l env = pure true := by
  have ky : env.kindOf y = some .local := hy
  have hb : env.blockKind = .function := by unfold Env.blockKind; rw [hk]; rfl
  unfold swapsWith
  simp only [hb, ky, ha, Expr.pos, hl]
  rfl
end
/-- over a range: Pv by the turn and the heap (the new list at D within) -/
theorem lc_range {lo : Int} {n : Nat} {g : TG} {tt : TT} {te : TE} {vs : List Nat} {σ : St} {H1 : Hp} {D : Addr} {Qd : Hp → Prop} (Pv : Nat → Hp → Prop) (h0 : Pv 0 (upd H1 D (.lst [])))
    (hs : ∀ i H, i < n → Pv i H → g (.int (lo + i)) (wipe σ vs) H fun σ2 H2 => wipe σ2 vs = wipe σ vs ∧ tt σ2 H2 fun b H3 =>
      if b = true then te σ2 H3 fun y H4 => ∃ acc, H4 D = some (.lst acc) ∧ acc.length < sizeLine ∧ Pv (i + 1) (upd H4 D (.lst (acc ++ [y]))) else Pv (i + 1) H3) (hd : ∀ H, Pv n H → Qd H) :
    ∃ W : Nat → Nat → Hp → Prop, (∃ m, W 0 m (upd H1 D (.lst []))) ∧ ∀ i m H, W i m H →
      ((Itr lo n).stop i H ∧ Qd H) ∨ ((Itr lo n).go i H ∧ ∃ Nx : Hp → Prop, (∀ H', Nx H' → ∃ m', m' < m ∧ W (i + 1) m' H') ∧ ∀ x H', (Itr lo n).yld i H x H' → g x (wipe σ vs) H' fun σ2 H2 => wipe σ2 vs = wipe σ vs ∧ tt σ2 H2 fun b H3 =>
        if b = true then te σ2 H3 fun y H4 => ∃ acc, H4 D = some (.lst acc) ∧ acc.length < sizeLine ∧ Nx (upd H4 D (.lst (acc ++ [y]))) else Nx H3) := by
  refine ⟨fun i m H => m = n - i ∧ i ≤ n ∧ Pv i H, ⟨n, by simp, Nat.zero_le _, h0⟩, ?_⟩
  rintro i m H ⟨rfl, hi, p⟩
  by_cases hlt : i < n
  · refine .inr ⟨hlt, Pv (i + 1), fun H' p' => ⟨n - (i + 1), by omega, rfl, hlt, p'⟩, fun x H' y => ?_⟩
    obtain ⟨e, y⟩ := y
    subst e y
    exact hs i _ hlt p
  · have e : i = n := by omega
    subst e
    exact .inl ⟨Nat.le_refl _, hd H p⟩
/-- over a list that the block leaves as it is -/
theorem lc_list {K : PySem.W.Frag} {a : Addr} {xs : List V} {g : TG} {tt : TT} {te : TE} {vs : List Nat} {σ : St} {H1 : Hp} {D : Addr} {Qd : Hp → Prop} (Pv : Nat → Hp → Prop) (h0 : Pv 0 (upd H1 D (.lst []))) (hl : ∀ i H, i ≤ xs.length → Pv i H → SqL K H a xs)
    (hs : ∀ i x H, xs[i]? = some x → Pv i H → g x (wipe σ vs) H fun σ2 H2 => wipe σ2 vs = wipe σ vs ∧ tt σ2 H2 fun b H3 =>
      if b = true then te σ2 H3 fun y H4 => ∃ acc, H4 D = some (.lst acc) ∧ acc.length < sizeLine ∧ Pv (i + 1) (upd H4 D (.lst (acc ++ [y]))) else Pv (i + 1) H3) (hd : ∀ H, Pv xs.length H → Qd H) :
    ∃ W : Nat → Nat → Hp → Prop, (∃ m, W 0 m (upd H1 D (.lst []))) ∧ ∀ i m H, W i m H →
      ((Itl K a).stop i H ∧ Qd H) ∨ ((Itl K a).go i H ∧ ∃ Nx : Hp → Prop, (∀ H', Nx H' → ∃ m', m' < m ∧ W (i + 1) m' H') ∧ ∀ x H', (Itl K a).yld i H x H' → g x (wipe σ vs) H' fun σ2 H2 => wipe σ2 vs = wipe σ vs ∧ tt σ2 H2 fun b H3 =>
        if b = true then te σ2 H3 fun y H4 => ∃ acc, H4 D = some (.lst acc) ∧ acc.length < sizeLine ∧ Nx (upd H4 D (.lst (acc ++ [y]))) else Nx H3) := by
  refine ⟨fun i m H => m = xs.length - i ∧ i ≤ xs.length ∧ Pv i H, ⟨xs.length, by simp, Nat.zero_le _, h0⟩, ?_⟩
  rintro i m H ⟨rfl, hi, p⟩
  have q := hl i H hi p
  by_cases hlt : i < xs.length
  · refine .inr ⟨⟨xs, xs[i], q, by simp [hlt]⟩, Pv (i + 1), fun H' p' => ⟨xs.length - (i + 1), by omega, rfl, hlt, p'⟩, fun x H' y => ?_⟩
    obtain ⟨e, y⟩ := y
    subst e
    exact hs i x _ (y xs q) p
  · have e : i = xs.length := by omega
    subst e
    exact .inl ⟨⟨xs, q, Nat.le_refl _⟩, hd H p⟩
/-- over a tuple -/
theorem lc_tup {K : PySem.W.Frag} {a : Addr} {xs : List V} {g : TG} {tt : TT} {te : TE} {vs : List Nat} {σ : St} {H1 : Hp} {D : Addr} {Qd : Hp → Prop} (Pv : Nat → Hp → Prop) (h0 : Pv 0 (upd H1 D (.lst []))) (hl : ∀ i H, i ≤ xs.length → Pv i H → SqT K H a xs)
    (hs : ∀ i x H, xs[i]? = some x → Pv i H → g x (wipe σ vs) H fun σ2 H2 => wipe σ2 vs = wipe σ vs ∧ tt σ2 H2 fun b H3 =>
      if b = true then te σ2 H3 fun y H4 => ∃ acc, H4 D = some (.lst acc) ∧ acc.length < sizeLine ∧ Pv (i + 1) (upd H4 D (.lst (acc ++ [y]))) else Pv (i + 1) H3) (hd : ∀ H, Pv xs.length H → Qd H) :
    ∃ W : Nat → Nat → Hp → Prop, (∃ m, W 0 m (upd H1 D (.lst []))) ∧ ∀ i m H, W i m H →
      ((Itt K a).stop i H ∧ Qd H) ∨ ((Itt K a).go i H ∧ ∃ Nx : Hp → Prop, (∀ H', Nx H' → ∃ m', m' < m ∧ W (i + 1) m' H') ∧ ∀ x H', (Itt K a).yld i H x H' → g x (wipe σ vs) H' fun σ2 H2 => wipe σ2 vs = wipe σ vs ∧ tt σ2 H2 fun b H3 =>
        if b = true then te σ2 H3 fun y H4 => ∃ acc, H4 D = some (.lst acc) ∧ acc.length < sizeLine ∧ Nx (upd H4 D (.lst (acc ++ [y]))) else Nx H3) := by
  refine ⟨fun i m H => m = xs.length - i ∧ i ≤ xs.length ∧ Pv i H, ⟨xs.length, by simp, Nat.zero_le _, h0⟩, ?_⟩
  rintro i m H ⟨rfl, hi, p⟩
  have q := hl i H hi p
  by_cases hlt : i < xs.length
  · refine .inr ⟨⟨xs, xs[i], q, by simp [hlt]⟩, Pv (i + 1), fun H' p' => ⟨xs.length - (i + 1), by omega, rfl, hlt, p'⟩, fun x H' y => ?_⟩
    obtain ⟨e, y⟩ := y
    subst e
    exact hs i x _ (y xs q) p
  · have e : i = xs.length := by omega
    subst e
    exact .inl ⟨⟨xs, q, Nat.le_refl _⟩, hd H p⟩
def blkC (N : List Str) (sc scope : Scope) (own : List (Str × Nat)) : Bool :=
  (match scope.kind with | .function => true | _ => false) && (scope.names.all fun y => decide (scope.names.lookup y.1 = some y.2)) && (own.all fun p => decide (N[p.2]? = some p.1)) &&
    (scope.names.all fun y => match y.2 with
      | .free => (match sc.names.lookup y.1 with | some .cell => true | some .free => true | _ => false)
      | .local => decide (y.1 ∈ own.map (·.1)) || decide (y.1 ∉ N)
      | .cell => decide (y.1 ∈ own.map (·.1)) || decide (y.1 ∉ N)
      | _ => true)
theorem blkOk_by {N : List Str} {sc scope : Scope} {own : List (Str × Nat)} (h : blkC N sc scope own = true) : BlkOk N sc scope own := by
  unfold blkC at h
  simp only [Bool.and_eq_true, List.all_eq_true, decide_eq_true_eq] at h
  obtain ⟨⟨⟨h1, h2⟩, h3⟩, h4⟩ := h
  refine ⟨?_, h2, h3, fun y hy e => ?_, fun y hy e => ?_⟩
  · split at h1
    · assumption
    · cases h1
  · have q := h4 y hy
    simp only [e] at q
    split at q <;> first | exact .inl (by assumption) | exact .inr (by assumption) | cases q
  · have q := h4 y hy
    rcases e with e | e <;> (simp only [e, Bool.or_eq_true, decide_eq_true_eq] at q; exact q)
end L2
namespace L2
open PySem PySem.Spec PyProof.Rows
section
variable {prog : Program} {w : World} {A : Around} {R : Result → Shared → Prop} {s : Shared} {elt t0 i0 t1 i1 : Expr} {ifs0 ifs1 : List Expr} {scope : Scope} {pos : Pos} {it acc : Value} {env : Env}
end
section
variable {X : Cx}
end
end L2
namespace L2
open PySem PySem.Spec PyProof.Rows
section
variable {κ : Type} [DecidableEq κ]
def valV (kvs : List (κ × V)) (k : κ) : Option V := (kvs.find? fun kv => decide (kv.1 = k)).map (·.2)
/-- in its place, or at the end -/
def putK (kvs : List (κ × V)) (k : κ) (v : V) : List (κ × V) :=
  if (kvs.any fun kv => decide (kv.1 = k)) = true then kvs.map (fun kv => if kv.1 = k then (kv.1, v) else kv) else kvs ++ [(k, v)]
def dropK (kvs : List (κ × V)) (k : κ) : List (κ × V) := kvs.filter fun kv => decide (kv.1 ≠ k)
theorem valV_pos {p : κ × V} {r : List (κ × V)} {k : κ} (e : p.1 = k) : valV (p :: r) k = some p.2 := by simp [valV, List.find?_cons, e]
theorem valV_neg {p : κ × V} {r : List (κ × V)} {k : κ} (e : ¬ p.1 = k) : valV (p :: r) k = valV r k := by simp [valV, List.find?_cons, e]
theorem valV_any (k : κ) : ∀ kvs : List (κ × V), (kvs.any fun kv => decide (kv.1 = k)) = (valV kvs k).isSome
  | [] => rfl
  | p :: r => by
    rw [List.any_cons]
    by_cases e : p.1 = k
    · simp only [valV_pos e, decide_eq_true e, Bool.true_or, Option.isSome_some]
    · rw [valV_neg e, decide_eq_false e, Bool.false_or]; exact valV_any k r
theorem length_putK (kvs : List (κ × V)) (k : κ) (v : V) : (putK kvs k v).length ≤ kvs.length + 1 := by
  unfold putK
  split
  · rw [List.length_map]; omega
  · rw [List.length_append, List.length_cons, List.length_nil]; omega
theorem RelO.isSome_eq {o : Option V} {u : Option Value} (r : RelO o u) : o.isSome = u.isSome := by
  cases o with
  | none => cases u with
    | none => rfl
    | some _ => exact (show False from r).elim
  | some _ => cases u with
    | none => exact (show False from r).elim
    | some _ => rfl
theorem RelO.getD {o : Option V} {u : Option Value} {d : V} {d' : Value} (r : RelO o u) (rd : RelV d d') : RelV (o.getD d) (u.getD d') := by
  cases o with
  | none => cases u with
    | none => exact rd
    | some _ => exact (show False from r).elim
  | some _ => cases u with
    | none => exact (show False from r).elim
    | some _ => exact r
/-- raw tables of the same keys -/
theorem KV.val {kvs : List (κ × V)} {vs : List (κ × Value)} (r : KV kvs vs) (k : κ) : RelO (valV kvs k) (valueAt vs k) := by
  unfold KV at r
  induction r with
  | nil => exact True.intro
  | @cons p q ps qs h t ih =>
    obtain ⟨h1, h2⟩ := h
    by_cases e : p.1 = k
    · have e' : q.1 = k := h1.symm.trans e
      have b : valueAt (q :: qs) k = some q.2 := by simp [valueAt, List.find?_cons, e']
      rw [valV_pos e, b]; exact h2
    · have e' : ¬ q.1 = k := fun z => e (h1.trans z)
      have b : valueAt (q :: qs) k = valueAt qs k := by simp [valueAt, List.find?_cons, e']
      rw [valV_neg e, b]; exact ih
theorem KV.any {kvs : List (κ × V)} {vs : List (κ × Value)} (r : KV kvs vs) (k : κ) : (kvs.any fun kv => decide (kv.1 = k)) = vs.any fun kv => decide (kv.1 = k) := by
  unfold KV at r
  induction r with
  | nil => rfl
  | cons h t ih => rw [List.any_cons, List.any_cons, ih, h.1]
theorem KV.repl {kvs : List (κ × V)} {vs : List (κ × Value)} (r : KV kvs vs) (k : κ) {y : V} {u : Value} (ry : RelV y u) :
    KV (kvs.map fun kv => if kv.1 = k then (kv.1, y) else kv) (vs.map fun kv => if kv.1 = k then (kv.1, u) else kv) := by
  unfold KV at r ⊢
  induction r with
  | nil => exact .nil
  | @cons p q ps qs h t ih =>
    rw [List.map_cons, List.map_cons]
    refine .cons ?_ ih
    obtain ⟨h1, h2⟩ := h
    by_cases e : p.1 = k
    · rw [if_pos e, if_pos (h1.symm.trans e)]; exact ⟨h1, ry⟩
    · rw [if_neg e, if_neg (fun z => e (h1.trans z))]; exact ⟨h1, h2⟩
theorem KV.put {kvs : List (κ × V)} {vs : List (κ × Value)} (r : KV kvs vs) (k : κ) {y : V} {u : Value} (ry : RelV y u) : KV (putK kvs k y) (stored vs k u) := by
  unfold putK stored
  rw [r.any k]
  by_cases e : (vs.any fun kv => decide (kv.1 = k)) = true
  · rw [if_pos e, if_pos e]; exact r.repl k ry
  · rw [if_neg e, if_neg e]; exact Paired.snoc r ⟨rfl, ry⟩
theorem KV.drop {kvs : List (κ × V)} {vs : List (κ × Value)} (r : KV kvs vs) (k : κ) : KV (dropK kvs k) (without vs k) := by
  unfold KV at r ⊢
  unfold dropK without
  induction r with
  | nil => exact .nil
  | @cons p q ps qs h t ih =>
    obtain ⟨h1, h2⟩ := h
    rw [List.filter_cons, List.filter_cons]
    by_cases e : p.1 = k
    · have a : ¬ decide (p.1 ≠ k) = true := by simp [e]
      have b : ¬ decide (q.1 ≠ k) = true := by simp [h1.symm.trans e]
      rw [if_neg a, if_neg b]; exact ih
    · have e' : ¬ q.1 = k := fun z => e (h1.trans z)
      have a : decide (p.1 ≠ k) = true := by simp [e]
      have b : decide (q.1 ≠ k) = true := by simp [e']
      rw [if_pos a, if_pos b]; exact .cons ⟨h1, h2⟩ ih
theorem KV.keys {kvs : List (κ × V)} {vs : List (κ × Value)} (r : KV kvs vs) : kvs.map (·.1) = vs.map (·.1) := by
  unfold KV at r
  induction r with
  | nil => rfl
  | cons h t ih => rw [List.map_cons, List.map_cons, ih, h.1]
theorem KV.length {kvs : List (κ × V)} {vs : List (κ × Value)} (r : KV kvs vs) : kvs.length = vs.length := Paired.length r
end
theorem kV_is {P : Program} {w : World} {k : Key} {u : Value} (r : RelV (kV k) u) : (mixKind P w).is k u = true := by
  cases k with
  | inl i => obtain ⟨t, e⟩ := (show ∃ t, u = Value.int i t from r); subst e; exact mixKind_int P w i t
  | inr x => obtain ⟨t, e⟩ := (show ∃ t, u = Value.str x t from r); subst e; exact mixKind_str P w x t
theorem items_are {P : Program} {w : World} : ∀ {ks : List Key} {us : List Value}, Vals (ks.map kV) us → ItemsAre (mixKind P w) ks us
  | [], _, r => by rw [List.map_nil] at r; cases r; exact .nil
  | k :: ks, _, r => by
    rw [List.map_cons] at r
    cases r with
    | cons h t => exact .cons (kV_is h) (items_are t)
/-- raw entries of a dict with tuple keys -/
abbrev KT (H : Hp) : List (List Key × V) → List (List Key × Addr × Value) → Prop := Paired fun p q => p.1 = q.1 ∧ H q.2.1 = some (.tup (p.1.map kV)) ∧ RelV p.2 q.2.2
theorem KT.val {H : Hp} {kvs : List (List Key × V)} {xs : List (List Key × Addr × Value)} (r : KT H kvs xs) (k : List Key) : RelO (valV kvs k) ((atKey xs k).map (·.2)) := by
  induction r with
  | nil => exact True.intro
  | @cons p q ps qs h t ih =>
    obtain ⟨h1, _, h2⟩ := h
    by_cases e : p.1 = k
    · have e' : q.1 = k := h1.symm.trans e
      have b : atKey (q :: qs) k = some q.2 := by simp [atKey, List.find?_cons, e']
      rw [valV_pos e, b]; exact h2
    · have e' : ¬ q.1 = k := fun z => e (h1.trans z)
      have b : atKey (q :: qs) k = atKey qs k := by simp [atKey, List.find?_cons, e']
      rw [valV_neg e, b]; exact ih
theorem KT.repl {H : Hp} {kvs : List (List Key × V)} {xs : List (List Key × Addr × Value)} (r : KT H kvs xs) (k : List Key) {y : V} {u : Value} (ry : RelV y u) :
    KT H (kvs.map fun kv => if kv.1 = k then (kv.1, y) else kv) (xs.map (putAt k u)) := by
  induction r with
  | nil => exact .nil
  | @cons p q ps qs h t ih =>
    rw [List.map_cons, List.map_cons]
    refine .cons ?_ ih
    obtain ⟨h1, h2, h3⟩ := h
    unfold putAt
    by_cases e : p.1 = k
    · rw [if_pos e, if_pos (h1.symm.trans e)]; exact ⟨h1, h2, ry⟩
    · rw [if_neg e, if_neg (fun z => e (h1.trans z))]; exact ⟨h1, h2, h3⟩
theorem KT.put {H : Hp} {kvs : List (List Key × V)} {xs : List (List Key × Addr × Value)} (r : KT H kvs xs) (k : List Key) {b : Addr} {y : V} {u : Value} (hb : H b = some (.tup (k.map kV))) (ry : RelV y u) :
    KT H (putK kvs k y) (storedH xs k b u) := by
  have e : (kvs.any fun kv => decide (kv.1 = k)) = (atKey xs k).isSome := by
    rw [valV_any, (r.val k).isSome_eq, Option.isSome_map]
  unfold putK storedH
  rw [e]
  by_cases q : (atKey xs k).isSome = true
  · rw [if_pos q, if_pos q]; exact r.repl k ry
  · rw [if_neg q, if_neg q]; exact Paired.snoc r ⟨rfl, hb, ry⟩
theorem KT.keeps {H H' : Hp} {kvs : List (List Key × V)} {xs : List (List Key × Addr × Value)} (r : KT H kvs xs) (ht : ∀ b ys, H b = some (.tup ys) → H' b = some (.tup ys)) : KT H' kvs xs :=
  Paired.mapP r fun _ _ z => ⟨z.1, ht _ _ z.2.1, z.2.2⟩
section
variable {P : Program} {w : World} {H : Hp} {h : Heap} {a : Addr}
theorem rd_of {u : HO} (ok : HOk P w H h) (e : Rd H a u) : ObjOk P w H h a u := e.ok ok
theorem dk_rd {kvs : List (Key × V)} (ok : HOk P w H h) (e : Rd H a (.dK kvs)) : kvs.length ≤ sizeLine ∧ (a == sysModules) = false ∧ ∃ vs, KV kvs vs ∧ h.DictOf (mixKind P w) a vs :=
  show ObjOk P w H h a (.dK kvs) from rd_of ok e
theorem dk_of {kvs : List (Key × V)} (ok : HOk P w H h) (e : H a = some (.dK kvs)) : kvs.length ≤ sizeLine ∧ (a == sysModules) = false ∧ ∃ vs, KV kvs vs ∧ h.DictOf (mixKind P w) a vs := dk_rd ok (.inl e)
/-- a tracked tuple of ints and texts is a key -/
theorem key_of {ks : List Key} (ok : HOk P w H h) (e : H a = some (.tup (ks.map kV))) : (tupleKind (mixKind P w)).is h ks a := by
  obtain ⟨_, its, r, o, h1, h2, ⟨n, h3⟩, _⟩ := (show ObjOk P w H h a (.tup (ks.map kV)) from ok a _ e)
  exact ⟨o, its.toArray, n, h1, h2, h3, by simpa using items_are r⟩
theorem dt_rd {kvs : List (List Key × V)} (ok : HOk P w H h) (e : Rd H a (.dT kvs)) : kvs.length ≤ sizeLine ∧ (a == sysModules) = false ∧
    ∃ xs, KT H kvs xs ∧ h.DictOfH (tupleKind (mixKind P w)) a xs := by
  obtain ⟨z, y, xs, r, o, es, ep, h1, h2, h3, h4, h5⟩ := (show ObjOk P w H h a (.dT kvs) from rd_of ok e)
  refine ⟨z, y, xs, r, o, es, ep, h1, h2, h3, h4, fun x hx => ?_, h5⟩
  have all : ∀ {l : List (List Key × V)} {m : List (List Key × Addr × Value)}, KT H l m → ∀ x ∈ m, (tupleKind (mixKind P w)).is h x.1 x.2.1 := by
    intro l m q
    induction q with
    | nil => intro x hx; exact nomatch hx
    | @cons p q ps qs hq t ih =>
      intro x hx
      rcases List.mem_cons.mp hx with e | hx
      · subst e
        exact key_of ok (by rw [← hq.1]; exact hq.2.1)
      · exact ih x hx
  exact all r x hx
end
/-- what the dict at a holds at the key y -/
def DGet (H : Hp) (a : Addr) (y : V) (r : Option V) : Prop :=
  (∃ kvs k, Rd H a (.dK kvs) ∧ y = kV k ∧ r = valV kvs k) ∨ ∃ kvs k b, Rd H a (.dT kvs) ∧ y = .ref b ∧ H b = some (.tup (k.map kV)) ∧ r = valV kvs k
/-- the heap behind a[y] = v -/
def DPut (H : Hp) (a : Addr) (y v : V) (H' : Hp) : Prop :=
  (∃ kvs k, H a = some (.dK kvs) ∧ y = kV k ∧ kvs.length < sizeLine ∧ H' = upd H a (.dK (putK kvs k v))) ∨
  ∃ kvs k b, H a = some (.dT kvs) ∧ y = .ref b ∧ H b = some (.tup (k.map kV)) ∧ kvs.length < sizeLine ∧ H' = upd H a (.dT (putK kvs k v))
theorem DGet.k {H : Hp} {a : Addr} {kvs : List (Key × V)} {k : Key} (e : H a = some (.dK kvs)) : DGet H a (kV k) (valV kvs k) := .inl ⟨kvs, k, .inl e, rfl, rfl⟩
theorem DGet.t {H : Hp} {a b : Addr} {kvs : List (List Key × V)} {k : List Key} (e : H a = some (.dT kvs)) (eb : H b = some (.tup (k.map kV))) : DGet H a (.ref b) (valV kvs k) := .inr ⟨kvs, k, b, .inl e, rfl, eb, rfl⟩
theorem DPut.k {H : Hp} {a : Addr} {kvs : List (Key × V)} {k : Key} {v : V} (e : H a = some (.dK kvs)) (hl : kvs.length < sizeLine) : DPut H a (kV k) v (upd H a (.dK (putK kvs k v))) := .inl ⟨kvs, k, e, rfl, hl, rfl⟩
theorem DPut.t {H : Hp} {a b : Addr} {kvs : List (List Key × V)} {k : List Key} {v : V} (e : H a = some (.dT kvs)) (eb : H b = some (.tup (k.map kV))) (hl : kvs.length < sizeLine) :
    DPut H a (.ref b) v (upd H a (.dT (putK kvs k v))) := .inr ⟨kvs, k, b, e, rfl, eb, hl, rfl⟩
section
variable {X : Cx} {pins : List (Addr × Obj)} {σ : St} {H : Hp} {s : Shared} {a : Addr} {y v : V} {u r : Value} {o : Option V} {A : Around} {E : Value → Shared → Prop}
theorem Inv.big (I : Inv X pins σ H s) : sysModules < s.heap.objs.size := by
  have h : mainGlobals < s.heap.objs.size := (I.mod.glob.keeps I.bk).lt
  exact Nat.lt_trans (by decide) h
/-- a dict's object is replaced -/
theorem d_write {h' : Heap} {t' : Nat} {ob : HO} (I : Inv X pins σ H s) (mu : Mut (H a)) (hs : Heap.SameBut a s.heap h') (he : ∃ q, h'.get? a = some q) (new : ObjOk X.prog X.w (upd H a ob) h' a ob) :
    Inv X pins σ (upd H a ob) { s with heap := h', toks := t' } :=
  I.write (x := a) (e := a) mu (.inl rfl) (fun b q hb z => (hs.2 b hb).trans z) he new
theorem dk_new {P : Program} {w : World} {H' : Hp} {h' : Heap} {kvs : List (Key × V)} {vs : List (Key × Value)} (z : kvs.length ≤ sizeLine) (hd : (a == sysModules) = false) (rel : KV kvs vs) (dd : h'.DictOf (mixKind P w) a vs) :
    ObjOk P w H' h' a (.dK kvs) := ⟨z, hd, vs, rel, dd⟩
end
section
variable {X : Cx} {pins : List (Addr × Obj)} {σ : St} {H : Hp} {s : Shared} {a : Addr} {kvs : List (Key × V)} {k : Key} {u : Value} {A : Around} {E : Value → Shared → Prop}
end
section
variable {X : Cx} {o i e value : Expr} {pos pos' tpos : Pos} {td ty tv : TE}
end
theorem dk_empty {P : Program} {w : World} {H : Hp} (h : Heap) (hb : sysModules < h.objs.size) : ObjOk P w H (h.push { cls := .type "dict", data := .dict #[] }) h.objs.size (.dK []) :=
  ⟨Nat.zero_le _, beq_eq_false_iff_ne.mpr (Ne.symm (Nat.ne_of_lt hb)), [], .nil, Heap.DictOf.new h⟩
section
variable {X : Cx} {pos : Pos}
end
/-- the pairs of a display, from the left -/
def tPairs : List (TE × TE) → St → Hp → (List (V × V) → Hp → Prop) → Prop
  | [], _, H, Q => Q [] H
  | (tk, tv) :: r, σ, H, Q => tk σ H fun x H1 => tv σ H1 fun y H2 => tPairs r σ H2 fun ps H3 => Q ((x, y) :: ps) H3
abbrev VV : List (V × V) → List (Value × Value) → Prop := Paired fun p q => RelV p.1 q.1 ∧ RelV p.2 q.2
def PPs (X : Cx) (pos : Pos) (keys : List (Option Expr)) (values : List Expr) (trs : List (TE × TE)) : Prop :=
  ∀ ⦃pins : List (Addr × Obj)⦄ (s : Shared) (σ : St) (H : Hp) (Q : List (V × V) → Hp → Prop), Inv X pins σ H s → tPairs trs σ H Q →
    wpAny (model X.prog X.w) X.A (evalPairs (pairTrees keys values X.env pos)) (fun vs s' => ∃ ps H', Inv X pins σ H' s' ∧ VV ps vs ∧ Q ps H') X.xe s
theorem pps_nil {X : Cx} {pos : Pos} : PPs X pos [] [] [] := fun pins s σ H Q I h => pairTrees_nil_walk ⟨[], H, I, .nil, h⟩
theorem pps_cons {X : Cx} {pos : Pos} {k v : Expr} {ks : List (Option Expr)} {vs : List Expr} {tk tv : TE} {trs : List (TE × TE)} (hk : PE X k tk) (hv : PE X v tv) (hr : PPs X pos ks vs trs) :
    PPs X pos (some k :: ks) (v :: vs) ((tk, tv) :: trs) := fun pins s σ H Q I h =>
  pairTrees_cons_walk (thn (hk s σ H _ I h) fun u s1 ⟨x, H1, I1, rx, q1⟩ => thn (hv s1 σ H1 _ I1 q1) fun w2 s2 ⟨y, H2, I2, ry, q2⟩ =>
    thn (hr s2 σ H2 _ I2 q2) fun ws s3 ⟨ps, H3, I3, rel, q3⟩ => ⟨(x, y) :: ps, H3, I3, .cons ⟨rx, ry⟩ rel, q3⟩)
def mergeK (kvs more : List (Key × V)) : List (Key × V) := more.foldl (fun acc kv => putK acc kv.1 kv.2) kvs
theorem KV.merge : ∀ {more : List (Key × V)} {rs : List (Key × Value)} {kvs : List (Key × V)} {vs : List (Key × Value)}, KV more rs → KV kvs vs → KV (mergeK kvs more) (merged vs rs) := by
  intro more rs kvs vs r
  unfold KV at r
  induction r generalizing kvs vs with
  | nil => intro q; exact q
  | @cons p q ps qs h t ih =>
    intro r0
    have e : KV (putK kvs p.1 p.2) (stored vs q.1 q.2) := by
      have := r0.put p.1 h.2
      rw [← h.1]; exact this
    exact ih e
theorem length_mergeK : ∀ (more kvs : List (Key × V)), (mergeK kvs more).length ≤ kvs.length + more.length
  | [], kvs => by show kvs.length ≤ kvs.length + 0; omega
  | p :: r, kvs => by
    have h1 := length_mergeK r (putK kvs p.1 p.2)
    have h2 := length_putK kvs p.1 p.2
    show (mergeK (putK kvs p.1 p.2) r).length ≤ _
    rw [List.length_cons]; omega
theorem carries_of {P : Program} {w : World} : ∀ {kvs : List (Key × V)} {ws : List (Value × Value)}, VV (kvs.map fun kv => (kV kv.1, kv.2)) ws → ∃ rs, Carries (mixKind P w) ws rs ∧ KV kvs rs
  | [], _, r => by rw [List.map_nil] at r; cases r; exact ⟨[], True.intro, .nil⟩
  | p :: kvs, _, r => by
    rw [List.map_cons] at r
    cases r with
    | @cons a b as bs h t =>
      obtain ⟨rs, c, q⟩ := carries_of (P := P) (w := w) t
      obtain ⟨b1, b2⟩ := b
      exact ⟨(p.1, b2) :: rs, ⟨kV_is h.1, rfl, c⟩, .cons ⟨rfl, h.2⟩ q⟩
/-- {k: v, ..} with keys ints and texts; the new dict stands empty while the pairs are made -/
def tDisp (trs : List (TE × TE)) : TE := fun σ H Q => ∀ p, H p = none → tPairs trs σ (upd H p (.dK [])) fun ps H2 => H2 p = some (.dK []) ∧ ∃ kvs : List (Key × V), ps = kvs.map (fun kv => (kV kv.1, kv.2)) ∧ kvs.length ≤ 15 ∧ Q (.ref p) (upd H2 p (.dK (mergeK [] kvs)))
theorem pe_disp {X : Cx} {pos : Pos} {keys : List (Option Expr)} {values : List Expr} {trs : List (TE × TE)} (h : PPs X pos keys values trs) (hall : keys.all (·.isSome) = true) (hl : keys.length = values.length) (h0 : keys ≠ [])
    (h15 : keys.length ≤ 15) : PE X (.Dict keys values pos) (tDisp trs) := by
  intro pins s σ H Q I q
  have hn := I.hok.fresh (Nat.le_refl s.heap.objs.size)
  have I1 := I.laid (a := s.heap.objs.size) (o := .dK []) (h' := s.heap.push { cls := .type "dict", data := .dict #[] }) (t' := s.toks) (fun _ _ q => Heap.get?_push_of_some _ q) (Nat.le_refl _) (dk_empty s.heap I.big)
  refine wpAny_Dict_walk (knd := mixKind X.prog X.w) hall hl h0 h15 (thn (h _ σ _ _ I1 (q _ hn)) fun ws s2 ⟨ps, H2, I2, rel, e, kvs, ep, lk, q2⟩ => ?_)
  subst ep
  obtain ⟨rs, c, rk⟩ := carries_of (P := X.prog) (w := X.w) rel
  obtain ⟨z, hd, vs0, r0, dd⟩ := dk_of I2.hok e
  cases r0
  refine ⟨rs, c, dd, fun h' dd' hs => ⟨.ref s.heap.objs.size, _, ?_, rfl, q2⟩⟩
  have hz : (mergeK [] kvs).length ≤ sizeLine := by
    have h1 := length_mergeK kvs []
    rw [List.length_nil] at h1
    rw [sizeLine_eq]; omega
  have he : ∃ q, h'.get? s.heap.objs.size = some q := let ⟨q, _, _, hq, _⟩ := dd'; ⟨q, hq⟩
  exact d_write I2 (by rw [e]; exact True.intro) hs he (dk_new hz hd (rk.merge .nil) dd')
/-- a method call o.m(e) of a built-in, with one argument: what must be seen of the text -/
structure M1 (X : Cx) (o : Expr) (m : Str) (apos : Pos) (e : Expr) (cpos : Pos) : Prop where
  base : attributeBase o m X.env (eval o X.env) = eval o X.env
  few : ((backTo cpos (starEach [e] X.env)).all (fun x => !x.1) && (backToKw cpos (keywordEach [] X.env)).all (fun x => x.1.isSome)
    && decide (([e] : List Expr).length + ([] : List Keyword).length + (if ([] : List Keyword).isEmpty then 0 else 1) < 30)) = true
  line : (apos.endLine == cpos.line) = true
  trees : backTo cpos (starEach [e] X.env) = [(false, eval e X.env)]
structure M2 (X : Cx) (o : Expr) (m : Str) (apos : Pos) (e f : Expr) (cpos : Pos) : Prop where
  base : attributeBase o m X.env (eval o X.env) = eval o X.env
  few : ((backTo cpos (starEach [e, f] X.env)).all (fun x => !x.1) && (backToKw cpos (keywordEach [] X.env)).all (fun x => x.1.isSome)
    && decide (([e, f] : List Expr).length + ([] : List Keyword).length + (if ([] : List Keyword).isEmpty then 0 else 1) < 30)) = true
  line : (apos.endLine == cpos.line) = true
  trees : backTo cpos (starEach [e, f] X.env) = [(false, eval e X.env), (false, eval f X.env)]
/-- a is a dict, whatever its keys -/
def IsD (H : Hp) (a : Addr) : Prop := (∃ kvs, Rd H a (.dK kvs)) ∨ ∃ kvs, Rd H a (.dT kvs)
theorem isD_at {X : Cx} {pins : List (Addr × Obj)} {σ : St} {H : Hp} {s : Shared} {a : Addr} (I : Inv X pins σ H s) (d : IsD H a) :
    s.TypeIs (.ref a) "dict" ∧ (∀ b, Value.ref a = .ref b → ∃ ob, s.heap.get? b = some ob ∧ ob.dict = none) ∧ (a == sysModules) = false := by
  rcases d with ⟨kvs, e⟩ | ⟨kvs, e⟩
  · obtain ⟨_, hd, vs, _, dd⟩ := dk_rd I.hok e
    refine ⟨dd.typeIs, fun b q => ?_, hd⟩
    cases q
    obtain ⟨ob, _, _, h1, h2, _⟩ := dd
    exact ⟨ob, h1, h2.2.1⟩
  · obtain ⟨_, hd, xs, _, dd⟩ := dt_rd I.hok e
    refine ⟨dd.typeIs, fun b q => ?_, hd⟩
    cases q
    obtain ⟨ob, _, _, h1, h2, _⟩ := dd
    exact ⟨ob, h1, h2.2.1⟩
section
variable {X : Cx} {pins : List (Addr × Obj)} {σ : St} {H : Hp} {s : Shared} {a : Addr} {y d : V} {u r : Value} {o : Option V} {A : Around} {E : Value → Shared → Prop}
/-- d.get(y, x) -/
theorem d_get2 {Q : Value → Shared → Prop} (hu : A.units + 1 < cLine) (I : Inv X pins σ H s) (g : DGet H a y o) (ry : RelV y u) (rd : RelV d r) (h : ∀ w' s', Inv X pins σ H s' → RelV (o.getD d) w' → Q w' s') :
    wpAny (model X.prog X.w) A (call (.builtin "dict.get") [.ref a, u, r]) Q E s := by
  rcases g with ⟨kvs, k, e, ey, l⟩ | ⟨kvs, k, b, e, ey, eb, l⟩
  · subst ey
    obtain ⟨z, hd, vs, rel, dd⟩ := dk_rd I.hok e
    refine call_meetsIn PySem.F.slot_dict_get dd.typeIs PySem.F.entry_dict_get (PySem.F.args_dict_get_3 _ _ _) (meets_dict_get_default (mixKind X.prog X.w) a (kV_is ry) hd r) ⟨_, dd.mapOf, h _ _ (I.tok _) ?_⟩
    rw [l]
    exact (rel.val k).getD rd
  · subst ey
    cases (show u = Value.ref b from ry)
    obtain ⟨z, hd, xs, rel, dd⟩ := dt_rd I.hok e
    refine call_meetsIn PySem.F.slot_dict_get dd.typeIs PySem.F.entry_dict_get (PySem.F.args_dict_get_3 _ _ _) (meetsH_dict_get_default (tupleKind (mixKind X.prog X.w)) a b hd r) ⟨tupleKind_room_in1 hu, k, xs, key_of I.hok eb, dd, h _ _ (I.tok _) ?_⟩
    rw [l]
    exact (rel.val k).getD rd
end
def tDGet2 (td ty tx : TE) : TE := fun σ H Q => td σ H fun x H1 => ∃ a, x = .ref a ∧ IsD H1 a ∧ ty σ H1 fun y H2 => tx σ H2 fun z H3 => ∃ o, DGet H3 a y o ∧ Q (o.getD z) H3
section
variable {X : Cx} {o e f : Expr} {apos cpos : Pos} {td ty tx : TE}
theorem pe_dget2 (hu : X.A.units + 1 < cLine) (ho : PE X o td) (he : PE X e ty) (hf : PE X f tx) (m : M2 X o "get" apos e f cpos) : PE X (.Call (.Attribute o "get" apos) [e, f] [] cpos) (tDGet2 td ty tx) := by
  intro pins s σ H Q I h
  refine wpAny_Call_method m.base m.few m.line PySem.F.plainAttrs_dict PySem.F.slot_dict_get PySem.F.type_dict_get (thn (ho s σ H _ I h) fun u s1 ⟨x, H1, I1, rx, a, ex, d, q1⟩ => ?_)
  subst ex
  obtain rfl : u = Value.ref a := rx
  obtain ⟨t1, t2, _⟩ := isD_at I1 d
  refine ⟨t1, t2, ?_⟩
  rw [m.trees]
  refine Calls.callWith_builtin rfl (Calls.evalArgs_plain (Calls.spliced_cons (thn (he s1 σ H1 _ I1 q1) fun iv s2 ⟨y, H2, I2, ry, q2⟩ =>
    Calls.spliced_cons (thn (hf s2 σ H2 _ I2 q2) fun fv s3 ⟨z, H3, I3, rz, ov, g, q3⟩ => Calls.spliced_nil ?_))))
  exact d_get2 hu I3 g ry rz fun w' s4 I4 rw' => ⟨_, H3, I4, rw', q3⟩
end
section
variable {X : Cx} {pins : List (Addr × Obj)} {σ : St} {H : Hp} {s : Shared} {a : Addr} {kvs : List (Key × V)} {A : Around} {E : Value → Shared → Prop}
end
section
variable {X : Cx} {pins : List (Addr × Obj)} {σ : St} {H : Hp} {s : Shared} {a : Addr} {y : V} {u : Value} {A : Around} {E : Value → Shared → Prop}
end
end L2
namespace L2
open PySem PySem.Spec PyProof.Rows
section
variable {prog : Program} {w : World} {A : Around} {E : Value → Shared → Prop}
end
section
variable {X : Cx}
end
end L2
namespace L2
open PySem PySem.Spec PyProof.Rows
section
variable {X : Cx} {pins : List (Addr × Obj)} {σ : St} {H : Hp} {s : Shared} {h' : Heap}
end
section
variable {X : Cx}
end
/-- range(i, j, c): small bounds, n items -/
def RgC (i j c : Int) (n : Nat) : Prop := c ≠ 0 ∧ c.natAbs < 1073741824 ∧ Builtin.Range.small i j c = true ∧ Builtin.Range.rangeSize i j c = n
theorem RgC.neg {i j : Int} (ha : -(2 ^ 62) ≤ i) (ha' : i < 2 ^ 62) (hb : -(2 ^ 62) ≤ j) (hb' : j < 2 ^ 62) : RgC i j (-1) (i - j).toNat :=
  ⟨by decide, by decide, PySem.W.small_down ha ha' hb hb', PySem.W.rangeSize_downNat i j⟩
section
variable {X : Cx} {tg : Expr}
end
section
variable {X : Cx} {tg : Expr}
end
section
variable {prog : Program} {w : World} {A : Around} {E : Value → Shared → Prop} {s : Shared}
end
section
variable {X : Cx} {pins : List (Addr × Obj)} {σ : St} {H : Hp} {s : Shared} {d : Addr} {o : Obj}
end
section
variable {P : Program} {w : World} {K : PySem.W.Frag} {tg : Expr} {d : Addr} {o : Obj} {es : Array DictEntry} {ep : Nat}
end
section
variable {X : Cx} {tg e : Expr} {td : TE} {apos cpos : Pos}
end
theorem boot_zip5 : bootBuiltins "zip" = some (.type "zip") := by decide +kernel
end L2
section 
namespace Bits
open PySem PyProof.Rows
end Bits
end 
section 
namespace TL
open PySem PySem.Builtin PySem.Builtin.Str PySem.StrLaws
abbrev tl (x : Str) : List Nat := x.cps.toList
theorem len_tl (x : Str) : x.length = (tl x).length := by simp [tl, Str.length]
theorem tl_append (x y : Str) : tl (x ++ y) = tl x ++ tl y := by
  show (x ++ y).cps.toList = _
  rw [Str.cps_append, Array.toList_append]
/-- S stands at the head of l -/
def pre (S l : List Nat) : Bool := l.take S.length == S
/-- what stands before the first S, and behind it -/
def par (S : List Nat) : List Nat → List Nat → Option (List Nat × List Nat)
  | _, [] => none
  | acc, c :: r => if pre S (c :: r) = true then some (acc, (c :: r).drop S.length) else par S (acc ++ [c]) r
theorem len1 {y : Str} (hy : tl y ≠ []) : 1 ≤ y.length := by
  have e2 : 0 < (tl y).length := List.length_pos_iff.mpr hy
  rw [len_tl y]
  exact e2
theorem join_eq (y : Str) (parts : List Str) : Txt.join y parts = Str.join y parts := glued_eq_join y parts
end TL
end 
namespace L2
open PySem PySem.Spec PyProof.Rows
theorem strs_of_vals : ∀ {ys : List Str} {us : List Value}, Vals (ys.map V.str) us → StrsAre us ys
  | [], _, .nil => .nil
  | y :: ys, _, .cons r t => by
    obtain ⟨k, rfl⟩ := r
    exact .cons y k (strs_of_vals t)
section
variable {X : Cx} {pins : List (Addr × Obj)} {σ : St} {H : Hp} {s : Shared} {Q : VK}
end
section
variable {X : Cx}
/-- sep.join(a list | a tuple of texts) -/
theorem mt_join : MtR X "str.join" (fun x xs H Q => ∃ a p, ∃ ys : List Str, x = .str a ∧ xs = [.ref p] ∧ (SqL X.K H p (ys.map V.str) ∨ SqT X.K H p (ys.map V.str)) ∧
    (ys.map (·.length)).sum + ys.length * a.length ≤ 16777216 ∧ Q (.str (Txt.join a ys)) H) := by
  intro pins s σ H x xs v us Q I rx rs h
  obtain ⟨a, p, ys, rfl, rfl, hp, hz, h⟩ := h
  obtain ⟨t, rfl⟩ := rx
  cases rs with
  | cons r1 rs =>
    cases rs
    cases r1
    rcases hp with hp | hp
    · obtain ⟨its, r, ⟨o, n, ho, hc, _, hd⟩, _⟩ := I.list hp
      exact PyProof.Rows.join_list (items := its.toArray) ⟨o, ho, hc, n, hd⟩ (by rw [List.toList_toArray]; exact strs_of_vals r) hz fun t' k => ⟨.str _, H, I.tok k, ⟨t', rfl⟩, h⟩
    · obtain ⟨its, r, ht, _⟩ := I.tuple hp
      exact PyProof.Rows.join_tuple (items := its.toArray) ht (by rw [List.toList_toArray]; exact strs_of_vals r) hz fun t' k => ⟨.str _, H, I.tok k, ⟨t', rfl⟩, h⟩
end
section
variable {X : Cx} {o e : Expr} {to te : TE}
def tM1 (r : V → List V → Hp → VK → Prop) (to te : TE) : TE := fun σ H Q => to σ H fun x H1 => (∃ a, x = .str a) ∧ te σ H1 fun y H2 => r x [y] H2 Q
theorem pe_m1 {id : String} {name : Str} {apos pos : Pos} {r : V → List V → Hp → VK → Prop} (slot : Slot "str" name id) (ty : typeOf (.builtin id) = pure (.type "method_descriptor")) (rule : MtR X id r) (ho : PE X o to) (he : PE X e te)
    (hs : starEach [e] X.env = [(false, eval e X.env)] := by exact star_of1 rfl) (hbase : attributeBase o name X.env (eval o X.env) = eval o X.env := by rfl) (hline : (apos.endLine == pos.line) = true := by rfl) :
    PE X (.Call (.Attribute o name apos) [e] [] pos) (tM1 r to te) := by
  intro pins s σ H Q I h
  refine PySem.Call_method1 hbase hs hline (thn (ho s σ H _ I h) fun v s1 ⟨x, H1, I1, r1, q1⟩ => ?_)
  obtain ⟨⟨a, rfl⟩, q1⟩ := q1
  obtain ⟨t, rfl⟩ := _root_.id r1
  refine ⟨"str", _, F.plainAttrs_str, slot, ty, typeIs_str _ _ _, (fun _ e => nomatch e), Calls.callWith_builtin rfl (Calls.evalArgs_plain (Calls.spliced_cons ?_))⟩
  exact thn (he s1 σ H1 _ I1 q1) fun u s2 ⟨y, H2, I2, r2, q2⟩ => Calls.spliced_nil (rule s2 σ H2 _ [y] _ [u] Q I2 r1 (.cons r2 .nil) q2)
theorem pe_join {apos pos : Pos} (ho : PE X o to) (he : PE X e te) (hs : starEach [e] X.env = [(false, eval e X.env)] := by exact star_of1 rfl) (hbase : attributeBase o "join" X.env (eval o X.env) = eval o X.env := by rfl) (hline : (apos.endLine == pos.line) = true := by rfl) :
    PE X (.Call (.Attribute o "join" apos) [e] [] pos) (tM1 (fun x xs H Q => ∃ a p, ∃ ys : List Str, x = .str a ∧ xs = [.ref p] ∧ (SqL X.K H p (ys.map V.str) ∨ SqT X.K H p (ys.map V.str)) ∧
      (ys.map (·.length)).sum + ys.length * a.length ≤ 16777216 ∧ Q (.str (Txt.join a ys)) H) to te) :=
  pe_m1 F.slot_str_join F.type_str_join mt_join ho he hs hbase hline
end
end L2
namespace L2
open PySem PySem.Spec PyProof.Rows
section
variable {X : Cx}
end
theorem IsPart.raw {v : Value} {o : Option Int} (p : IsPart v o) : ∃ l : Option (Int × Tok), v = partValue l ∧ l.map (·.1) = o := by
  cases p with
  | none => exact ⟨none, rfl, rfl⟩
  | int i t => exact ⟨some (i, t), rfl, rfl⟩
/-- a part, clipped, as the text's slice reckons it -/
def clipS (n d : Nat) : Option Int → Int
  | none => (d : Int)
  | some i => max 0 (min (if i < 0 then i + (n : Int) else i) (n : Int))
theorem clipS_eq (n d : Nat) (o : Option Int) : clipS n d o = ((HT.sIx n d o : Nat) : Int) := by
  cases o with
  | none => rfl
  | some v =>
    show max (0 : Int) (min (if v < 0 then v + (n : Int) else v) (n : Int)) = (((if v < 0 then (v + (n : Int)).toNat else min v.toNat n) : Nat) : Int)
    by_cases hv : v < 0
    · simp only [if_pos hv]
      omega
    · simp only [if_neg hv]
      omega
theorem sidx_clip (a b : Option Int) (n : Nat) : Builtin.Str.strSliceIndices a b 1 n = sliceRange (clipS n 0 a) (clipS n n b) 1 := by
  have h1 : ((1 : Int) > 0) = True := by simp
  cases a <;> cases b <;> first
    | rfl
    | (simp only [Builtin.Str.strSliceIndices, clipS, h1, if_true]; rfl)
    | simp [Builtin.Str.strSliceIndices, clipS]
theorem sidx (a b : Option Int) (n : Nat) : Builtin.Str.strSliceIndices a b 1 n = (List.range (HT.sIx n n b - HT.sIx n 0 a)).map (fun k => HT.sIx n 0 a + k) := by
  rw [sidx_clip, clipS_eq, clipS_eq]
  generalize HT.sIx n 0 a = p
  generalize HT.sIx n n b = q
  simp only [sliceRange, show ((1 : Int) > 0) = True from by simp, if_true]
  by_cases hlt : (p : Int) < q
  · have e3 : (((q : Int) - p + 1 - 1) / 1).toNat = q - p := by first | omega | (simp; done) | (simp; omega)
    simp only [hlt, if_true, e3]
    refine List.map_congr_left fun k _ => ?_
    omega
  · have : q - p = 0 := by omega
    simp [hlt, this]
/-- z[lo:hi] -/
def cutS (z : Str) (lo hi : Option Int) : Str :=
  ⟨((z.cps.toList.drop (HT.sIx z.length 0 lo)).take (HT.sIx z.length z.length hi - HT.sIx z.length 0 lo)).toArray⟩
theorem sliceText_cut (z : Str) (lo hi : Option Int) : PySem.StrLaws.sliceText z lo hi = cutS z lo hi := by
  have h1 : HT.sIx z.length 0 lo ≤ z.length := HT.sIx_le _ _ (Nat.zero_le _) _
  have h2 : HT.sIx z.length z.length hi ≤ z.length := HT.sIx_le _ _ (Nat.le_refl _) _
  have hp : HT.sIx z.length 0 lo ≤ max (HT.sIx z.length 0 lo) (HT.sIx z.length z.length hi) := Nat.le_max_left _ _
  have hq : max (HT.sIx z.length 0 lo) (HT.sIx z.length z.length hi) ≤ z.length := Nat.max_le.mpr ⟨h1, h2⟩
  have hd : max (HT.sIx z.length 0 lo) (HT.sIx z.length z.length hi) - HT.sIx z.length 0 lo = HT.sIx z.length z.length hi - HT.sIx z.length 0 lo := by omega
  have e : Builtin.Str.strSliceIndices lo hi 1 z.length =
      Builtin.Str.strSliceIndices (some ((HT.sIx z.length 0 lo : Nat) : Int)) (some ((max (HT.sIx z.length 0 lo) (HT.sIx z.length z.length hi) : Nat) : Int)) 1 z.length := by
    rw [PySem.StrLaws.strSliceIndices_plain hp hq, hd, sidx]
  have e2 : PySem.StrLaws.sliceText z lo hi =
      PySem.StrLaws.sliceText z (some ((HT.sIx z.length 0 lo : Nat) : Int)) (some ((max (HT.sIx z.length 0 lo) (HT.sIx z.length z.length hi) : Nat) : Int)) := by
    unfold PySem.StrLaws.sliceText
    rw [e]
  rw [e2, PySem.StrLaws.sliceText_nat z hp hq, hd]
  rfl
theorem cutS_length (z : Str) (lo hi : Option Int) : (cutS z lo hi).length ≤ z.length := by
  show (((z.cps.toList.drop (HT.sIx z.length 0 lo)).take (HT.sIx z.length z.length hi - HT.sIx z.length 0 lo)).toArray).size ≤ z.cps.size
  rw [List.size_toArray, List.length_take, List.length_drop, Array.length_toList]
  omega
def rSlS : V → Option Int → Option Int → Hp → VK → Prop := fun x lo hi H Q => ∃ z, x = .str z ∧ z.length ≤ sizeLine ∧ Q (.str (cutS z lo hi)) H
theorem sl_str {X : Cx} : SlR X rSlS := by
  intro pins s σ H x v vl vu lo hi sl Q I rx hs pl pu h
  obtain ⟨z, rfl, hz, q⟩ := h
  obtain ⟨t, rfl⟩ := rx
  obtain ⟨os, hos, hcs, hds⟩ := hs
  obtain ⟨l, rfl, rfl⟩ := IsPart.raw pl
  obtain ⟨u, rfl, rfl⟩ := IsPart.raw pu
  refine ⟨"str", _, F.slot_str_getitem.lookup, typeIs_str _ _ _, ?_⟩
  refine wpAny_getItem_str_slice (l := l) (u := u) (st := none) ⟨os, hos, hcs, hds⟩ rfl ?_
  have hl : (PySem.StrLaws.sliceText z (l.map (·.1)) (u.map (·.1))).length ≤ sizeLine := by
    rw [sliceText_cut]
    exact Nat.le_trans (cutS_length z _ _) hz
  rw [← sliceText_cut] at q
  unfold PySem.StrLaws.sliceText at q hl
  show Made.post (if ((1 : Int) == 1 && (Builtin.Str.strSliceIndices (l.map (·.1)) (u.map (·.1)) 1 z.length).length == z.length) = true then Made.val (.str z t)
    else Made.str ⟨((Builtin.Str.strSliceIndices (l.map (·.1)) (u.map (·.1)) 1 z.length).filterMap (z.cps[·]?)).toArray⟩) (EP X pins σ Q) s
  by_cases c : ((1 : Int) == 1 && (Builtin.Str.strSliceIndices (l.map (·.1)) (u.map (·.1)) 1 z.length).length == z.length) = true
  · rw [if_pos c] at q ⊢
    exact ⟨.str z, H, I, ⟨t, rfl⟩, q⟩
  · rw [if_neg c] at q hl ⊢
    exact ⟨hl, .str _, H, I.tok _, ⟨_, rfl⟩, q⟩
end L2
namespace Att
open PySem PySem.W PySem.Calls PyProof.Rows
theorem ints_of_wellAll {P : Params} {h : Heap} : ∀ (ns : List Int) (vs : List Value), WellAll P h vs (ns.map WData.int) → IntsAre vs ns := by
  intro ns
  induction ns with
  | nil =>
    intro vs w
    rw [List.map_nil] at w
    cases w
    exact .nil
  | cons n ns ih =>
    intro vs w
    rw [List.map_cons] at w
    cases w with
    | cons a b =>
      cases a
      exact .cons _ _ (ih _ b)
theorem script_of {l : OpenLaw} {n : Nat} (hn : l.most = some n) {P : Params} {h : Heap} {args : List WData} {vals : List Value}
    (hpre : l.row.toRowW.claim.pre args = true) (hwl : WellAll P h vals args) :
    ∃ a vs ns, vals = [Value.ref a] ∧ args = [WData.list (ns.map WData.int)] ∧ h.get? a = some { cls := .type "list", data := .seq vs.toArray } ∧ IntsAre vs ns ∧ ns.length ≤ n := by
  have hsh : WShape.hasAll [] args [.list .int] = true := (pre_splitW hpre).1
  have hc : l.pre.holds [] { args := args } = true := (pre_splitW hpre).2
  obtain ⟨d, r, rfl, h1, h2⟩ := hasAllW_cons hsh
  obtain rfl := hasAllW_nil h2
  obtain ⟨xs, rfl, h3⟩ := hasW_list h1
  obtain ⟨ns, rfl⟩ := items_int h3
  have hlen : ns.length ≤ n := by
    unfold OpenLaw.pre at hc
    have h4 : (WTm.not (.lt (.lit (.int (n : Int))) (.len (.arg 0)))).holds [] { args := [.list (ns.map .int)] } = true := by
      have h4 := (holds_andW hc).1
      rw [hn] at h4
      exact h4
    have h5 := condW_of h4 (w_not (w_lt w_lit (w_len_list (w_arg rfl))))
    rw [List.length_map] at h5
    refine Nat.le_of_not_lt fun q => ?_
    have q' : (n : Int) < ((ns.length : Nat) : Int) := by omega
    first
      | (rw [decide_eq_true q'] at h5; exact absurd h5 (by decide))
      | (simp at h5; omega)
  cases hwl with
  | cons w1 w2 =>
    cases w2
    cases w1 with
    | list ho hall => exact ⟨_, _, ns, rfl, rfl, ho, ints_of_wellAll ns _ hall, hlen⟩
theorem post_true (l : OpenLaw) (args : List WData) : l.row.toRowW.claim.post args (.bool true) args = true :=
  postW_of (r := l.row.toRowW) (X := (true == true))
    (show WShape.has [] (.bool true) .bool = true by first | rfl | decide | simp [WShape.has, WShape.arms, WShape.armsAll])
    (show (WTm.eq .res (.lit (.bool true))).value [] { args := args, res := some (.bool true), after := args } = some (.bool (true == true)) from w_eq_bool (w_res rfl) w_lit) rfl
section
variable {prog : Program} {w : World} {A : Around} {E : Value → Shared → Prop} {s : Shared} {K : Frag}
end
end Att
namespace L2
open PySem PySem.Spec PyProof.Rows
theorem vals_ints : ∀ {vs : List Value} {ns : List Int}, IntsAre vs ns → Vals (ns.map V.int) vs
  | _, _, .nil => .nil
  | _, _, .cons n t h => .cons ⟨t, rfl⟩ (vals_ints h)
/-- nothing is tracked but the script, known to the object (or it is an object of the module) -/
def Only (H : Hp) : Prop := ∀ b, H b = none ∨ ∃ o xs, H b = some (.frz o (.lst xs))
/-- THE HEAD: the law's promise, at the heap behind the top. F, the promise of the law's def, may use that base is part of the heap (so K.In base, base.Ns mainGlobals mg stand in Mod) -/
theorem law_call {P : Program} {w : World} {K : PySem.W.Frag} {mg mb : Str → Option Value} {CX : CXT} {k : Nat} {fa a : Addr} {fd : FuncData} {x : Str} {sp : Sp} {s₁ : Shared} {vs : List Value} {ns : List Int}
    (KX : K.In s₁.heap) (hns : s₁.heap.Ns mainGlobals mg) (hb : s₁.heap.Ns builtinsNs mb) (hbb : ∀ x : Str, x ≠ "__name__" → mb x = bootBuiltins x) (hlim : s₁.heap.NoLimit) (hg : s₁.gens = #[])
    (ha : s₁.heap.get? a = some { cls := .type "list", data := .seq vs.toArray }) (hi : IntsAre vs ns) (hl : ns.length ≤ sizeLine) (hr : Room k callerA)
    (F : ∀ base : Heap, K.In base → base.Ns mainGlobals mg → FnOk P w K mg base CX k fa fd [x] sp) (hbind : ∀ (s : Shared) (u : Value), BindsTo s fd ⟨[u], []⟩ [(x, u)])
    (hsp : ∀ H : Hp, Only H → SqL K H a (ns.map V.int) → sp [.ref a] H (fun v _ => v = .bl true) fun _ _ _ => False)
    (hCX : ∀ H e s', CX [] H s₁ (fun _ _ _ => False) e s' → False) :
    codeAny (model P w) callerA (.call (.ref fa) ⟨[.ref a], []⟩) (fun r s' => r = .ok (.ret (.bool true)) ∧ OldK s₁.heap s'.heap ∧ s'.os = s₁.os ∧ AllBare s'.gens) s₁ := by
  have rv := vals_ints hi
  have lenV := hi.length
  -- from an abstract heap in which nothing but the script may be tracked
  have core : ∀ H : Hp, Only H → SqL K H a (ns.map V.int) → HOk P w H s₁.heap → (∀ b, H b ≠ none → b = a) → (H a ≠ none → K.lookup a = none) →
      codeAny (model P w) callerA (.call (.ref fa) ⟨[.ref a], []⟩) (fun r s' => r = .ok (.ret (.bool true)) ∧ OldK s₁.heap s'.heap ∧ s'.os = s₁.os ∧ AllBare s'.gens) s₁ := by
    intro H hO hS hok hA hK
    have base_of : ∀ {b : Addr} {o : Obj}, s₁.heap.get? b = some o → H b = none → (hidT s₁.heap H).get? b = some o := fun e n => hidT_get e n
    have noA : ∀ {b : Addr} {o : Obj} {es : Array DictEntry} {ep : Nat}, s₁.heap.get? b = some o → o.data = .dict es ep → H b = none := fun {b o es ep} e d => by
      cases q : H b with
      | none => rfl
      | some u =>
        have e' : b = a := hA b (by rw [q]; simp)
        subst e'
        rw [ha] at e; cases e
        have d' : Data.seq vs.toArray _ = Data.dict es ep := d
        cases d'
    have nsK : ∀ {b : Addr} {m : Str → Option Value}, s₁.heap.Ns b m → (hidT s₁.heap H).Ns b m := fun {b m} ⟨o, es, ep, e, d, r⟩ => ⟨o, es, ep, base_of e (noA e d), d, r⟩
    have hKb : K.In (hidT s₁.heap H) := fun b o e => base_of (KX b o e) (by
      cases q : H b with
      | none => rfl
      | some u =>
        have e' : b = a := hA b (by rw [q]; simp)
        subst e'
        rw [hK (by rw [q]; simp)] at e; cases e)
    have hM : Mod K mg (hidT s₁.heap H) := ⟨hKb, nsK hns, ⟨mb, nsK hb, hbb⟩, let ⟨mc, h1, h2⟩ := hlim; ⟨mc, nsK h1, h2⟩⟩
    have e0 : Env0 P w K mg (hidT s₁.heap H) callerA [] s₁ H := ⟨rfl, hM, fun b o e => of_hidT e, Nat.le_of_eq (hidT_size _ _), trivial, fun b hb => absurd (show b ∈ ([] : List Addr) from hb) (by simp), hok, .of_eq hg⟩
    refine codeAny_mono ((F _ hKb (nsK hns)).run callerA [] s₁ H ⟨[.ref a], []⟩ [.ref a] [.ref a] _ _ hr e0 (hbind s₁ (.ref a)) (.cons rfl .nil) (hsp H hO hS)) fun r s' h => ?_
    cases r with
    | error e => exact (hCX H e s' h).elim
    | ok fl =>
      cases fl with
      | next => exact False.elim h
      | brk => exact False.elim h
      | cont => exact False.elim h
      | ret u =>
        obtain ⟨v, H', os, bare, un, hok', r', q⟩ := h
        have q' : v = .bl true := q
        subst q'
        obtain rfl : u = Value.bool true := r'
        refine ⟨rfl, OldK.of_keep fun b o e => ?_, os, bare.all⟩
        cases q : H b with
        | none => exact un.keep b o e q (by intro z; exact absurd (show b ∈ ([] : List Addr) from z) (by simp)) (by simp)
        | some u =>
          rcases hO b with z | ⟨ob, xs, z⟩
          · rw [q] at z; cases z
          · have z2 := un.frzs b ob _ z
            obtain ⟨e1, _⟩ := hok b _ z
            obtain ⟨e2, _⟩ := hok' b _ z2
            rw [e] at e1; cases e1
            exact e2
  cases hk : K.lookup a with
  | some o =>
    -- the script is one of the module's own objects
    have e := KX a o hk
    rw [ha] at e
    cases e
    refine core (fun _ => none) (fun _ => .inl rfl) (.inr ⟨_, vs.toArray, _, hk, rfl, rfl, rfl, by rw [List.size_toArray, lenV]; exact hl, by simpa using rv⟩) (fun b u z => by have z' : (none : Option HO) = some u := z; cases z') (fun b z => absurd rfl z) fun z => absurd rfl z
  | none =>
    refine core (fun b => if b = a then some (.frz { cls := .type "list", data := .seq vs.toArray } (.lst (ns.map V.int))) else none) (fun b => ?_) (.inl (.inr ⟨{ cls := .type "list", data := .seq vs.toArray }, if_pos rfl⟩)) (fun b u z => ?_) (fun b z => ?_) fun _ => hk
    · by_cases hb : b = a
      · exact .inr ⟨_, _, if_pos hb⟩
      · exact .inl (if_neg hb)
    · by_cases hb : b = a
      · have z' := (if_pos hb).symm.trans z
        cases z'
        subst hb
        exact ⟨ha, by rw [List.length_map]; exact hl, vs, _, rv, ha⟩
      · have z' := (if_neg hb).symm.trans z
        cases z'
    · by_cases hb : b = a
      · exact hb
      · exact absurd (if_neg hb) z
end L2
namespace L2
open PySem PySem.Spec PyProof.Rows
end L2
namespace L2
open PySem PySem.Spec PyProof.Rows
def defArgs (s : Stmt) : Arguments := match s with
  | .FunctionDef _ a _ _ _ _ _ _ _ _ => a
  | _ => { posonlyargs := [], args := [], vararg := none, kwonlyargs := [], kw_defaults := [], kwarg := none, defaults := [] }
def defBody (s : Stmt) : List Stmt := match s with
  | .FunctionDef _ _ b _ _ _ _ _ _ _ => b
  | _ => []
def defScope (s : Stmt) : Scope := match s with
  | .FunctionDef _ _ _ _ _ _ sc _ _ _ => sc
  | _ => { kind := .function, names := [], isGenerator := false, isCoroutine := false }
abbrev CX0 : CXT := fun _ _ _ _ _ _ => False
abbrev E0 : XK := fun _ _ _ => False
theorem pass0 {X : Cx} : Passes CX0 X E0 := fun _ _ _ _ _ _ _ h => h.elim
structure Fun (K : PySem.W.Frag) (x qual : Str) (st : Stmt) (f : Addr) (fd : FuncData) : Prop where
  ex : ∃ (oc : Value) (od : Option Addr) (kV doc pm : Value) (an : Option Addr) (cdv ct : Value) (osl : Array (Option Value)),
    fd = PySem.W.fnOf x qual (defArgs st) (defBody st) (defScope st) .none kV doc pm an cdv ct ∧ K.lookup f = some ⟨oc, od, .func fd, osl⟩ ∧ PySem.W.codeIn K cdv qual = true
  kp : PySem.W.keepIn K (.ref f) = true
section
variable {P : Program} {w : World} {K : PySem.W.Frag} {mg : Str → Option Value} {base : Heap}
/-- THE RULE for a def: its body as a term of rules, and the reading of that term -/
theorem Fun.ok {x qual : Str} {st : Stmt} {f : Addr} {fd : FuncData} {N ps : List Str} {k : Nat} {sp : Sp} (F : Fun K x qual st f fd) (S : FnScope N ps (defScope st)) (len : ∀ vs H Q E, sp vs H Q E → vs.length = ps.length)
    (hbody : ∀ (cdv : Value) (A : Around) (outer : List Env) (s : Shared) (H : Hp) (vs : List V) (Q : VK) (E : XK), Room k (A.deeper (envOfC qual (defScope st) s.heap.objs.size f cdv)) → sp vs H Q E →
      ∃ t, PSs (cxOf CX0 P w K mg base N qual (defScope st) f cdv A outer s H E).nox (defBody st) t ∧ t { nx := fun _ H' => Q .non H', rt := Q } (start N vs) H) : FnOk P w K mg base CX0 (k + 1) f fd ps sp := by
  obtain ⟨oc, od, kV, doc, pm, an, cdv, ct, osl, rfl, lk, hcd⟩ := F.ex
  refine fn_of lk hcd S len fun A outer s H vs Q E hr hsp => ?_
  obtain ⟨t, h, q⟩ := hbody cdv A outer s H vs Q E hr hsp
  exact ⟨t, h.nox, q⟩
/-- how its arguments bind (no defaults): h is «fun _ _ _ _ _ _ us hl => match us, hl with | [_, _], _ => rfl», one _ a parameter -/
theorem Fun.binds {x qual : Str} {st : Stmt} {f : Addr} {fd : FuncData} {ps : List Str} (F : Fun K x qual st f fd)
    (h : ∀ (kV doc pm : Value) (an : Option Addr) (cdv ct : Value) (us : List Value), us.length = ps.length → bindArgs (PySem.W.fnOf x qual (defArgs st) (defBody st) (defScope st) .none kV doc pm an cdv ct) ⟨us, []⟩ = pure (ps.zip us)) : Binds K fd ps [] := by
  obtain ⟨oc, od, kV, doc, pm, an, cdv, ct, osl, rfl, lk, hcd⟩ := F.ex
  exact .all (h kV doc pm an cdv ct)
theorem fun_mk {x qual : Str} {st : Stmt} {f : Addr} {oc : Value} {od an : Option Addr} {osl : Array (Option Value)} {kV doc pm cdv ct : Value} (l : K.lookup f = some ⟨oc, od, .func (PySem.W.fnOf x qual (defArgs st) (defBody st) (defScope st) .none kV doc pm an cdv ct), osl⟩)
    (c : PySem.W.codeIn K cdv qual = true) (k : PySem.W.keepIn K (.ref f) = true) : Fun K x qual st f (PySem.W.fnOf x qual (defArgs st) (defBody st) (defScope st) .none kV doc pm an cdv ct) := ⟨⟨oc, od, kV, doc, pm, an, cdv, ct, osl, rfl, l, c⟩, k⟩
end
theorem small1000 {n : Nat} (h : n ≤ 1000) : n < sizeLine := Nat.lt_of_le_of_lt h (by decide)
section
variable {X : Cx}
theorem pv (i : Nat) {x : Str} {pos : Pos} (hN : X.N[i]? = some x := by rfl) (hv : Vis X.env.scope x := by first | exact Or.inl rfl | exact Or.inr (Or.inl rfl) | exact Or.inr (Or.inr rfl)) (hd : (x == ("__debug__" : Str)) = false := by decide)
    (hcd : (x == ("__classdict__" : Str)) = false := by decide) : PE X (.Name x pos) (tVar i) := pe_var hN hv hd hcd
end
theorem iteF {A B : Prop} (h : B) : if false = true then A else B := by
  rw [if_neg Bool.false_ne_true]
  exact h
theorem iteT {A B : Prop} (h : A) : if true = true then A else B := by
  rw [if_pos rfl]
  exact h
theorem ite2 {c A B : Prop} [Decidable c] (h1 : c → A) (h2 : ¬ c → B) : if c then A else B := by
  by_cases h : c
  · rw [if_pos h]
    exact h1 h
  · rw [if_neg h]
    exact h2 h
/-- all that was tracked is as it was -/
def Same (H H' : Hp) : Prop := ∀ b o, H b = some o → H' b = some o
theorem Same.refl (H : Hp) : Same H H := fun _ _ h => h
theorem Same.trans {H H1 H2 : Hp} (a : Same H H1) (b : Same H1 H2) : Same H H2 := fun c o h => b c o (a c o h)
theorem Same.free {H H' : Hp} (e : Same H H') {l : Addr} (h : H' l = Option.none) : H l = Option.none := by
  cases q : H l with
  | none => rfl
  | some o =>
    rw [e l o q] at h
    cases h
theorem Same.seq {K : PySem.W.Frag} {H H' : Hp} {a : Addr} {xs : List V} (e : Same H H') (h : SqL K H a xs) : SqL K H' a xs := by
  rcases h with (h | ⟨o, h⟩) | h
  · exact .inl (.inl (e _ _ h))
  · exact .inl (.inr ⟨o, e _ _ h⟩)
  · exact .inr h
section
variable {κ : Type} [DecidableEq κ]
end
theorem at_of {xs : List V} {z : Int} {j : Nat} {v : V} (e : z = (j : Int)) (h : xs[j]? = some v) : atI xs z = some v := by
  rw [e]
  exact atI_nat h
/-- a new instance and its __init__ leave all that was tracked as it was -/
theorem Same.made {H H1 : Hp} {x dx C : Addr} (nx : H x = Option.none) (nd : H dx = Option.none) (k : ∀ b o, (upd (upd H dx (.own x)) x (.ins C dx [])) b = some o → b ≠ x → H1 b = some o) : Same H H1 := fun b o e =>
  k b o (by rw [upd_ne (ne_of_none e nx), upd_ne (ne_of_none e nd)]; exact e) (ne_of_none e nx)
end L2
set_option Elab.async false
set_option linter.all false
set_option maxRecDepth 100000
set_option maxHeartbeats 4000000
namespace L2
open PySem PySem.Spec PyProof.Rows
section
variable {X : Cx}
end
def strsOf : List Expr → Option (List Str)
  | [] => some []
  | .Constant (.str x) _ _ :: r => (strsOf r).map (x :: ·)
  | _ => none
theorem pa_strs {X : Cx} : ∀ {es : List Expr} {xs : List Str}, strsOf es = some xs → PA X es (fun _ H Q => Q (xs.map V.str) H)
  | [], xs, h => by
    have e : xs = [] := (Option.some.inj h).symm
    subst e
    exact pa_nil
  | e :: r, xs, h => by
    unfold strsOf at h
    split at h
    · rename_i h0; cases h0
    · rename_i x j p r' h0
      injection h0 with h1 h2
      subst h1 h2
      cases hr : strsOf r with
      | none => rw [hr] at h; cases h
      | some ys =>
        rw [hr] at h
        have e : xs = x :: ys := (Option.some.inj h).symm
        subst e
        have ih := pa_strs (X := X) hr
        exact fun pins pos s σ H Q I hq => pa_cons pe_str ih rfl pos s σ H Q I hq
    · cases h
def lst1 : Stmt → List Expr
  | .Assign _ (.List es _) _ => es
  | .Assign _ (.BinOp _ _ (.List es _) _) _ => es
  | .Assign _ (.Subscript (.List es _) _ _) _ => es
  | .For _ (.List es _) _ _ _ => es
  | .Return (some (.Tuple (.Subscript (.List es _) _ _ :: _) _ _)) _ => es
  | .Return (some (.Tuple (.Call (.Attribute (.List es _) _ _) _ _ _ :: _) _ _)) _ => es
  | _ => []
def put1 (es : List Expr) : Stmt → Stmt
  | .Assign ts (.List _ p) q => .Assign ts (.List es p) q
  | .Assign ts (.BinOp l op (.List _ p) p2) q => .Assign ts (.BinOp l op (.List es p) p2) q
  | .Assign ts (.Subscript (.List _ p) i p2) q => .Assign ts (.Subscript (.List es p) i p2) q
  | .For t (.List _ p) b e q => .For t (.List es p) b e q
  | .Return (some (.Tuple (.Subscript (.List _ p) i p2 :: r) k p3)) q => .Return (some (.Tuple (.Subscript (.List es p) i p2 :: r) k p3)) q
  | .Return (some (.Tuple (.Call (.Attribute (.List _ p) m p2) as ks p3 :: r) k p4)) q => .Return (some (.Tuple (.Call (.Attribute (.List es p) m p2) as ks p3 :: r) k p4)) q
  | s => s
def lstOf : Stmt → List Expr
  | .If _ (s :: _) _ _ => lst1 s
  | s => lst1 s
def putL (es : List Expr) : Stmt → Stmt
  | .If c (s :: r) e p => .If c (put1 es s :: r) e p
  | s => put1 es s
def fillAt (es : List Expr) : Nat → List Stmt → List Stmt
  | _, [] => []
  | 0, s :: r => putL es s :: r
  | i + 1, s :: r => s :: fillAt es i r
abbrev stAt (b : List Stmt) (i : Nat) : Stmt := b.getD i (.Pass ⟨0, 0, 0, 0⟩)
def SameBut (k : Addr) (H H' : Hp) : Prop := ∀ b o, H b = some o → b ≠ k → H' b = some o
theorem SameBut.refl {k : Addr} {H : Hp} : SameBut k H H := fun _ _ h _ => h
theorem SameBut.trans {k : Addr} {H H1 H2 : Hp} (a : SameBut k H H1) (b : SameBut k H1 H2) : SameBut k H H2 := fun c o h e => b c o (a c o h e) e
theorem SameBut.upd {k : Addr} {H : Hp} {o : HO} : SameBut k H (upd H k o) := fun b u h e => by rw [upd_ne e]; exact h
theorem SameBut.new {k p : Addr} {H : Hp} {o : HO} (h : H p = none) : SameBut k H (L2.upd H p o) := fun b u q e => by rw [upd_ne (ne_of_none q h)]; exact q
theorem Same.but {k : Addr} {H H' : Hp} (h : Same H H') : SameBut k H H' := fun b o e _ => h b o e
theorem same_new {H : Hp} {p : Addr} (h : H p = none) (o : HO) : Same H (upd H p o) := fun b u q => by rw [upd_ne (ne_of_none q h)]; exact q
theorem at_lt {xs : List V} {i : Int} (h0 : 0 ≤ i) (h1 : i < (xs.length : Int)) : ∃ v, v ∈ xs ∧ atI xs i = some v := by
  have h2 : i.toNat < xs.length := by omega
  refine ⟨xs[i.toNat], List.getElem_mem h2, at_of (j := i.toNat) (by omega) (List.getElem?_eq_getElem h2)⟩
/-- a block cut behind its first statement: R is what is known there -/
theorem seq_cut {t u : TS} {D : Ends} {σ : St} {H : Hp} (R : St → Hp → Prop) (h1 : ∀ nx : St → Hp → Prop, (∀ σ' H', R σ' H' → nx σ' H') → t { D with nx := nx } σ H) (h2 : ∀ σ' H', R σ' H' → u D σ' H') : tSeq t u D σ H := h1 (u D) h2
theorem iteB {c : Bool} {A B : Prop} (h1 : c = true → A) (h2 : c = false → B) : if c = true then A else B := by
  cases c with
  | true => rw [if_pos rfl]; exact h1 rfl
  | false => rw [if_neg Bool.false_ne_true]; exact h2 rfl
end L2
set_option Elab.async false
set_option linter.all false
set_option maxRecDepth 100000
set_option maxHeartbeats 4000000
namespace L2
open PySem PySem.Spec PyProof.Rows
section
variable {X : Cx}
/-- isinstance(x, T), T one built-in class -/
theorem call_isi : CallR X (.builtin "isinstance") (fun xs H Q => ∃ x T t b, xs = [x, .ty T] ∧ TyOf X.K H x t ∧ PySem.W.kitOne X.K t (.type T) = some b ∧ Q (.bl b) H) := by
  intro pins s σ H xs us Q I r h
  obtain ⟨x, T, t, b, rfl, ty, e, q⟩ := h
  obtain ⟨u, w', rfl, rx, ry⟩ := vals2 r
  cases ry
  exact isinst_ok I rx ty e fun tk => ⟨.bl b, H, I.tok _, rfl, q⟩
/-- str(x) of a text or a number -/
def StrV : V → Str → Prop
  | .int i, y => i.natAbs.log2 < 1920 ∧ y = toString i
  | .str x, y => y = x
  | _, _ => False
theorem call_strV : CallR X (.type "str") (fun xs H Q => ∃ x y, xs = [x] ∧ StrV x y ∧ Q (.str y) H) := by
  intro pins s σ H xs us Q I r h
  obtain ⟨x, y, rfl, hs, q⟩ := h
  cases x with
  | int i =>
    obtain ⟨hd, rfl⟩ := hs
    exact call_str_int s σ H _ us Q I r ⟨i, rfl, hd, q⟩
  | str z =>
    have e : y = z := hs
    subst e
    obtain ⟨u, rfl, ru⟩ := vals1 r
    obtain ⟨t, rfl⟩ := ru
    exact PySem.P.str_of_str ⟨.str y, H, I, ⟨_, rfl⟩, q⟩
  | _ => exact hs.elim
end
end L2
set_option Elab.async false
set_option linter.all false
set_option maxRecDepth 100000
set_option maxHeartbeats 4000000
namespace L2
open PySem PySem.Spec PyProof.Rows
section
variable {X : Cx} {CX : CXT} {k : Nat} {f : Addr} {fd : FuncData} {ps ks : List Str} {sp : Sp} {E : XK} {x : Str} {p pos : Pos} {kws : List Keyword} {tk : TA} {g : List Value → List Value → List Value} {gV : List V → List V → List V}
/-- f(k = v, ..), keywords alone -/
theorem pe_callK0 (F : FnOk X.prog X.w X.K X.mg X.base CX k f fd ps sp) (hr : Room k X.A) (hg : Gl X x) (hm : X.mg x = some (.ref f)) (hk : PySem.W.keepIn X.K (.ref f) = true) (hb : KBinds X.K fd ps ks g gV) (hx : Passes CX X E) (hkw : PK X kws tk)
    (hall : (backToKw pos (keywordEach kws X.env)).all (·.1.isSome) = true := by rfl) (hks : (backToKw pos (keywordEach kws X.env)).filterMap (·.1) = ks := by rfl) (hdb : (x == ("__debug__" : Str)) = false := by decide)
    (hpl : ((backTo pos (starEach [] X.env)).any (·.1) || (backToKw pos (keywordEach kws X.env)).any (·.1.isNone)) = false := by rfl) :
    PE X (.Call (.Name x p) [] kws pos) (fun σ H Q => tk σ H fun zs H2 => sp (gV [] zs) H2 Q E) := by
  intro pins s σ H Q I h
  refine wpAny_Call_Name_kw (ld_glob I hg hm ?_ hdb)
  refine PySem.W.callWith_KW0 (h₀ := X.base) I.ok.mod.kin hk hall (thn (hkw pos s σ H _ I h) fun ws s2 ⟨zs, H2, I2, rz, q2⟩ => ⟨I2.kIn, ?_⟩) hpl
  rw [hks]
  exact run_fnk F hr hb hx I2 .nil rz q2
end
end L2
set_option Elab.async false
set_option linter.all false
set_option maxRecDepth 100000
set_option maxHeartbeats 4000000
namespace L2
open PySem PySem.Spec PyProof.Rows
section
variable {X : Cx}
/-- a list + a list, read alone -/
theorem op_catS : OpR X (binaryOp .Add) (fun x y H Q => ∃ l b xs zs, x = .ref l ∧ y = .ref b ∧ SqL X.K H l xs ∧ SqL X.K H b zs ∧ xs.length + zs.length ≤ sizeLine ∧ ∀ p, H p = none → Q (.ref p) (upd H p (.lst (xs ++ zs)))) := by
  intro pins s σ H x y v u Q I rx ry h
  obtain ⟨l, b, xs, zs, rfl, rfl, hH, hB, hz, q⟩ := h
  cases rx
  cases ry
  obtain ⟨its, r, p1, _⟩ := I.list hH
  obtain ⟨its2, r2, p2, _⟩ := I.list hB
  have z1 := r.length
  have z2 := r2.length
  obtain ⟨⟨c1, d1, da1, s1⟩, ho1, hc1, n1, hd1⟩ := p1.isList
  obtain ⟨⟨c2, d2, da2, s2⟩, ho2, hc2, n2, hd2⟩ := p2.isList
  simp only at hc1 hd1 hc2 hd2
  subst hc1 hd1 hc2 hd2
  have ea : its.toArray ++ its2.toArray = (its ++ its2).toArray := by simp
  refine concat_meets ⟨_, ho1, rfl⟩ ⟨_, ho2, rfl⟩ noFill_list_add seq_list_add F.slot_list_add F.entry_list_add (F.args_list_add_2 _ _) (list_addW l b its.toArray its2.toArray n1 n2 d1 d2 s1 s2 (by simp; omega)) ⟨ho1, ho2, ?_⟩
  rw [ea]
  exact ⟨.ref _, _, I.lnew (t' := s.toks) (r.append r2) (by rw [List.length_append]; omega), rfl, q _ I.fresh⟩
end
end L2
set_option Elab.async false
set_option linter.all false
set_option maxRecDepth 100000
set_option maxHeartbeats 4000000
namespace PyProof.Rows.GX
open PySem PySem.W PyProof.Rows PyProof.Rows.G
section
variable {prog : Program} {w : World} {A : Around} {E : Value → Shared → Prop} {s : Shared} {a kS : Addr} {e e1 : Nat} {keys : Array Value} {vs : List Value} {shape : Nat → Bool} {fs : List Value} {P : PySem.Fin → Shared → Prop}
theorem tail_G {st : SortSt} (hk : s.heap.get? kS = some (seqObj "list" keys e)) (ha : s.heap.get? a = some (seqObj "list" #[] e1)) (hka : kS ≠ a) (hsz : keys.size = vs.length) (hZ : vs.length ≤ sizeLine)
    (hp : (arrOf st).Perm (keys.zip vs.toArray)) (hfl : failedOf st = none)
    (h : P (.done (.ret .none)) { s with heap := (s.heap.update kS (Obj.mapSeq fun _ => (#[] : Array Value))).update a (Obj.mapSeq fun _ => (arrOf st).map (·.2)) }) :
    wpAny (model prog w) A (ksk_tail a false e1 (.ref kS) st) P E s := by
  have hZ2 := hZ
  rw [sizeLine_eq] at hZ2
  have hsz2 : (arrOf st).size = vs.length := by rw [hp.size_eq, Array.size_zip, hsz, List.size_toArray, Nat.min_self]
  have hout : ((arrOf st).map (·.2)).size = vs.length := by rw [Array.size_map]; exact hsz2
  have s1 := Heap.SameBut.update s.heap kS (Obj.mapSeq fun _ => (#[] : Array Value))
  have na1 : (s.heap.update kS (Obj.mapSeq fun _ => (#[] : Array Value))).get? a = some (seqObj "list" #[] e1) := (s1.2 a hka.symm).trans ha
  unfold ksk_tail
  try dsimp only
  refine wpAny_bind (listUpdate_at hk rfl ?_ (by rw [hsz, sizeLine_eq]; omega) (Nat.zero_le _))
  refine wpAny_bind (wpAny_letGo ?_)
  refine wpAny_bind (seqEpoch_at na1 rfl ?_)
  refine wpAny_bind (listUpdate_at na1 rfl ?_ (Nat.zero_le _) (by simp only [Bool.false_eq_true, if_false]; rw [hout, sizeLine_eq]; omega))
  rw [hfl]
  simp only [bne_self_eq_false, Bool.false_eq_true, if_false]
  exact wpAny_pure h
theorem end_G (hk : s.heap.get? kS = some (seqObj "list" keys e)) (ha : s.heap.get? a = some (seqObj "list" #[] e1)) (hka : kS ≠ a) (hsz : keys.size = vs.length) (hZ : vs.length ≤ sizeLine)
    (ht : TupsOf s.heap shape keys.toList fs) (hkk : ∀ v, v ∈ keys.toList → ∃ l, tupKeyC s.heap shape v = some l)
    (h : ∀ st' : SortSt, (arrOf st').Perm (keys.zip vs.toArray) → SortedToK (tupKindC s.heap shape) (arrOf st') (arrOf st').size → Stable (tupKindC s.heap shape) (arrOf st') (keys.zip vs.toArray) →
      P (.done (.ret .none)) { s with heap := (s.heap.update kS (Obj.mapSeq fun _ => (#[] : Array Value))).update a (Obj.mapSeq fun _ => (arrOf st').map (·.2)) }) :
    wpAny (model prog w) A (ksk_end a false vs.toArray e1 (.ref kS) keys) P E s := by
  have hzs : (keys.zip vs.toArray).size = vs.length := by rw [Array.size_zip, hsz, List.size_toArray, Nat.min_self]
  have hkeys : KeysOf (tupKindC s.heap shape) (keys.zip vs.toArray) := by
    intro p hp
    rw [Array.toList_zip] at hp
    exact hkk p.1 (List.of_mem_zip hp).1
  unfold ksk_end
  try dsimp only
  simp only [Bool.false_eq_true, if_false]
  by_cases h2 : vs.toArray.size < 2
  · rw [if_pos h2, if_pos h2]
    refine wpAny_bind (wpAny_pure ?_)
    rw [StateT.run_pure]
    refine wpAny_bind (wpAny_pure ?_)
    try dsimp only
    refine tail_G (st := SortSt.mk' general' (keys.zip vs.toArray) #[] 7 none) hk ha hka hsz hZ (Array.Perm.refl _) rfl (h (SortSt.mk' general' (keys.zip vs.toArray) #[] 7 none) (Array.Perm.refl _) ?_ (Stable.refl _))
    intro i j hij hj
    have hj2 : j < (keys.zip vs.toArray).size := hj
    rw [hzs] at hj2
    rw [List.size_toArray] at h2
    have : i = j := by omega
    subst this
    exact KeyOrd.kle_refl _
  · rw [if_neg h2, if_neg h2]
    rw [List.size_toArray] at h2
    have hfl : 0 < fs.length := by
      rw [TupsOf.length ht, Array.length_toList]
      omega
    have ek : keys = keys.toList.toArray := by simp
    have hkd : wpAny (model prog w) A (keyKind' keys) (fun κ s' => κ = tuples' true ∧ s' = s) E s := by
      rw [ek]
      exact tup_kind hfl ht ⟨rfl, rfl⟩
    refine wpAny_bind (wpAny_mono hkd (fun κ s' hh => ?_) fun _ _ x => x)
    obtain ⟨rfl, rfl⟩ := hh
    refine wpAny_bind (wpAny_mono (PyProof.Rows.G.wpS_sortRunsSt (κ := tupKindC s'.heap shape) (kd := tuples' true) (a₀ := keys.zip vs.toArray) (st := SortSt.mk' (tuples' true) (keys.zip vs.toArray) #[] 7 none)
      (Q := fun _ st' => (arrOf st').Perm (keys.zip vs.toArray) ∧ failedOf st' = none ∧ SortedToK (tupKindC s'.heap shape) (arrOf st') (arrOf st').size ∧ Stable (tupKindC s'.heap shape) (arrOf st') (keys.zip vs.toArray))
      (tupC_ltAt true (KeepsTups.refl _)) hkeys ⟨Array.Perm.refl _, rfl, rfl⟩ rfl (Stable.refl _) (by rw [hzs]; omega) fun st' a1 a2 a3 a4 => ⟨a1, a2, by rw [a1.size_eq]; exact a3, a4⟩) ?_ fun _ _ e => e)
    rintro ⟨⟨⟩, st'⟩ s'' ⟨rfl, hp, hf, hs, hst⟩
    try dsimp only
    exact tail_G hk ha hka hsz hZ hp hf (h st' hp hs hst)
end
end PyProof.Rows.GX
set_option Elab.async false
set_option linter.all false
set_option maxRecDepth 100000
set_option maxHeartbeats 4000000
namespace L2
open PySem PySem.Spec PyProof.Rows
section
variable {X : Cx} {pins : List (Addr × Obj)} {σ : St} {H : Hp} {s : Shared} {h' : Heap}
/-- several records of ours have turned, and one of them is tracked from now on -/
theorem Inv.adopt {t' : Nat} {ch : List Addr} {T : Addr} {ob : HO} (I : Inv X pins σ H s) (k : ∀ b o, b ∉ ch → s.heap.get? b = some o → h'.get? b = some o) (hf : ∀ b ∈ ch, FpOk X pins H b) (hT : T ∈ ch)
    (new : ObjOk X.prog X.w (upd H T ob) h' T ob) : Inv X pins σ (upd H T ob) { s with heap := h', toks := t' } := by
  have hn : H T = none := (hf T hT).1
  have nit : ∀ b u, H b = some u → b ∉ ch := fun b u e z => by
    have q := (hf b z).1
    rw [q] at e; cases e
  refine I.step (g' := s.gens) (d' := s.drawn) (ch := ch) (fun b hb => ⟨(hf b hb).2.2.2.1, (hf b hb).2.1, (hf b hb).2.2.2.2.1, (hf b hb).2.2.2.2.2⟩) (fun b o _ _ hc e _ => k b o hc e) (fun b o _ _ hc e _ => ⟨o.slots, k b o hc e⟩)
    (fun b o hc e n => ?_) (fun b o hc e => ⟨o, k b o hc e⟩) (fun b xs e => ?_) (fun b o u e => ?_) (fun b ps e => ⟨#[], ?_⟩) (fun m hm => ?_) (fun b u e => ?_) I.bare.self
  · rw [upd_ne (show b ≠ T from fun z => hc (by rw [z]; exact hT))]; exact n
  · rw [upd_ne (ne_of_none e hn)]; exact e
  · rw [upd_ne (ne_of_none e hn)]; exact e
  · rw [upd_ne (ne_of_none e hn), e]; simp
  · obtain ⟨o, es, ep, ho, r⟩ := hm
    exact ⟨o, es, ep, k _ o (fun z => (hf _ z).2.1 rfl) ho, r⟩
  · by_cases hb : b = T
    · subst hb
      rw [upd_same] at e
      cases e
      exact new
    · rw [upd_ne hb] at e
      refine (I.hok b u e).stay (fun c v hc q => k c v ?_ q) (fun c q => by rw [upd_ne (ne_of_none q hn)]; exact q) fun c xs q => by rw [upd_ne (ne_of_none q hn)]; exact q
      rcases hc with z | z
      · rw [z]; exact nit b u e
      · exact nit c _ z
/-- a def called from within a built-in of a built-in -/
theorem run_in2 {k : Nat} {f : Addr} {fd : FuncData} {ps : List Str} {sp : Sp} {Q : VK} {us : List Value} {vs : List V} (F : FnOk X.prog X.w X.K X.mg X.base CX0 k f fd ps sp) (hr : Room k X.A.in1.in1) (hb : Binds X.K fd ps [])
    (I : Inv X pins σ H s) (r : Vals vs us) (h : sp vs H Q E0) : wpAny (model X.prog X.w) X.A.in1.in1 (call (.ref f) us) (EP X pins σ Q) (fun _ _ => False) s := by
  have hl : (us ++ []).length = ps.length := by rw [List.append_nil, ← r.length]; exact F.len _ _ _ _ h
  have hbb := hb s us I.kIn hl
  rw [List.append_nil] at hbb
  refine wpAny_call (codeAny_mono (F.run X.A.in1.in1 X.stack s H ⟨us, []⟩ us vs Q E0 hr I.env0.in1.in1 hbb r h) fun r s' hq => ?_)
  cases r with
  | error e => exact hq
  | ok fl =>
    cases fl with
    | ret u => exact I.after hq
    | next => exact False.elim hq
    | brk => exact False.elim hq
    | cont => exact False.elim hq
end
abbrev KVt := Int × List Nat
abbrev emb (p : KVt) : List (Int ⊕ List Nat) := [Sum.inl p.1, Sum.inr p.2]
def kvLt (p q : KVt) : Bool := (listOrd itemOrd).blt (emb p) (emb q)
def shp (i : Nat) : Bool := i == 1
/-- what a stable sort by keys gives -/
def SortRes (ks : List KVt) (xs ys : List V) : Prop :=
  ∃ ps : List (KVt × V), ps.Perm (ks.zip xs) ∧ ps.Pairwise (fun p q => kvLt q.1 p.1 = false) ∧ (∀ c : KVt, ps.filter (fun p => decide (p.1 = c)) = (ks.zip xs).filter (fun p => decide (p.1 = c))) ∧ ys = ps.map Prod.snd
def KeysAt (H : Hp) : List Value → List KVt → Prop := Paired fun u kv => ∃ t x, u = Value.ref t ∧ H t = some (.tup [.int kv.1, .str x]) ∧ kv.2 = x.cps.toList
theorem KeysAt.keep {H H' : Hp} (h : Same H H') : ∀ {us : List Value} {ks : List KVt}, KeysAt H us ks → KeysAt H' us ks
  | _, _, .nil => .nil
  | _, _, .cons ⟨t, x, e1, e2, e3⟩ r => .cons ⟨t, x, e1, h _ _ e2, e3⟩ (KeysAt.keep h r)
theorem KeysAt.snoc {H : Hp} {u : Value} {kv : KVt} (h : ∃ t x, u = Value.ref t ∧ H t = some (.tup [.int kv.1, .str x]) ∧ kv.2 = x.cps.toList) : ∀ {us : List Value} {ks : List KVt}, KeysAt H us ks → KeysAt H (us ++ [u]) (ks ++ [kv])
  | _, _, .nil => .cons h .nil
  | _, _, .cons a r => .cons a (KeysAt.snoc h r)
theorem KeysAt.length {H : Hp} {us : List Value} {ks : List KVt} (h : KeysAt H us ks) : us.length = ks.length := Paired.length h
section
variable {X : Cx} {pins : List (Addr × Obj)} {σ : St} {H : Hp} {s : Shared}
/-- a key on the concrete heap -/
theorem key_obj (I : Inv X pins σ H s) {t : Addr} {r : Int} {x : Str} (h : H t = some (.tup [.int r, .str x])) :
    ∃ o n t1 t2, s.heap.get? t = some o ∧ o.cls = .type "tuple" ∧ o.data = .seq #[.int r t1, .str x t2] n := by
  obtain ⟨its, rv, ⟨o, ho, hc, n, hd⟩, _⟩ := I.tuple (SqT.of (K := X.K) h)
  cases rv with
  | cons r1 rv =>
    cases rv with
    | cons r2 rv =>
      cases rv
      obtain ⟨t1, rfl⟩ := r1
      obtain ⟨t2, rfl⟩ := r2
      exact ⟨o, n, t1, t2, ho, hc, hd⟩
theorem keyC_of (I : Inv X pins σ H s) {t : Addr} {r : Int} {x : Str} (h : H t = some (.tup [.int r, .str x])) : PyProof.Rows.G.tupKeyC s.heap shp (.ref t) = some (emb (r, x.cps.toList)) := by
  obtain ⟨o, n, t1, t2, ho, hc, hd⟩ := key_obj I h
  have e1 : PyProof.Rows.G.isTupObj s.heap (.ref t) = true := by
    simp only [PyProof.Rows.G.isTupObj, ho, hc]
    rfl
  unfold PyProof.Rows.G.tupKeyC
  rw [if_pos e1]
  simp only [PyProof.Rows.tupKey, ho, hd]
  rfl
theorem tups_of (I : Inv X pins σ H s) : ∀ {us : List Value} {ks : List KVt}, KeysAt H us ks → ∃ fs, TupsOf s.heap shp us fs
  | _, _, .nil => ⟨[], .nil⟩
  | _, _, .cons ⟨t, x, e1, e2, e3⟩ r => by
    obtain ⟨fs, hr⟩ := tups_of I r
    obtain ⟨o, n, t1, t2, ho, hc, hd⟩ := key_obj I e2
    exact ⟨_ :: fs, .cons ⟨t, o, _, n, e1, ho, hc, hd, rfl, fun _ => ⟨_, _, rfl⟩, fun z => nomatch z⟩ hr⟩
end
end L2
set_option Elab.async false
set_option linter.all false
set_option maxRecDepth 100000
set_option maxHeartbeats 4000000
namespace L2
open PySem PySem.Spec PyProof.Rows
def gKey (h : Heap) (u : Value) : KVt := match PyProof.Rows.G.tupKeyC h shp u with
  | some [Sum.inl r, Sum.inr x] => (r, x)
  | _ => (0, [])
def gPair (h : Heap) (p : Value × Value) : KVt × V := (gKey h p.1, (absV p.2).getD .non)
section
variable {X : Cx} {pins : List (Addr × Obj)} {σ : St} {H : Hp} {s : Shared}
theorem gKey_of {h : Heap} {u : Value} {kv : KVt} (e : PyProof.Rows.G.tupKeyC h shp u = some (emb kv)) : gKey h u = kv := by
  unfold gKey
  rw [e]
theorem keys_all (I : Inv X pins σ H s) : ∀ {us : List Value} {ks : List KVt}, KeysAt H us ks → ∀ v ∈ us, ∃ kv, PyProof.Rows.G.tupKeyC s.heap shp v = some (emb kv)
  | _, _, .nil => fun v hv => by cases hv
  | _, _, .cons ⟨t, x, e1, e2, e3⟩ r => fun v hv => by
    rcases List.mem_cons.mp hv with rfl | hv
    · subst e1
      exact ⟨_, keyC_of I e2⟩
    · exact keys_all I r v hv
theorem zip_map (I : Inv X pins σ H s) : ∀ {us : List Value} {ks : List KVt} {xs : List V} {vs : List Value}, KeysAt H us ks → Vals xs vs → (us.zip vs).map (gPair s.heap) = ks.zip xs
  | _, _, _, _, .nil, _ => by simp
  | _, _, _, _, .cons _ _, .nil => by simp
  | _, _, _, _, .cons ⟨t, x, e1, e2, e3⟩ r, .cons rx rr => by
    rw [List.zip_cons_cons, List.zip_cons_cons, List.map_cons, zip_map I r rr]
    congr 1
    unfold gPair
    subst e1
    rw [gKey_of (keyC_of I e2), rx.abs]
    congr 1
    rename_i kv _ _ _ _ _
    exact Prod.ext rfl e3.symm
theorem emb_inj {p q : KVt} (h : emb p = emb q) : p = q := by
  injection h with h1 h2
  injection h2 with h3 _
  exact Prod.ext (Sum.inl.inj h1) (Sum.inr.inj h3)
theorem same_dec {c kv : KVt} : (!(listOrd itemOrd).blt (emb kv) (emb c) && !(listOrd itemOrd).blt (emb c) (emb kv)) = decide (kv = c) := by
  by_cases e : kv = c
  · subst e
    rw [decide_eq_true rfl, (listOrd itemOrd).irrefl]
    rfl
  · rw [decide_eq_false e]
    cases h1 : (listOrd itemOrd).blt (emb kv) (emb c) with
    | true => rfl
    | false =>
      cases h2 : (listOrd itemOrd).blt (emb c) (emb kv) with
      | true => rfl
      | false => exact absurd (emb_inj ((listOrd itemOrd).total _ _ h1 h2)) e
theorem filter_row {h : Heap} (c : KVt) : ∀ (l : List Keyed), (∀ p ∈ l, ∃ kv, PyProof.Rows.G.tupKeyC h shp p.1 = some (emb kv)) →
    (l.map (gPair h)).filter (fun p => decide (p.1 = c)) = (rowOf (PyProof.Rows.G.tupKindC h shp) (emb c) l).map (gPair h)
  | [], _ => rfl
  | p :: r, hh => by
    obtain ⟨kv, hk⟩ := hh p (List.mem_cons_self ..)
    have ih := filter_row c r fun q hq => hh q (List.mem_cons_of_mem _ hq)
    have e1 : (gPair h p).1 = kv := gKey_of hk
    have e2 : sameKey (PyProof.Rows.G.tupKindC h shp) (emb c) p = decide (kv = c) := by
      have hk' : (PyProof.Rows.G.tupKindC h shp).keyOf p.1 = some (emb kv) := hk
      unfold sameKey
      rw [hk']
      exact same_dec
    rw [List.map_cons, List.filter_cons, e1]
    unfold rowOf at ih ⊢
    rw [List.filter_cons, e2]
    by_cases e : kv = c
    · rw [decide_eq_true e, if_pos rfl, if_pos rfl, List.map_cons, ih]
    · rw [decide_eq_false e, if_neg (by simp), if_neg (by simp), ih]
theorem Vals.memR : ∀ {xs : List V} {us : List Value} {u : Value}, Vals xs us → u ∈ us → ∃ x, RelV x u
  | _, _, _, .nil, h => by cases h
  | _, _, _, .cons r t, h => by
    rcases List.mem_cons.mp h with rfl | h
    · exact ⟨_, r⟩
    · exact Vals.memR t h
theorem vals_pairs {h : Heap} : ∀ (l : List Keyed), (∀ p ∈ l, ∃ x, RelV x p.2) → Vals ((l.map (gPair h)).map Prod.snd) (l.map (·.2))
  | [], _ => .nil
  | p :: r, hh => by
    obtain ⟨x, hx⟩ := hh p (List.mem_cons_self ..)
    refine .cons ?_ (vals_pairs r fun q hq => hh q (List.mem_cons_of_mem _ hq))
    show RelV ((absV p.2).getD .non) p.2
    rw [hx.abs]
    exact hx
theorem sortRes_of (I : Inv X pins σ H s) {keys : Array Value} {vs : List Value} {ks : List KVt} {xs : List V} {out : Array Keyed} (hk : KeysAt H keys.toList ks) (hv : Vals xs vs)
    (hp : out.Perm (keys.zip vs.toArray)) (hs : SortedToK (PyProof.Rows.G.tupKindC s.heap shp) out out.size) (hst : Stable (PyProof.Rows.G.tupKindC s.heap shp) out (keys.zip vs.toArray)) :
    SortRes ks xs ((out.toList.map (gPair s.heap)).map Prod.snd) ∧ Vals ((out.toList.map (gPair s.heap)).map Prod.snd) (out.toList.map (·.2)) := by
  have hz : (keys.zip vs.toArray).toList = keys.toList.zip vs := by rw [Array.toList_zip]
  have hpl : out.toList.Perm (keys.toList.zip vs) := by
    rw [← hz]
    exact Array.perm_iff_toList_perm.mp hp
  have hka : ∀ p ∈ out.toList, ∃ kv, PyProof.Rows.G.tupKeyC s.heap shp p.1 = some (emb kv) := fun p h => keys_all I hk p.1 (List.of_mem_zip (hpl.mem_iff.mp h)).1
  have hkz : ∀ p ∈ keys.toList.zip vs, ∃ kv, PyProof.Rows.G.tupKeyC s.heap shp p.1 = some (emb kv) := fun p h => keys_all I hk p.1 (List.of_mem_zip h).1
  have em := zip_map I hk hv
  refine ⟨⟨out.toList.map (gPair s.heap), ?_, ?_, ?_, rfl⟩, ?_⟩
  · rw [← em]
    exact hpl.map _
  · have hpw := keyLe_of_sorted (κ := PyProof.Rows.G.tupKindC s.heap shp) (xs := out) (fun p h => by obtain ⟨kv, e⟩ := hka p h; exact ⟨_, e⟩) hs
    rw [List.pairwise_map]
    refine List.Pairwise.imp_of_mem ?_ hpw
    rintro p q hp1 hq1 ⟨a, b, e1, e2, hle⟩
    obtain ⟨kp, ep⟩ := hka p hp1
    obtain ⟨kq, eq⟩ := hka q hq1
    have e1 : PyProof.Rows.G.tupKeyC s.heap shp p.1 = some a := e1
    have e2 : PyProof.Rows.G.tupKeyC s.heap shp q.1 = some b := e2
    have hle : (listOrd itemOrd).blt b a = false := hle
    rw [ep] at e1
    rw [eq] at e2
    have e1 := Option.some.inj e1
    have e2 := Option.some.inj e2
    subst e1 e2
    show kvLt (gKey s.heap q.1) (gKey s.heap p.1) = false
    rw [gKey_of ep, gKey_of eq]
    exact hle
  · intro c
    rw [filter_row c _ hka, ← em, filter_row c _ hkz]
    have := hst (emb c)
    rw [hz] at this
    rw [this]
  · exact vals_pairs _ fun p h => Vals.memR hv (List.of_mem_zip (hpl.mem_iff.mp h)).2
end
end L2
set_option Elab.async false
set_option linter.all false
set_option maxRecDepth 100000
set_option maxHeartbeats 4000000
namespace L2
open PySem PySem.Spec PyProof.Rows
section
variable {X : Cx} {pins : List (Addr × Obj)} {σ : St} {H : Hp} {s : Shared}
/-- the keys made one by one, then the sort: from the state in which the list at a is emptied and the store at kS is new -/
theorem rest_key {a kS f : Addr} {e1 : Nat} {fd : FuncData} {p : Str} {sp : Sp} {k : Nat} {xs : List V} {ks : List KVt} {vs : List Value} {P : PySem.Fin → Shared → Prop} {E : Value → Shared → Prop}
    (I : Inv X pins σ H s) (rv : Vals xs vs) (hz : xs.length ≤ sizeLine) (hks : ks.length = xs.length)
    (ha : s.heap.get? a = some (seqObj "list" #[] e1)) (hk : s.heap.get? kS = some (seqObj "list" #[] 0)) (hka : kS ≠ a) (fa : FpOk X pins H a) (fk : FpOk X pins H kS)
    (F : FnOk X.prog X.w X.K X.mg X.base CX0 k f fd [p] sp) (hr : Room k X.A.in1.in1) (hb : Binds X.K fd [p] [])
    (turn : ∀ (i : Nat) (x : V) (kv : KVt), xs[i]? = some x → ks[i]? = some kv → ∀ (H1 : Hp) (Q1 : VK), Same H H1 → (∀ t y H2, Same H1 H2 → H2 t = some (.tup [.int kv.1, .str y]) → kv.2 = y.cps.toList → Q1 (.ref t) H2) → sp [x] H1 Q1 E0)
    (done : ∀ (s' : Shared) (H1 : Hp) (ys : List V), Same H H1 → H1 a = none → SortRes ks xs ys → Inv X pins σ (upd H1 a (.lst ys)) s' → P (.done (.ret .none)) s') :
    wpAny (model X.prog X.w) X.A.in1.in1 (ksk_rest a (.ref f) false vs.toArray e1 (.ref kS)) P E s := by
  have hvl := rv.length
  have hZ2 := hz
  rw [sizeLine_eq] at hZ2
  unfold ksk_rest
  refine wpAny_bind (wpAny_rule ?_)
  first
    | rw [List.forIn_toArray]
    | (rw [← Array.forIn_toList]; simp only [List.toList_toArray])
    | rw [← Array.forIn_toList]
  refine wpAny_bind (ksk_fold (fun i s' => ∃ (H1 : Hp) (kA : Array Value) (e : Nat), Inv X pins σ H1 s' ∧ s'.heap.get? a = some (seqObj "list" #[] e1) ∧ s'.heap.get? kS = some (seqObj "list" kA e) ∧ FpOk X pins H1 a ∧ FpOk X pins H1 kS ∧ Same H H1 ∧ KeysAt H1 kA.toList (ks.take i)) vs 0 s
    ⟨H, #[], 0, I, ha, hk, fa, fk, Same.refl H, .nil⟩ ?step ?done)
  case step =>
    rintro j u s' hu ⟨H1, kA, e, I1, a1, k1, fa1, fk1, sm, hK⟩
    simp only [Nat.zero_add] at hK ⊢
    have hj : j < vs.length := (List.getElem?_eq_some_iff.mp hu).1
    obtain ⟨x, hx⟩ : ∃ x, xs[j]? = some x := ⟨_, List.getElem?_eq_getElem (by omega)⟩
    obtain ⟨kv, hkv⟩ : ∃ kv, ks[j]? = some kv := ⟨_, List.getElem?_eq_getElem (by omega)⟩
    have rx : RelV x u := by
      obtain ⟨u2, h1, h2⟩ := rv.get hx
      rw [hu] at h1
      cases h1
      exact h2
    have hsz : kA.size ≤ vs.length := by
      have h1 := hK.length
      rw [Array.length_toList, List.length_take] at h1
      omega
    have hfp : ∀ b ∈ [a, kS], FpOk X pins H1 b := fun b hb' => by
      rcases List.mem_cons.mp hb' with rfl | hb'
      · exact fa1
      · rw [List.mem_singleton.mp hb']; exact fk1
    have hob : ∀ b ∈ [a, kS], ∃ o, s'.heap.get? b = some o ∧ ∀ v, o.data ≠ .cell v := fun b hb' => by
      rcases List.mem_cons.mp hb' with rfl | hb'
      · exact ⟨_, a1, fun v z => nomatch z⟩
      · rw [List.mem_singleton.mp hb']; exact ⟨_, k1, fun v z => nomatch z⟩
    have I1' := I1.pinned hfp hob
    refine wpAny_bind (wpAny_attempt (wpAny_mono (run_in2 (Q := fun v H2 => ∃ t y, v = .ref t ∧ Same H1 H2 ∧ H2 t = some (.tup [.int kv.1, .str y]) ∧ kv.2 = y.cps.toList) F hr hb I1' (.cons rx .nil) (turn j x kv hx hkv H1 _ sm fun t y H2 s2 h2 e2 => ⟨t, y, rfl, s2, h2, e2⟩)) (fun v s'' he => ?_) fun _ _ hF => hF.elim))
    obtain ⟨vv, H2, I2, rvv, t, y, rfl, s2, ht, hy⟩ := he
    cases rvv
    try dsimp only
    have pa := I2.pin (a, seqObj "list" #[] e1) (List.mem_append_right _ (List.mem_append_right _ (mem_pinsAt (by simp) a1)))
    have pk := I2.pin (kS, seqObj "list" kA e) (List.mem_append_right _ (List.mem_append_right _ (mem_pinsAt (by simp) k1)))
    have sb := Heap.SameBut.update s''.heap kS (Obj.mapSeq (·.push (Value.ref t)))
    obtain ⟨c2, hc2⟩ : ∃ c2, (s''.heap.update kS (Obj.mapSeq (·.push (Value.ref t)))).get? kS = some (seqObj "list" (kA.push (Value.ref t)) c2) := ⟨_, get?_update_seq pk.1 (·.push (Value.ref t))⟩
    refine wpAny_bind (listUpdate_at pk.1 rfl ?_ (by rw [sizeLine_eq]; omega) (Nat.le_trans (Nat.le_of_eq (Array.size_push ..)) (by rw [sizeLine_eq]; omega)))
    have fa2 : FpOk X pins H2 a := ⟨pa.2.1, fa1.2⟩
    have fk2 : FpOk X pins H2 kS := ⟨pk.2.1, fk1.2⟩
    refine wpAny_pure ⟨rfl, H2, kA.push (Value.ref t), c2, ?_, (sb.2 a hka.symm).trans pa.1, hc2, fa2, fk2, sm.trans s2, ?_⟩
    · exact I2.unpinned.turned (t' := s''.toks) (fun b o nb q => (sb.2 b nb).trans q) fk2.1 fk2.2.1 fk2.2.2.2.1 fk2.2.2.2.2.1 fk2.2.2.2.2.2
    · rw [Array.toList_push, List.take_add_one, hkv]
      exact KeysAt.snoc ⟨t, y, rfl, ht, hy⟩ (hK.keep s2)
  case done =>
    rintro s' ⟨H1, kA, e, I1, a1, k1, fa1, fk1, sm, hK⟩
    have hK : KeysAt H1 kA.toList ks := by
      have e3 : ks.take (0 + vs.length) = ks := List.take_of_length_le (by omega)
      rw [e3] at hK
      exact hK
    have hsz : kA.size = vs.length := by
      have h1 := hK.length
      rw [Array.length_toList] at h1
      omega
    try dsimp only
    refine wpAny_bind (listItems_at k1 rfl ?_)
    obtain ⟨fs, htu⟩ := tups_of I1 hK
    refine PyProof.Rows.GX.end_G k1 a1 hka hsz (by omega) htu (fun v hv => by obtain ⟨kv, q⟩ := keys_all I1 hK v hv; exact ⟨_, q⟩) fun st' hp hs hst => ?_
    obtain ⟨r1, r2⟩ := sortRes_of I1 hK rv hp hs hst
    have sb1 := Heap.SameBut.update s'.heap kS (Obj.mapSeq fun _ => (#[] : Array Value))
    have sb2 := Heap.SameBut.update (s'.heap.update kS (Obj.mapSeq fun _ => (#[] : Array Value))) a (Obj.mapSeq fun _ => (arrOf st').map (·.2))
    have na1 : (s'.heap.update kS (Obj.mapSeq fun _ => (#[] : Array Value))).get? a = some (seqObj "list" #[] e1) := (sb1.2 a hka.symm).trans a1
    obtain ⟨c2, hc2⟩ : ∃ c2, ((s'.heap.update kS (Obj.mapSeq fun _ => (#[] : Array Value))).update a (Obj.mapSeq fun _ => (arrOf st').map (·.2))).get? a = some (seqObj "list" ((arrOf st').map (·.2)) c2) := ⟨_, get?_update_seq na1 fun _ => (arrOf st').map (·.2)⟩
    refine done _ H1 _ sm fa1.1 r1 ?_
    refine Inv.adopt (t' := s'.toks) (ch := [a, kS]) I1 (fun b o nb q => ?_) (fun b hb' => ?_) (by simp) ?_
    · have n1 : b ≠ a := fun z => nb (by simp [z])
      have n2 : b ≠ kS := fun z => nb (by simp [z])
      exact (sb2.2 b n1).trans ((sb1.2 b n2).trans q)
    · rcases List.mem_cons.mp hb' with rfl | hb'
      · exact fa1
      · rw [List.mem_singleton.mp hb']; exact fk1
    · have hlen : ((arrOf st').toList.map (gPair s'.heap)).length = vs.length := by
        rw [List.length_map, Array.length_toList, hp.size_eq, Array.size_zip, hsz, List.size_toArray, Nat.min_self]
      refine ⟨by rw [List.length_map, hlen]; omega, (arrOf st').toList.map (·.2), c2, r2, ?_⟩
      rw [hc2]
      have em : ((arrOf st').toList.map (·.2)).toArray = (arrOf st').map (·.2) := by
        rw [← Array.toList_map, Array.toArray_toList]
      rw [em]
/-- sorted(xs, key=f), f a def of the text whose answers are pairs of a number and a text -/
theorem sorted_key {l f : Addr} {fd : FuncData} {p : Str} {sp : Sp} {k : Nat} {xs : List V} {ks : List KVt} {Q : VK} (I : Inv X pins σ H s) (hl : SqL X.K H l xs) (hks : ks.length = xs.length)
    (F : FnOk X.prog X.w X.K X.mg X.base CX0 k f fd [p] sp) (hr : Room k X.A.in1.in1) (hb : Binds X.K fd [p] [])
    (turn : ∀ (i : Nat) (x : V) (kv : KVt), xs[i]? = some x → ks[i]? = some kv → ∀ (H1 : Hp) (Q1 : VK), Same H H1 → (∀ t y H2, Same H1 H2 → H2 t = some (.tup [.int kv.1, .str y]) → kv.2 = y.cps.toList → Q1 (.ref t) H2) → sp [x] H1 Q1 E0)
    (done : ∀ (D : Addr) (H1 : Hp) (ys : List V), Same H H1 → H1 D = none → SortRes ks xs ys → Q (.ref D) (upd H1 D (.lst ys))) :
    wpAny (model X.prog X.w) X.A (call (.builtin "sorted") [.ref l] [(Str.ofString "key", .ref f)]) (EP X pins σ Q) X.xe s := by
  obtain ⟨vs, rv, pl, hz⟩ := I.list hl
  have hvl := rv.length
  have hZ2 := hz
  rw [sizeLine_eq] at hZ2
  refine call_function_entry_kw kind_sorted plain_sorted entry_sorted (ksk_s1 _ _) ?_
  unfold Builtin.«sorted»
  refine wpAny_bind (m := checkCount "sorted" 1 1 _) (wpAny_pure ?_)
  refine wpAny_bind (collect_list pl.isList ?_ (by rw [sizeLine_eq]; omega))
  refine wpAny_bind (wpAny_newList ?_ (by rw [sizeLine_eq]; omega))
  have hsz : ((s.heap.push (seqObj "list" #[] 0)).update s.heap.objs.size (Obj.mapSeq (· ++ vs.toArray))).objs.size = s.heap.objs.size + 1 := by
    rw [Heap.size_update, size_push']
  have hoL : (((s.heap.push (seqObj "list" #[] 0)).update s.heap.objs.size (Obj.mapSeq (· ++ vs.toArray))).push (seqObj "list" vs.toArray 0)).get? (s.heap.objs.size + 1) = some (seqObj "list" vs.toArray 0) := by
    rw [← hsz]; exact Heap.get?_push_size _ rfl
  have keep : ∀ b o, s.heap.get? b = some o → (((s.heap.push (seqObj "list" #[] 0)).update s.heap.objs.size (Obj.mapSeq (· ++ vs.toArray))).push (seqObj "list" vs.toArray 0)).get? b = some o := fun b o q => by
    have hlt : b < s.heap.objs.size := Heap.lt_size q
    rw [Heap.get?_push_ne _ _ _ (by rw [hsz]; exact Nat.ne_of_lt (Nat.lt_succ_of_lt hlt)), Heap.get?_update_ne _ _ _ _ (Nat.ne_of_lt hlt), Heap.get?_push_ne _ _ _ (Nat.ne_of_lt hlt)]
    exact q
  have hsz3 : (((s.heap.push (seqObj "list" #[] 0)).update s.heap.objs.size (Obj.mapSeq (· ++ vs.toArray))).push (seqObj "list" vs.toArray 0)).objs.size = s.heap.objs.size + 2 := by rw [size_push', hsz]
  show wpAny _ _ _ _ _ { s with heap := ((s.heap.push (seqObj "list" #[] 0)).update s.heap.objs.size (Obj.mapSeq (· ++ vs.toArray))).push (seqObj "list" vs.toArray 0) }
  rw [hsz]
  refine wpAny_bind (wpAny_holding (wpAny_call_entry_kw slot_list_sort ⟨_, hoL, rfl⟩ entry_list_sort ?body (ksk_l1 _ _)))
  case body =>
    generalize hg : (((s.heap.push (seqObj "list" #[] 0)).update s.heap.objs.size (Obj.mapSeq (· ++ vs.toArray))).push (seqObj "list" vs.toArray 0)) = h3 at hoL keep hsz3 ⊢
    show wpAny (model X.prog X.w) X.A.in1.in1 (Builtin.«list.sort» ⟨[.ref (s.heap.objs.size + 1)], [(Str.ofString "key", .ref f)]⟩) _ _ _
    rw [ksk_t1]
    have sb := Heap.SameBut.update h3 (s.heap.objs.size + 1) (Obj.mapSeq fun _ => (#[] : Array Value))
    obtain ⟨e1, ho1⟩ : ∃ e1, (h3.update (s.heap.objs.size + 1) (Obj.mapSeq fun _ => (#[] : Array Value))).get? (s.heap.objs.size + 1) = some (seqObj "list" #[] e1) := ⟨_, get?_update_seq hoL fun _ => #[]⟩
    have hkS : ((h3.update (s.heap.objs.size + 1) (Obj.mapSeq fun _ => (#[] : Array Value))).push (seqObj "tuple" vs.toArray 0)).objs.size = s.heap.objs.size + 3 := by rw [size_push', Heap.size_update, hsz3]
    unfold ksk_tree
    refine wpAny_bind (listItems_at hoL rfl ?_)
    refine wpAny_bind (listUpdate_at hoL rfl ?_ (by rw [List.size_toArray, sizeLine_eq]; omega) (Nat.zero_le _))
    refine wpAny_bind (seqEpoch_at ho1 rfl ?_)
    refine wpAny_bind (wpAny_newTuple ?_ (by show vs.length ≤ _; rw [sizeLine_eq]; omega))
    refine wpAny_bind (wpAny_newList ?_ (Nat.zero_le _))
    refine wpAny_holding ?_
    have k6 : ∀ b o, s.heap.get? b = some o → (((h3.update (s.heap.objs.size + 1) (Obj.mapSeq fun _ => (#[] : Array Value))).push (seqObj "tuple" vs.toArray 0)).push (seqObj "list" #[] 0)).get? b = some o := fun b o q => by
      have hlt : b < s.heap.objs.size := Heap.lt_size q
      exact Heap.get?_push_of_some _ (Heap.get?_push_of_some _ ((sb.2 b (Nat.ne_of_lt (Nat.lt_succ_of_lt hlt))).trans (keep b o q)))
    have I6 : Inv X pins σ H { s with heap := ((h3.update (s.heap.objs.size + 1) (Obj.mapSeq fun _ => (#[] : Array Value))).push (seqObj "tuple" vs.toArray 0)).push (seqObj "list" #[] 0), toks := s.toks } := I.kept k6
    refine rest_key (kS := ((h3.update (s.heap.objs.size + 1) (Obj.mapSeq fun _ => (#[] : Array Value))).push (seqObj "tuple" vs.toArray 0)).objs.size) I6 rv hz hks (Heap.get?_push_of_some _ (Heap.get?_push_of_some _ ho1)) (Heap.get?_push_size _ rfl) (by rw [hkS]; exact Nat.ne_of_gt (Nat.lt_add_of_pos_right (show 0 < 2 by decide)))
      (I.fpOk (by omega) (I.hok.fresh (by omega))) (I.fpOk (by rw [hkS]; omega) (I.hok.fresh (by rw [hkS]; omega))) F hr hb turn fun s' H1 ys sm hn sr I' => ⟨_, rfl, ?_⟩
    exact wpAny_pure ⟨_, rfl, .ref (s.heap.objs.size + 1), _, I', rfl, done _ H1 ys sm hn sr⟩
end
end L2
set_option Elab.async false
set_option linter.all false
set_option maxRecDepth 100000
set_option maxHeartbeats 4000000
namespace L2
open PySem PySem.Spec PyProof.Rows
section
variable {X : Cx}
theorem boot_sorted' : bootBuiltins "sorted" = some (.builtin "sorted") := by decide +kernel
/-- sorted(e, key=f) -/
theorem pe_sortedK {e ke : Expr} {te : TE} {p kp pos : Pos} {k : Nat} {f : Addr} {fd : FuncData} {x : Str} {sp : Sp} (F : FnOk X.prog X.w X.K X.mg X.base CX0 k f fd [x] sp) (hr : Room k X.A.in1.in1) (hb : Binds X.K fd [x] [])
    (he : PE X e te) (hke : PE X ke (tC (.ref f))) (hg : Gl X "sorted") (hm : X.mg "sorted" = none)
    (h1 : backTo pos (starEach [e] X.env) = [(false, do let v ← eval e X.env; standAt pos; pure v)] ∨ True := by exact Or.inr trivial)
    (hc1 : starEach [e] X.env = (false, eval e X.env) :: starEach [] X.env := by rfl)
    (hc : backTo pos (starEach [e] X.env) = (false, eval e X.env) :: backTo pos (starEach [] X.env) := by rfl) (hpl : (backTo pos (starEach [e] X.env)).any (·.1) = false := by rfl)
    (hall : (backToKw pos (keywordEach [⟨some "key", ke, kp⟩] X.env)).all (·.1.isSome) = true := by rfl) (hkw : (backToKw pos (keywordEach [⟨some "key", ke, kp⟩] X.env)).any (·.1.isNone) = false := by rfl)
    (hnm : (backToKw pos (keywordEach [⟨some "key", ke, kp⟩] X.env)).filterMap (·.1) = [Str.ofString "key"] := by rfl) :
    PE X (.Call (.Name "sorted" p) [e] [⟨some "key", ke, kp⟩] pos) (fun σ H Q => tCons te tNil σ H fun us H1 => ∃ (l : Addr) (xs : List V) (ks : List KVt), us = [.ref l] ∧ SqL X.K H1 l xs ∧ ks.length = xs.length ∧
      (∀ (i : Nat) (x : V) (kv : KVt), xs[i]? = some x → ks[i]? = some kv → ∀ (H2 : Hp) (Q1 : VK), Same H1 H2 → (∀ t y H3, Same H2 H3 → H3 t = some (.tup [.int kv.1, .str y]) → kv.2 = y.cps.toList → Q1 (.ref t) H3) → sp [x] H2 Q1 E0) ∧
      ∀ (D : Addr) (H2 : Hp) (ys : List V), Same H1 H2 → H2 D = none → SortRes ks xs ys → Q (.ref D) (upd H2 D (.lst ys))) := by
  intro pins s σ H Q I h
  refine wpAny_Call_Name_kw (ld_blt I hg hm boot_sorted' ?_ (by decide) (by decide))
  refine PyProof.Rows.callWith_kw (thn (pa_cons he pa_nil hc1 pos s σ H _ I h) fun us s1 ⟨vs, H1, I1, r1, q1⟩ => ?_) hc hpl hall hkw
  refine thn (pk_cons hke pk_nil pos s1 σ H1 (fun zs H2 => zs = [.ref f] ∧ H2 = H1) I1 ⟨rfl, rfl⟩) fun ws s2 ⟨zs, H2, I2, r2, e1, e2⟩ => ?_
  subst e1 e2
  obtain ⟨l, xs, ks, rfl, hl, hks, turn, done⟩ := q1
  cases r1 with
  | cons r1 rr1 =>
    cases rr1
    cases r2 with
    | cons r2 rr2 =>
      cases rr2
      cases r1
      cases r2
      rw [hnm]
      exact sorted_key I2 hl hks F hr hb turn done
end
end L2
set_option Elab.async false
set_option linter.all false
set_option maxRecDepth 100000
set_option maxHeartbeats 4000000
namespace L2
open PySem PySem.Spec PyProof.Rows
/-- a product of two ints of any size that fits -/
theorem op_mulI {X : Cx} : OpR X (binaryOp .Mult) (rI IntMulOk fun i j => .int (i * j)) := opI fun _ _ _ _ _ _ _ hc q => mul_int q hc
end L2
namespace My
open PySem L2
def top (i : Nat) : Stmt := PySem.Challenge.pw_steploft_k51_words_that_part.main.body.getD i (.Pass ⟨0, 0, 0, 0⟩)
abbrev sSack : Stmt := top 12
abbrev sPull : Stmt := top 13
/-- the bag: three numbers in a list; n bounds the draws done -/
def Sack (H : Hp) (k : Addr) (n : Nat) : Prop := ∃ a b c : Int, H k = some (.lst [.int a, .int b, .int c]) ∧ 0 ≤ a ∧ 0 ≤ b ∧ b < 2 ^ 170 ∧ 0 ≤ c ∧ c ≤ (n : Int) + 100
theorem Sack.mono {H : Hp} {k : Addr} {n m : Nat} (h : Sack H k n) (e : n ≤ m) : Sack H k m := by
  obtain ⟨a, b, c, h1, h2, h3, h4, h5, h6⟩ := h
  exact ⟨a, b, c, h1, h2, h3, h4, h5, by omega⟩
theorem Sack.same {H H' : Hp} {k : Addr} {n : Nat} (h : Sack H k n) (e : Same H H') : Sack H' k n := by
  obtain ⟨a, b, c, h1, h2⟩ := h
  exact ⟨a, b, c, e _ _ h1, h2⟩
def spPull : Sp := fun vs H Q _ => ∃ (k : Addr) (many : Int) (n : Nat), vs = [.ref k, .int many] ∧ Sack H k n ∧ n < 1000000 ∧ 0 < many ∧ many < 1000000 ∧
  ∀ (r : Int) (H' : Hp), 0 ≤ r → r < many → SameBut k H H' → Sack H' k (n + 1) → Q (.int r) H'
def spSack : Sp := fun vs H Q _ => ∃ (cell j : Int), vs = [.int cell, .int j] ∧ Builtin.Int.intBits cell ≤ 2 ^ 20 ∧ 0 ≤ j ∧ j < 100 ∧ ∀ (k : Addr) (H' : Hp), H k = none → Same H H' → Sack H' k 0 → Q (.ref k) H'
theorem bits170 {b : Int} (h0 : 0 ≤ b) (h1 : b < 2 ^ 170) : Builtin.Int.intBits b ≤ 2 ^ 20 := by
  have h2 : b.natAbs < 2 ^ 170 := by
    have e : ((2 : Nat) ^ 170 : Nat) = ((2 : Int) ^ 170).natAbs := by decide
    omega
  exact Nat.le_trans (PyProof.Rows.intBits_le h2) (by decide)
section
variable {P : Program} {w : World} {K : PySem.W.Frag} {mg : Str → Option Value} {base : Heap}
theorem scPull : FnScope ["bag", "many", "found"] ["bag", "many"] (defScope sPull) := ⟨rfl, rfl, rfl, by decide +kernel, rfl, by decide +kernel, by decide +kernel⟩
theorem ok_pull {f : Addr} {fd : FuncData} (F : Fun K "_law_draw" "_law_draw" sPull f fd) : FnOk P w K mg base CX0 1 f fd ["bag", "many"] spPull := by
  refine F.ok scPull (fun vs H Q E h => ?_) (fun cdv A outer s H vs Q E hr h => ?_)
  · obtain ⟨k, many, n, rfl, _⟩ := h
    rfl
  · obtain ⟨k, many, n, rfl, ⟨a, b, c, hk, ha, hb, hb2, hc, hcn⟩, hn, hm0, hm1, q⟩ := h
    refine ⟨_, pss_cons (ps_if (pt_cmpR op_gt (pe_ix ix_list (pv 0) pe_int (fun _ _ => rfl)) pe_int (nomark _))
        (pss_cons (ps_set (i := 2) scPull.nd rfl (Or.inl rfl) (pe_op op_mod (pe_ix ix_list (pv 0) pe_int (fun _ _ => rfl)) (pv 1)))
        (pss_cons (ps_asg (pe_op op_fdiv (pe_ix ix_list (pv 0) pe_int (fun _ _ => rfl)) (pv 1)) (pg_sub (pv 0) pe_int set_list))
        (pss_one (ps_ret (pv 2))))) pss_nil)
      (pss_cons (ps_asg (pe_op op_add (pe_ix ix_list (pv 0) pe_int (fun _ _ => rfl)) pe_int) (pg_sub (pv 0) pe_int set_list))
      (pss_cons (ps_asg (pe_op op_mod (pe_op op_add (pe_op op_mulI (pe_ix ix_list (pv 0) pe_int (fun _ _ => rfl)) (pe_ix ix_list (pv 0) pe_int (fun _ _ => rfl))) (pe_op op_mul (pe_ix ix_list (pv 0) pe_int (fun _ _ => rfl)) (pe_op op_pow pe_int pe_int))) (pe_op op_add (pe_op op_pow pe_int pe_int) pe_int)) (pg_sub (pv 0) pe_int set_list))
      (pss_one (ps_ret (pe_op op_mod (pe_op op_fdiv (pe_ix ix_list (pv 0) pe_int (fun _ _ => rfl)) pe_int) (pv 1)))))), ?_⟩
    refine ⟨_, rfl, k, _, _, _, rfl, rfl, SqL.of hk, rfl, _, _, rfl, rfl, _, rfl, ?_⟩
    refine ite2 (fun z => ?_) (fun z => ?_)
    · refine ⟨_, rfl, k, _, _, _, rfl, rfl, SqL.of hk, rfl, _, rfl, _, _, rfl, rfl, hm0, ?_⟩
      refine ⟨_, rfl, k, _, _, _, rfl, rfl, SqL.of hk, rfl, _, rfl, _, _, rfl, rfl, ⟨hm0, by omega⟩, _, rfl, k, _, _, 0, rfl, rfl, hk, rfl, ?_⟩
      refine ⟨_, rfl, ?_⟩
      exact q _ _ (Int.emod_nonneg _ (by omega)) (Int.emod_lt_of_pos _ hm0) SameBut.upd ⟨a / many, b, c, upd_same, Int.ediv_nonneg ha (by omega), hb, hb2, hc, by omega⟩
    · have hk2 : ∀ o, upd H k o k = some o := fun o => upd_same
      refine ⟨_, rfl, k, _, _, _, rfl, rfl, SqL.of hk, rfl, _, _, rfl, rfl, _, rfl, k, _, _, 2, rfl, rfl, hk, rfl, ?_⟩
      have bb := bits170 hb hb2
      have md : (0 : Int) < 10 ^ (50 : Int).toNat + 151 := by decide
      refine ⟨_, rfl, k, _, _, _, rfl, rfl, SqL.of (hk2 _), rfl, _, rfl, k, _, _, _, rfl, rfl, SqL.of (hk2 _), rfl, _, _, rfl, rfl, PySem.IntMulOk.of_bits bb bb, _, rfl, k, _, _, _, rfl, rfl, SqL.of (hk2 _), rfl, _, _, rfl, rfl, ⟨by decide, by decide, by decide⟩, _, _, rfl, rfl, .inl ⟨(by show -(2 ^ 64) < c + 1; omega), (by show c + 1 < 2 ^ 64; omega)⟩, _, _, rfl, rfl, _, _, rfl, rfl, ⟨by decide, by decide, by decide⟩, _, _, rfl, rfl, _, _, rfl, rfl, md, ?_⟩
      refine ⟨_, rfl, k, _, _, 1, rfl, rfl, hk2 _, rfl, ?_⟩
      refine ⟨_, rfl, k, _, _, _, rfl, rfl, SqL.of upd_same, rfl, _, _, rfl, rfl, ⟨by decide, by decide⟩, _, rfl, _, _, rfl, rfl, hm0, ?_⟩
      refine q _ _ (Int.emod_nonneg _ (by omega)) (Int.emod_lt_of_pos _ hm0) (SameBut.upd.trans SameBut.upd) ⟨a, _, c + 1, upd_same, ha, Int.emod_nonneg _ (by decide), Int.lt_trans (Int.emod_lt_of_pos _ md) (by decide), by omega, by omega⟩
theorem scSack : FnScope ["cell", "at"] ["cell", "at"] (defScope sSack) := ⟨rfl, rfl, rfl, by decide +kernel, rfl, by decide +kernel, by decide +kernel⟩
theorem ok_sack {f : Addr} {fd : FuncData} (F : Fun K "_law_bag" "_law_bag" sSack f fd) (mm : mg "max" = none) : FnOk P w K mg base CX0 1 f fd ["cell", "at"] spSack := by
  refine F.ok scSack (fun vs H Q E h => ?_) (fun cdv A outer s H vs Q E hr h => ?_)
  · obtain ⟨c, j, rfl, _⟩ := h
    rfl
  · obtain ⟨c, j, rfl, hcb, hj0, hj1, q⟩ := h
    refine ⟨_, pss_one (ps_ret (pe_lst (pa_cons (pe_callB (call_max2 rfl) (by rfl) mm (by decide +kernel) (pa_cons pe_int (pa_cons (pe_op op_sub (pv 0) (pe_op op_pow pe_int pe_int)) pa_nil)))
      (pa_cons (pe_op op_mod (pe_op op_add (pe_op op_mulI (pv 0) (pe_op op_pow pe_int pe_int)) (pe_op op_mul pe_int (pe_op op_add (pv 1) pe_int))) (pe_op op_add (pe_op op_pow pe_int pe_int) pe_int)) (pa_cons (pv 1) pa_nil))))), ?_⟩
    have md : (0 : Int) < 10 ^ (50 : Int).toNat + 151 := by decide
    have pb : Builtin.Int.intBits ((2750159 : Int) ^ (5 : Int).toNat) ≤ 2 ^ 20 := bits170 (by decide) (by decide)
    refine ⟨_, rfl, _, _, rfl, rfl, ⟨by decide, by decide, by decide⟩, _, _, rfl, rfl, _, _, rfl, ?_⟩
    refine ⟨_, rfl, _, _, rfl, rfl, ⟨by decide, by decide, by decide⟩, _, _, rfl, rfl, PySem.IntMulOk.of_bits hcb pb, _, rfl, _, _, rfl, rfl, _, _, rfl, rfl, .inl ⟨by decide, by decide⟩, _, _, rfl, rfl, _, _, rfl, rfl, ⟨by decide, by decide, by decide⟩, _, _, rfl, rfl, _, _, rfl, rfl, md, _, rfl, (by show 3 ≤ sizeLine; decide), fun k hk => ?_⟩
    refine q k _ hk (same_new hk _) ⟨_, _, j, upd_same, ?_, Int.emod_nonneg _ (by decide), Int.lt_trans (Int.emod_lt_of_pos _ md) (by decide), hj0, by omega⟩
    split <;> omega
end
end My
set_option Elab.async false
set_option linter.all false
set_option maxRecDepth 100000
set_option maxHeartbeats 4000000
namespace My
open PySem L2 TL
/-- a def of the text, with what a call of it asks -/
structure Df (K : PySem.W.Frag) (mg : Str → Option Value) (x : Str) (st : Stmt) (ps : List Str) where
  f : Addr
  fd : FuncData
  F : Fun K x x st f fd
  b : Binds K fd ps []
  m : mg x = some (.ref f)
def isNameB (x : Str) : Bool := decide (1 ≤ x.length) && decide (x.length ≤ 8) && x.cps.toList.all fun c => decide (97 ≤ c) && decide (c ≤ 122)
def IsName (x : Str) : Prop := isNameB x = true
theorem IsName.mk {x : Str} (h1 : 1 ≤ x.length) (h2 : x.length ≤ 8) (h3 : ∀ c ∈ x.cps.toList, 97 ≤ c ∧ c ≤ 122) : IsName x := by
  unfold IsName isNameB
  rw [Bool.and_eq_true, Bool.and_eq_true, List.all_eq_true]
  refine ⟨⟨decide_eq_true h1, decide_eq_true h2⟩, fun c hc => ?_⟩
  rw [Bool.and_eq_true]
  exact ⟨decide_eq_true (h3 c hc).1, decide_eq_true (h3 c hc).2⟩
theorem IsName.len {x : Str} (h : IsName x) : 1 ≤ x.length ∧ x.length ≤ 8 := by
  unfold IsName isNameB at h
  rw [Bool.and_eq_true, Bool.and_eq_true] at h
  exact ⟨of_decide_eq_true h.1.1, of_decide_eq_true h.1.2⟩
theorem IsName.cps {x : Str} (h : IsName x) : ∀ c ∈ x.cps.toList, 97 ≤ c ∧ c ≤ 122 := by
  unfold IsName isNameB at h
  rw [Bool.and_eq_true, List.all_eq_true] at h
  intro c hc
  have q := h.2 c hc
  rw [Bool.and_eq_true] at q
  exact ⟨of_decide_eq_true q.1, of_decide_eq_true q.2⟩
def letters : Str := "abcdefghijklmnopqrstuvwxyz"
theorem letters_eq : letters.cps.toList = (List.range 26).map (97 + ·) := by decide +kernel
theorem letters_len : letters.length = 26 := by decide +kernel
theorem letter_at {i : Int} (h0 : 0 ≤ i) (h1 : i < 26) : atI letters.cps.toList i = some (97 + i.toNat) := by
  have e : i = ((i.toNat : Nat) : Int) := by omega
  rw [e]
  refine atI_nat ?_
  rw [letters_eq, List.getElem?_map, List.getElem?_range (by omega)]
  rfl
theorem inV_str (x : Str) (ns : List Str) : inV (.str x) (ns.map V.str) = decide (x ∈ ns) := by
  by_cases h : x ∈ ns
  · rw [decide_eq_true h]
    refine List.any_eq_true.mpr ⟨.str x, List.mem_map.mpr ⟨x, h, rfl⟩, ?_⟩
    show (x == x) = true
    exact beq_self_eq_true x
  · rw [decide_eq_false h]
    refine List.any_eq_false.mpr fun v hv q => ?_
    obtain ⟨y, hy, rfl⟩ := List.mem_map.mp hv
    have q : (y == x) = true := q
    have e : y = x := eq_of_beq q
    exact h (e ▸ hy)
theorem flat_strs (ns : List Str) : (ns.map V.str).all flatV = true := by
  refine List.all_eq_true.mpr fun v hv => ?_
  obtain ⟨y, hy, rfl⟩ := List.mem_map.mp hv
  rfl
/-- found != [] -/
theorem dp_strs {K : PySem.W.Frag} {H : Hp} : ∀ ns : List Str, DpAll K H (ns.map V.str) (ns.map PyData.str)
  | [] => .nil
  | x :: r => .cons (.str x) (dp_strs r)
theorem depth_strs : ∀ ns : List Str, PyData.depthAll (ns.map PyData.str) = 0
  | [] => rfl
  | x :: r => by
    show max (PyData.depth (.str x)) (PyData.depthAll (r.map PyData.str)) = 0
    rw [depth_strs r]
    rfl
theorem strOk_of {x : Str} (h : IsName x) : PyData.strOk x = true := by
  unfold PyData.strOk
  rw [← Array.all_toList, List.all_eq_true]
  intro c hc
  have := h.cps c hc
  exact decide_eq_true (by omega)
theorem shaped_strs {ns : List Str} (h : ∀ x ∈ ns, IsName x) : SeqAt.shaped (.list (ns.map PyData.str)) = true := by
  unfold SeqAt.shaped
  rw [Bool.and_eq_true]
  constructor
  · show PyData.canLayAll0 (ns.map PyData.str) = true
    rw [PyProof.Rows.canLayAll_strs', List.all_eq_true]
    exact fun x hx => strOk_of (h x hx)
  · refine decide_eq_true ?_
    show PyData.depthAll (ns.map PyData.str) + 1 ≤ 64
    rw [depth_strs]
    decide
/-- one sign after the other, joined -/
theorem join_signs : ∀ cs : List Nat, tl (Str.join (Str.ofString "") (cs.map fun c => (⟨#[c]⟩ : Str))) = cs
  | [] => rfl
  | [c] => rfl
  | c :: d :: r => by
    have ih := join_signs (d :: r)
    show tl ((⟨#[c]⟩ : Str) ++ Str.ofString "" ++ Str.join (Str.ofString "") ((d :: r).map fun c => (⟨#[c]⟩ : Str))) = c :: d :: r
    rw [tl_append, tl_append, ih]
    rfl
theorem join_name {cs : List Nat} (h1 : 1 ≤ cs.length) (h2 : cs.length ≤ 8) (h3 : ∀ c ∈ cs, 97 ≤ c ∧ c ≤ 122) : IsName (Txt.join (Str.ofString "") (cs.map fun c => (⟨#[c]⟩ : Str))) := by
  have e : (Txt.join (Str.ofString "") (cs.map fun c => (⟨#[c]⟩ : Str))).cps.toList = cs := by
    rw [join_eq]
    exact join_signs cs
  have el : (Txt.join (Str.ofString "") (cs.map fun c => (⟨#[c]⟩ : Str))).length = cs.length := by
    have := congrArg List.length e
    rw [Array.length_toList] at this
    exact this
  exact IsName.mk (by rw [el]; exact h1) (by rw [el]; exact h2) (by rw [e]; exact h3)
structure NamesOk (m : Nat) (ns : List Str) : Prop where
  len : ns.length = m
  nd : ns.Nodup
  all : ∀ x ∈ ns, IsName x
end My
set_option Elab.async false
set_option linter.all false
set_option maxRecDepth 100000
set_option maxHeartbeats 1000000
namespace My
open PySem L2 TL
mutual
inductive Tp (H : Hp) : V → PyData → Prop
  | int (i : Int) : Tp H (.int i) (.int i)
  | str (x : Str) : Tp H (.str x) (.str x)
  | tup {a : Addr} {xs : List V} {ds : List PyData} : H a = some (.tup xs) → TpAll H xs ds → Tp H (.ref a) (.tuple ds)
inductive TpAll (H : Hp) : List V → List PyData → Prop
  | nil : TpAll H [] []
  | cons {v : V} {vs : List V} {d : PyData} {ds : List PyData} : Tp H v d → TpAll H vs ds → TpAll H (v :: vs) (d :: ds)
end
def KeepT (H H' : Hp) : Prop := ∀ b xs, H b = some (.tup xs) → H' b = some (.tup xs)
theorem KeepT.trans {H H1 H2 : Hp} (a : KeepT H H1) (b : KeepT H1 H2) : KeepT H H2 := fun c xs h => b c xs (a c xs h)
theorem KeepT.of {H H' : Hp} (h : Same H H') : KeepT H H' := fun b xs e => h b _ e
theorem KeepT.but {k : Addr} {H H' : Hp} {ys : List V} (h : SameBut k H H') (hk : H k = some (.lst ys)) : KeepT H H' := fun b xs e => h b _ e (by
  intro z
  subst z
  rw [hk] at e
  cases e)
theorem Sack.keepT {k : Addr} {H H' : Hp} {n : Nat} (S : Sack H k n) (h : SameBut k H H') : KeepT H H' := by
  obtain ⟨a, b, c, hk, _⟩ := S
  exact KeepT.but h hk
mutual
theorem Tp.keep {H H' : Hp} (h : KeepT H H') : ∀ {v : V} {d : PyData}, Tp H v d → Tp H' v d
  | _, _, .int i => .int i
  | _, _, .str x => .str x
  | _, _, .tup e r => .tup (h _ _ e) (TpAll.keep h r)
theorem TpAll.keep {H H' : Hp} (h : KeepT H H') : ∀ {vs : List V} {ds : List PyData}, TpAll H vs ds → TpAll H' vs ds
  | _, _, .nil => .nil
  | _, _, .cons a r => .cons (Tp.keep h a) (TpAll.keep h r)
end
theorem TpAll.strs {H : Hp} : ∀ ns : List Str, TpAll H (ns.map V.str) (ns.map PyData.str)
  | [] => .nil
  | x :: r => .cons (.str x) (TpAll.strs r)
theorem TpAll.strs_inv {H : Hp} : ∀ {ns : List Str} {vs : List V}, TpAll H vs (ns.map PyData.str) → vs = ns.map V.str
  | [], _, .nil => rfl
  | x :: r, _, .cons (.str _) t => by
    rw [TpAll.strs_inv t]
    rfl
structure OwnD where
  bits : Int
  names : List Str
  hidden : Int
  alus : Int
  moves : Int
  cells : Int
def ownD (o : OwnD) : PyData := .tuple [.int o.bits, .tuple (o.names.map PyData.str), .int o.hidden, .int o.alus, .int o.moves, .int o.cells]
structure OwnOk (o : OwnD) : Prop where
  bits : 1 ≤ o.bits ∧ o.bits ≤ 8
  names : ∃ m, NamesOk m o.names ∧ 1 ≤ m ∧ m ≤ 6
  hidden : 0 ≤ o.hidden ∧ o.hidden ≤ 12
  alus : 1 ≤ o.alus ∧ o.alus ≤ 3
  moves : 1 ≤ o.moves ∧ o.moves ≤ 3
  cells : 0 ≤ o.cells ∧ o.cells ≤ 2 ^ o.bits.toNat
theorem own_inv {H : Hp} {p : Addr} {o : OwnD} (h : Tp H (.ref p) (ownD o)) : ∃ q : Addr, H p = some (.tup [.int o.bits, .ref q, .int o.hidden, .int o.alus, .int o.moves, .int o.cells]) ∧ H q = some (.tup (o.names.map V.str)) := by
  unfold ownD at h
  cases h with
  | tup e r =>
    cases r with | cons a r => cases r with | cons b r => cases r with | cons c r => cases r with | cons d r => cases r with | cons f r => cases r with | cons g r =>
      cases r; cases a; cases c; cases d; cases f; cases g
      cases b with
      | tup e2 r2 => exact ⟨_, e, by rw [e2, TpAll.strs_inv r2]⟩
theorem pow_rng : ∀ m : Nat, m ≤ 8 → 1 ≤ m → 2 ≤ (1 : Int) * 2 ^ m ∧ (1 : Int) * 2 ^ m ≤ 256 := by decide
abbrev tp (r : Int) : Int := 1 * 2 ^ (1 + r).toNat
def spOwn : Sp := fun vs H Q _ => ∃ (k : Addr) (n : Nat), vs = [.ref k] ∧ Sack H k n ∧ n < 90000 ∧
  ∀ (p : Addr) (o : OwnD) (H' : Hp), H p = none → SameBut k H H' → Sack H' k (n + 120) → Tp H' (.ref p) (ownD o) → OwnOk o → Q (.ref p) H'
def spWord : Sp := fun vs H Q _ => ∃ (k p : Addr) (n : Nat) (o : OwnD), vs = [.ref k, .ref p] ∧ Sack H k n ∧ n < 90000 ∧ Tp H (.ref p) (ownD o) ∧ OwnOk o ∧
  ∀ (r : Int) (H' : Hp), 0 ≤ r → r < 2 ^ o.bits.toNat → SameBut k H H' → Sack H' k (n + 2) → Q (.int r) H'
inductive Plc where
  | reg (x : Str)
  | hid (j : Int)
def plcD : Plc → PyData
  | .reg x => .tuple [.str "reg", .str x]
  | .hid j => .tuple [.str "hid", .int j]
def PlcOk (o : OwnD) : Plc → Prop
  | .reg x => x ∈ o.names
  | .hid j => 0 ≤ j ∧ j < o.hidden
def spSpot : Sp := fun vs H Q _ => ∃ (k p : Addr) (n : Nat) (o : OwnD), vs = [.ref k, .ref p] ∧ Sack H k n ∧ n < 90000 ∧ Tp H (.ref p) (ownD o) ∧ OwnOk o ∧
  ∀ (a : Addr) (c : Plc) (H' : Hp), SameBut k H H' → Sack H' k (n + 2) → Tp H' (.ref a) (plcD c) → PlcOk o c → Q (.ref a) H'
inductive Ordr where
  | alu (op : Str) (t a b : Plc)
  | put (t : Plc) (n : Int)
  | two (kind : Str) (t a : Plc)
def opsL : List Str := ["add", "sub", "and", "or", "xor", "less", "same"]
def twoL : List Str := ["move", "move", "load", "store"]
def ordD : Ordr → PyData
  | .alu op t a b => .tuple [.str "alu", .str op, plcD t, plcD a, plcD b]
  | .put t n => .tuple [.str "put", plcD t, .int n]
  | .two kd t a => .tuple [.str kd, plcD t, plcD a]
def OrdOk (o : OwnD) : Ordr → Prop
  | .alu op t a b => op ∈ opsL ∧ PlcOk o t ∧ PlcOk o a ∧ PlcOk o b
  | .put t n => PlcOk o t ∧ 0 ≤ n ∧ n < 2 ^ o.bits.toNat
  | .two kd t a => kd ∈ twoL ∧ PlcOk o t ∧ PlcOk o a
end My
set_option Elab.async false
set_option linter.all false
set_option maxRecDepth 100000
set_option maxHeartbeats 4000000
namespace My
open PySem L2 TL
mutual
theorem Tp.dp {K : PySem.W.Frag} {H : Hp} : ∀ {v : V} {d : PyData}, Tp H v d → Dp K H v d
  | _, _, .int i => .int i
  | _, _, .str x => .str x
  | _, _, .tup e r => .tup (SqT.of e) (TpAll.dp r)
theorem TpAll.dp {K : PySem.W.Frag} {H : Hp} : ∀ {vs : List V} {ds : List PyData}, TpAll H vs ds → DpAll K H vs ds
  | _, _, .nil => .nil
  | _, _, .cons a r => .cons (Tp.dp a) (TpAll.dp r)
end
mutual
theorem Tp.uniq {H : Hp} : ∀ {v : V} {d d' : PyData}, Tp H v d → Tp H v d' → d = d'
  | _, _, _, .int _, .int _ => rfl
  | _, _, _, .str _, .str _ => rfl
  | _, _, _, .tup e r, .tup e' r' => by
    rw [e] at e'
    have := Option.some.inj e'
    injection this with this
    subst this
    rw [TpAll.uniq r r']
theorem TpAll.uniq {H : Hp} : ∀ {vs : List V} {ds ds' : List PyData}, TpAll H vs ds → TpAll H vs ds' → ds = ds'
  | _, _, _, .nil, .nil => rfl
  | _, _, _, .cons a r, .cons a' r' => by rw [Tp.uniq a a', TpAll.uniq r r']
end
section
variable {X : Cx} {pins : List (Addr × Obj)} {σ : St} {H : Hp} {s : Shared}
theorem eqAt_T {A : Around} (I : Inv X pins σ H s) {x y : V} {u v : Value} {d e : PyData} (hx : Tp H x d) (hy : Tp H y e) (rx : RelV x u) (ry : RelV y v) (sd : SeqAt.shaped d = true) (se : SeqAt.shaped e = true) (hu : A.units + 64 < cLine) : SeqAt.EqAt A s u v (PyData.eqv d e) := by
  obtain ⟨as, r1⟩ := Dp.reads I d x u (hx.dp) rx
  obtain ⟨bs, r2⟩ := Dp.reads I e y v (hy.dp) ry
  exact SeqAt.eqAt_reads d e A s u v as bs r1 r2 (SeqAt.canLay_of_shaped sd) (SeqAt.canLay_of_shaped se) (SeqAt.room_of_shaped sd hu)
/-- whether the value's data equals d -/
noncomputable def eT (H : Hp) (d : PyData) (u : Value) : Bool := @decide (∃ x d1, absV u = some x ∧ Tp H x d1 ∧ PyData.eqv d1 d = true) (Classical.propDecidable _)
theorem eT_of {x : V} {u : Value} {d d1 : PyData} (rx : RelV x u) (h : Tp H x d1) : eT H d u = PyData.eqv d1 d := by
  unfold eT
  cases e : PyData.eqv d1 d with
  | true => exact @decide_eq_true _ (Classical.propDecidable _) ⟨x, d1, rx.abs, h, e⟩
  | false =>
    refine @decide_eq_false _ (Classical.propDecidable _) ?_
    rintro ⟨x', d', h1, h2, h3⟩
    rw [rx.abs] at h1
    have := Option.some.inj h1
    subst this
    rw [Tp.uniq h h2, h3] at e
    cases e
theorem mem_T {A : Around} (I : Inv X pins σ H s) {y : V} {v : Value} {d : PyData} (hy : Tp H y d) (ry : RelV y v) (sd : SeqAt.shaped d = true) (hu : A.units + 64 < cLine) :
    ∀ {xs : List V} {us : List Value} {ds : List PyData}, TpAll H xs ds → Vals xs us → (∀ e ∈ ds, SeqAt.shaped e = true) → ∀ u ∈ us, SeqAt.EqAt A s u v (eT H d u)
  | _, _, _, .nil, .nil, _ => fun u hu => by cases hu
  | _, _, _, .cons a t, .cons r rr, hs => fun u hu' => by
    rcases List.mem_cons.mp hu' with rfl | hu'
    · rw [eT_of r a]
      exact eqAt_T I a hy r ry (hs _ (List.mem_cons_self ..)) sd hu
    · exact mem_T I hy ry sd hu t rr (fun e he => hs e (List.mem_cons_of_mem _ he)) u hu'
theorem any_T {d : PyData} : ∀ {xs : List V} {us : List Value} {ds : List PyData}, TpAll H xs ds → Vals xs us → us.any (eT H d) = ds.any fun e => PyData.eqv e d
  | _, _, _, .nil, .nil => rfl
  | _, _, _, .cons a t, .cons r rr => by rw [List.any_cons, List.any_cons, eT_of r a, any_T t rr]
theorem TpAll.getD {ds : List PyData} : ∀ {xs : List V} {us : List Value} {ds : List PyData} {j : Nat}, TpAll H xs ds → Vals xs us → j < us.length → ∃ x d u, xs[j]? = some x ∧ ds[j]? = some d ∧ us[j]? = some u ∧ Tp H x d ∧ RelV x u
  | _, _, _, _, .nil, .nil, h => by simp at h
  | _, _, _, 0, .cons a t, .cons r rr, _ => ⟨_, _, _, rfl, rfl, rfl, a, r⟩
  | _, _, _, j + 1, .cons a t, .cons r rr, h => by
    obtain ⟨x, d, u, h1, h2, h3, h4⟩ := TpAll.getD (ds := ds) (j := j) t rr (by simpa using h)
    exact ⟨x, d, u, by simpa using h1, by simpa using h2, by simpa using h3, h4⟩
/-- x not in a list of tuples -/
theorem op_notInT (hu : X.A.units + 100 < cLine) : OpR X (compareOp .NotIn) (fun x y H Q => ∃ p xs ds d, y = .ref p ∧ SqL X.K H p xs ∧ TpAll H xs ds ∧ Tp H x d ∧ (∀ e ∈ ds, SeqAt.shaped e = true) ∧ SeqAt.shaped d = true ∧ Q (.bl (!(ds.any fun e => PyData.eqv e d))) H) := by
  intro pins s σ H x y v u Q I rx ry h
  obtain ⟨p, xs, ds, d, rfl, hq, ha, hd, hs, sd, q⟩ := h
  cases ry
  obtain ⟨its, r, pl, hz⟩ := I.list hq
  refine SeqAt.notIn_listAt (eT H d) pl.isList (fun w hw => mem_T I hd rx sd (by show X.A.units + 1 + 64 < cLine; omega) ha r hs w (by simpa using hw)) ⟨.bl _, H, I, rfl, ?_⟩
  rw [show its.toArray.any (eT H d) = its.any (eT H d) by simp, any_T ha r]
  exact q
end
namespace SA
open PySem.SeqAt PySem.Spec PyProof.Rows
open PySem.AutoSeq1 (wpAny_loadPart')
open PySem.MeetsSeq PySem.MeetsSeq2 PySem.MeetsSeq3
end SA
section
variable {X : Cx}
open PySem.Spec PyProof.Rows
end
end My
set_option Elab.async false
set_option linter.all false
set_option maxRecDepth 100000
set_option maxHeartbeats 1000000
namespace My
open PySem L2 TL
inductive Part where
  | plc (c : Plc)
  | txt (x : Str)
  | num (n : Int)
abbrev numT (n : Int) : Str := Str.ofString (toString n)
def plcT : Plc → Str
  | .reg x => x
  | .hid j => Str.ofString "h" ++ numT j
def partD : Part → PyData
  | .plc c => plcD c
  | .txt x => .str x
  | .num n => .int n
def partT : Part → Str
  | .plc c => plcT c
  | .txt x => x
  | .num n => numT n
def ordParts : Ordr → List Part
  | .alu op t a b => [.txt "alu", .txt op, .plc t, .plc a, .plc b]
  | .put t n => [.txt "put", .plc t, .num n]
  | .two kd t a => [.txt kd, .plc t, .plc a]
theorem ordD_eq (c : Ordr) : ordD c = .tuple ((ordParts c).map partD) := by cases c <;> rfl
def ordT (c : Ordr) : Str := Txt.join (Str.ofString " ") ((ordParts c).map partT)
def PlcFit : Plc → Prop
  | .reg x => x.length ≤ 8
  | .hid j => 0 ≤ j ∧ j < 16
def PartFit : Part → Prop
  | .plc c => PlcFit c
  | .txt x => x.length ≤ 8
  | .num n => 0 ≤ n ∧ n < 256
theorem numT_len {j : Int} (h0 : 0 ≤ j) (h1 : j < 256) : (numT j).length ≤ 3 := by
  have h : ∀ i : Nat, i < 256 → (numT (i : Int)).length ≤ 3 := by decide +kernel
  have e : j = ((j.toNat : Nat) : Int) := by omega
  rw [e]
  exact h _ (by omega)
theorem app_len (a b : Str) : (a ++ b).length = a.length + b.length := by
  have h := congrArg List.length (tl_append a b)
  rw [List.length_append, Array.length_toList, Array.length_toList, Array.length_toList] at h
  exact h
theorem plcT_len {c : Plc} (h : PlcFit c) : (plcT c).length ≤ 8 := by
  cases c with
  | reg x => exact h
  | hid j =>
    have h : 0 ≤ j ∧ j < 16 := h
    show (Str.ofString "h" ++ numT j).length ≤ 8
    rw [app_len]
    have := numT_len h.1 (by omega)
    have e : (Str.ofString "h").length = 1 := by decide +kernel
    omega
theorem partT_len {p : Part} (h : PartFit p) : (partT p).length ≤ 8 := by
  cases p with
  | plc c => exact plcT_len h
  | txt x => exact h
  | num n => exact Nat.le_trans (numT_len h.1 h.2) (by decide)
theorem log_small {j : Int} (h0 : 0 ≤ j) (h1 : j < 256) : j.natAbs.log2 < 1920 := by
  have h : j.natAbs < 2 ^ 8 := by omega
  have h2 : j.natAbs.log2 < 8 ∨ j.natAbs = 0 := by
    by_cases e : j.natAbs = 0
    · exact .inr e
    · exact .inl ((Nat.log2_lt e).mpr h)
  rcases h2 with z | z
  · omega
  · rw [z]
    decide
theorem ops_short : ∀ x ∈ opsL, x.length ≤ 8 := by
  have h : opsL.all (fun x => decide (x.length ≤ 8)) = true := by decide +kernel
  exact fun x hx => of_decide_eq_true (List.all_eq_true.mp h x hx)
theorem two_short : ∀ x ∈ twoL, x.length ≤ 8 := by
  have h : twoL.all (fun x => decide (x.length ≤ 8)) = true := by decide +kernel
  exact fun x hx => of_decide_eq_true (List.all_eq_true.mp h x hx)
theorem plcFit_of {o : OwnD} {c : Plc} (hO : OwnOk o) (h : PlcOk o c) : PlcFit c := by
  cases c with
  | reg x =>
    obtain ⟨m, hN, _⟩ := hO.names
    exact (hN.all x h).len.2
  | hid j =>
    have h : 0 ≤ j ∧ j < o.hidden := h
    have := hO.hidden
    exact ⟨h.1, by omega⟩
theorem pow_le {m : Nat} (h : m ≤ 8) : (2 : Int) ^ m ≤ 256 := by
  have : ∀ m : Nat, m ≤ 8 → (2 : Int) ^ m ≤ 256 := by decide
  exact this m h
def OrdFit (c : Ordr) : Prop := ∀ p ∈ ordParts c, PartFit p
theorem ordFit_of {o : OwnD} {c : Ordr} (hO : OwnOk o) (h : OrdOk o c) : OrdFit c := by
  have l1 : (Str.ofString "alu").length ≤ 8 := by decide +kernel
  have l2 : (Str.ofString "put").length ≤ 8 := by decide +kernel
  intro p hp
  cases c with
  | alu op t a b =>
    obtain ⟨h1, h2, h3, h4⟩ := h
    simp only [ordParts, List.mem_cons, List.mem_nil_iff, or_false] at hp
    rcases hp with rfl | rfl | rfl | rfl | rfl
    · exact l1
    · exact ops_short _ h1
    · exact plcFit_of hO h2
    · exact plcFit_of hO h3
    · exact plcFit_of hO h4
  | put t n =>
    obtain ⟨h1, h2, h3⟩ := h
    simp only [ordParts, List.mem_cons, List.mem_nil_iff, or_false] at hp
    rcases hp with rfl | rfl | rfl
    · exact l2
    · exact plcFit_of hO h1
    · have hb := hO.bits
      have := pow_le (m := o.bits.toNat) (by omega)
      exact ⟨h2, by omega⟩
  | two kd t a =>
    obtain ⟨h1, h2, h3⟩ := h
    simp only [ordParts, List.mem_cons, List.mem_nil_iff, or_false] at hp
    rcases hp with rfl | rfl | rfl
    · exact two_short _ h1
    · exact plcFit_of hO h2
    · exact plcFit_of hO h3
theorem parts_len (c : Ordr) : (ordParts c).length ≤ 5 ∧ 3 ≤ (ordParts c).length := by cases c <;> (refine ⟨?_, ?_⟩ <;> (simp only [ordParts, List.length_cons, List.length_nil]; decide))
theorem sum_le : ∀ xs : List Str, (∀ x ∈ xs, x.length ≤ 8) → (xs.map (·.length)).sum ≤ 8 * xs.length
  | [], _ => Nat.le_refl _
  | x :: r, h => by
    rw [List.map_cons, List.sum_cons, List.length_cons]
    have h1 := h x (List.mem_cons_self ..)
    have h2 := sum_le r fun y hy => h y (List.mem_cons_of_mem _ hy)
    omega
theorem join_size {c : Ordr} (h : OrdFit c) : (((ordParts c).map partT).map (·.length)).sum + ((ordParts c).map partT).length * (Str.ofString " ").length ≤ 16777216 := by
  have h1 := sum_le ((ordParts c).map partT) fun x hx => by
    obtain ⟨p, hp, rfl⟩ := List.mem_map.mp hx
    exact partT_len (h p hp)
  have e : (Str.ofString " ").length = 1 := by decide +kernel
  have := (parts_len c).1
  rw [List.length_map] at h1 ⊢
  rw [e]
  omega
theorem tp_parts {H : Hp} {a : Addr} {c : Ordr} (h : Tp H (.ref a) (ordD c)) : ∃ xs, H a = some (.tup xs) ∧ TpAll H xs ((ordParts c).map partD) := by
  rw [ordD_eq] at h
  cases h with
  | tup e r => exact ⟨_, e, r⟩
theorem TpAll.len {H : Hp} : ∀ {vs : List V} {ds : List PyData}, TpAll H vs ds → vs.length = ds.length
  | _, _, .nil => rfl
  | _, _, .cons _ r => by rw [List.length_cons, List.length_cons, TpAll.len r]
theorem TpAll.get {H : Hp} : ∀ {vs : List V} {ps : List Part} {i : Nat} {v : V}, TpAll H vs (ps.map partD) → vs[i]? = some v → ∃ p, ps[i]? = some p ∧ Tp H v (partD p)
  | _, [], _, _, .nil, e => by simp at e
  | _, p :: r, 0, _, .cons h _, e => by
    simp at e
    subst e
    exact ⟨p, rfl, h⟩
  | _, p :: r, i + 1, v, .cons _ t, e => by
    obtain ⟨q, h1, h2⟩ := TpAll.get (i := i) (v := v) t (by simpa using e)
    exact ⟨q, by simpa using h1, h2⟩
def spPlaceText : Sp := fun vs H Q _ => ∃ (a : Addr) (c : Plc), vs = [.ref a] ∧ Tp H (.ref a) (plcD c) ∧ PlcFit c ∧ Q (.str (plcT c)) H
def spOrderText : Sp := fun vs H Q _ => ∃ (a : Addr) (c : Ordr), vs = [.ref a] ∧ Tp H (.ref a) (ordD c) ∧ OrdFit c ∧ ∀ H', Same H H' → Q (.str (ordT c)) H'
theorem plc_inv {H : Hp} {a : Addr} {c : Plc} (h : Tp H (.ref a) (plcD c)) : (∃ x, c = .reg x ∧ H a = some (.tup [.str "reg", .str x])) ∨ ∃ j, c = .hid j ∧ H a = some (.tup [.str "hid", .int j]) := by
  cases c with
  | reg x =>
    have h : Tp H (.ref a) (.tuple [.str "reg", .str x]) := h
    cases h with
    | tup e r => cases r with | cons a r => cases r with | cons b r => cases r; cases a; cases b; exact .inl ⟨x, rfl, e⟩
  | hid j =>
    have h : Tp H (.ref a) (.tuple [.str "hid", .int j]) := h
    cases h with
    | tup e r => cases r with | cons a r => cases r with | cons b r => cases r; cases a; cases b; exact .inr ⟨j, rfl, e⟩
theorem plc_ref {H : Hp} {v : V} {c : Plc} (h : Tp H v (plcD c)) : ∃ a xs, v = .ref a ∧ H a = some (.tup xs) := by
  cases c with
  | reg x =>
    have h : Tp H v (.tuple [.str "reg", .str x]) := h
    cases h with | tup e r => exact ⟨_, _, rfl, e⟩
  | hid x =>
    have h : Tp H v (.tuple [.str "hid", .int x]) := h
    cases h with | tup e r => exact ⟨_, _, rfl, e⟩
end My
set_option Elab.async false
set_option linter.all false
set_option maxRecDepth 100000
set_option maxHeartbeats 1000000
namespace My
open PySem L2 TL
section
variable {P : Program} {w : World} {K : PySem.W.Frag} {mg : Str → Option Value} {base : Heap}
theorem reg_hid : ¬ (Str.ofString "hid" = Str.ofString "reg") := by decide +kernel
theorem h_len : (Str.ofString "h").length = 1 := by decide +kernel
structure Bl (mg : Str → Option Value) : Prop where
  isi : mg "isinstance" = none
  tup : mg "tuple" = none
  str : mg "str" = none
  int : mg "int" = none
  len : mg "len" = none
  range : mg "range" = none
  max : mg "max" = none
  min : mg "min" = none
  list : mg "list" = none
  all : mg "all" = none
  zip : mg "zip" = none
  bool : mg "bool" = none
  sorted : mg "sorted" = none
  enum : mg "enumerate" = none
theorem kit_tt {K : PySem.W.Frag} : PySem.W.kitOne K (.type "tuple") (.type "tuple") = some true := by rfl
theorem kit_st {K : PySem.W.Frag} : PySem.W.kitOne K (.type "str") (.type "tuple") = some false := by rfl
theorem kit_it {K : PySem.W.Frag} : PySem.W.kitOne K (.type "int") (.type "tuple") = some false := by rfl
end
end My
set_option Elab.async false
set_option linter.all false
set_option maxRecDepth 100000
set_option maxHeartbeats 1000000
namespace My
open PySem L2 TL
theorem at0 {v : V} {xs : List V} : atI (v :: xs) 0 = some v := atI_nat (xs := v :: xs) (j := 0) rfl
end My
set_option Elab.async false
set_option linter.all false
set_option maxRecDepth 100000
set_option maxHeartbeats 4000000
namespace L2
open PySem PySem.Spec PyProof.Rows
namespace SA
open PySem.SeqAt
end SA
section
variable {X : Cx}
end
end L2
set_option Elab.async false
set_option linter.all false
set_option maxRecDepth 100000
set_option maxHeartbeats 1000000
namespace My
open PySem L2 TL
def kindsL : List Str := ["alu", "move", "put", "load", "store"]
def rk (x : Str) : Nat := kindsL.idxOf x
def kindOf : Ordr → Str
  | .alu _ _ _ _ => "alu"
  | .put _ _ => "put"
  | .two kd _ _ => kd
theorem kind_in {o : OwnD} {c : Ordr} (h : OrdOk o c) : kindOf c ∈ kindsL := by
  have h1 : twoL.all (fun x => decide (x ∈ kindsL)) = true := by decide +kernel
  have h2 : (Str.ofString "alu") ∈ kindsL := by decide +kernel
  have h3 : (Str.ofString "put") ∈ kindsL := by decide +kernel
  cases c with
  | alu op t a b => exact h2
  | put t n => exact h3
  | two kd t a => exact of_decide_eq_true (List.all_eq_true.mp h1 kd h.1)
theorem kind_rank {x : Str} (h : x ∈ kindsL) : kindsL[rk x]? = some x ∧ ∀ m y, m < rk x → kindsL[m]? = some y → ¬ y = x := by
  have h1 : kindsL.all (fun x => decide (kindsL[rk x]? = some x) && (List.range (rk x)).all fun m => decide (¬ kindsL[m]? = some x)) = true := by decide +kernel
  have h2 := List.all_eq_true.mp h1 x h
  rw [Bool.and_eq_true] at h2
  refine ⟨of_decide_eq_true h2.1, fun m y hm hy e => ?_⟩
  have h3 := of_decide_eq_true (List.all_eq_true.mp h2.2 m (List.mem_range.mpr hm))
  rw [e] at hy
  exact h3 hy
theorem head_kind {H : Hp} {a : Addr} {c : Ordr} (h : Tp H (.ref a) (ordD c)) : ∃ xs, H a = some (.tup (.str (kindOf c) :: xs)) := by
  cases c with
  | alu op t x b =>
    have h : Tp H (.ref a) (.tuple [.str "alu", .str op, plcD t, plcD x, plcD b]) := h
    cases h with | tup e r => cases r with | cons h0 r => cases h0; exact ⟨_, e⟩
  | put t n =>
    have h : Tp H (.ref a) (.tuple [.str "put", plcD t, .int n]) := h
    cases h with | tup e r => cases r with | cons h0 r => cases h0; exact ⟨_, e⟩
  | two kd t x =>
    have h : Tp H (.ref a) (.tuple [.str kd, plcD t, plcD x]) := h
    cases h with | tup e r => cases r with | cons h0 r => cases h0; exact ⟨_, e⟩
theorem kinds_at {x : Str} (h : x ∈ kindsL) : (kindsL.map V.str)[rk x]? = some (.str x) ∧ eqV (.str x) (.str x) = true ∧ ∀ (m : Nat) (z' : V), m < rk x → (kindsL.map V.str)[m]? = some z' → eqV z' (.str x) = false := by
  obtain ⟨h1, h2⟩ := kind_rank h
  refine ⟨by rw [List.getElem?_map, h1]; rfl, beq_self_eq_true x, fun m z hm hz => ?_⟩
  rw [List.getElem?_map] at hz
  cases e : kindsL[m]? with
  | none => rw [e] at hz; cases hz
  | some y =>
    rw [e] at hz
    have hz : V.str y = z := Option.some.inj hz
    subst hz
    show (y == x) = false
    exact beq_eq_false_iff_ne.mpr (h2 m y hm e)
def keyV (c : Ordr) : List V := [.int (rk (kindOf c) : Nat), .str (ordT c)]
def spKey : Sp := fun vs H Q _ => ∃ (a : Addr) (c : Ordr), vs = [.ref a] ∧ Tp H (.ref a) (ordD c) ∧ OrdFit c ∧ kindOf c ∈ kindsL ∧ ∀ (t : Addr) (H' : Hp), H t = none → Same H H' → H' t = some (.tup (keyV c)) → Q (.ref t) H'
end My
set_option Elab.async false
set_option linter.all false
set_option maxRecDepth 100000
set_option maxHeartbeats 1000000
namespace My
open PySem L2 TL
/-- orders on the heap, one by one -/
structure OrdAt (H : Hp) (v : V) (c : Ordr) : Prop where
  tp : Tp H v (ordD c)
  fit : OrdFit c
  kind : kindOf c ∈ kindsL
theorem OrdAt.keep {H H' : Hp} {v : V} {c : Ordr} (h : OrdAt H v c) (k : KeepT H H') : OrdAt H' v c := ⟨h.tp.keep k, h.fit, h.kind⟩
def OrdsAt (H : Hp) : List V → List Ordr → Prop := Paired (OrdAt H)
theorem OrdsAt.keep {H H' : Hp} (k : KeepT H H') : ∀ {xs : List V} {cs : List Ordr}, OrdsAt H xs cs → OrdsAt H' xs cs
  | _, _, .nil => .nil
  | _, _, .cons a r => .cons (a.keep k) (OrdsAt.keep k r)
theorem OrdsAt.length {H : Hp} {xs : List V} {cs : List Ordr} (h : OrdsAt H xs cs) : xs.length = cs.length := Paired.length h
theorem OrdsAt.get {H : Hp} : ∀ {xs : List V} {cs : List Ordr} {i : Nat} {x : V}, OrdsAt H xs cs → xs[i]? = some x → ∃ c, cs[i]? = some c ∧ OrdAt H x c
  | _, _, _, _, .nil, e => by simp at e
  | _, _, 0, _, .cons r _, e => by simp at e; subst e; exact ⟨_, rfl, r⟩
  | _, _, i + 1, x, .cons _ t, e => by
    obtain ⟨c, h1, h2⟩ := OrdsAt.get (i := i) (x := x) t (by simpa using e)
    exact ⟨c, by simpa using h1, h2⟩
theorem OrdsAt.snoc {H : Hp} {v : V} {c : Ordr} (h : OrdAt H v c) : ∀ {xs : List V} {cs : List Ordr}, OrdsAt H xs cs → OrdsAt H (xs ++ [v]) (cs ++ [c])
  | _, _, .nil => .cons h .nil
  | _, _, .cons a r => .cons a (OrdsAt.snoc h r)
theorem ord_ref {H : Hp} {v : V} {c : Ordr} (h : Tp H v (ordD c)) : ∃ a, v = .ref a := by
  rw [ordD_eq] at h
  cases h with
  | tup e r => exact ⟨_, rfl⟩
def keyK (c : Ordr) : KVt := ((rk (kindOf c) : Nat), (ordT c).cps.toList)
end My
set_option Elab.async false
set_option linter.all false
set_option maxRecDepth 100000
namespace Sx
open PySem PySem.SetTable
theorem least {P : Nat → Prop} [DecidablePred P] (n : Nat) : P n → ∃ m, m ≤ n ∧ P m ∧ ∀ k, k < m → ¬ P k := by
  induction n using Nat.strongRecOn with
  | _ n ih =>
    intro h
    by_cases e : ∃ k, k < n ∧ P k
    · obtain ⟨k, hk, pk⟩ := e
      obtain ⟨m, hm, r⟩ := ih k hk pk
      exact ⟨m, Nat.le_trans hm (Nat.le_of_lt hk), r⟩
    · exact ⟨n, Nat.le_refl _, h, fun k hk pk => e ⟨k, hk, pk⟩⟩
theorem pig : ∀ (n : Nat) (l : List Nat), l.length < n → ∃ r, r < n ∧ r ∉ l
  | 0, l, h => absurd h (Nat.not_lt_zero _)
  | n + 1, l, h => by
    by_cases e : n ∈ l
    · have hl : (l.erase n).length < n := by rw [List.length_erase_of_mem e]; have := List.length_pos_of_mem e; omega
      obtain ⟨r, hr, q⟩ := pig n (l.erase n) hl
      exact ⟨r, Nat.lt_succ_of_lt hr, fun z => q ((List.mem_erase_of_ne (Nat.ne_of_lt hr)).mpr z)⟩
    · exact ⟨n, Nat.lt_succ_self _, e⟩
def stp (mask : Nat) (p : Probe) : Probe :=
  if p.more > 0 then { p with j := p.j + 1, more := p.more - 1 } else
  { p with j := (leap mask p.i p.perturb).1, more := runEnd mask (leap mask p.i p.perturb).1 - (leap mask p.i p.perturb).1, i := (leap mask p.i p.perturb).1, perturb := (leap mask p.i p.perturb).2 }
def st (mask : Nat) (h : Int) : Nat → Probe
  | 0 => { j := bits h % (mask + 1), more := runEnd mask (bits h % (mask + 1)) - bits h % (mask + 1), i := bits h % (mask + 1), perturb := bits h, dummy := none }
  | n + 1 => stp mask (st mask h n)
def pos (mask : Nat) (h : Int) (n : Nat) : Nat := (st mask h n).j
theorem st_dummy (mask : Nat) (h : Int) : ∀ n, (st mask h n).dummy = none
  | 0 => rfl
  | n + 1 => by
    show (stp mask (st mask h n)).dummy = none
    unfold stp
    split
    · exact st_dummy mask h n
    · exact st_dummy mask h n
def lp (mask : Nat) (h : Int) : Nat → Nat × Nat
  | 0 => (bits h % (mask + 1), bits h)
  | k + 1 => leap mask (lp mask h k).1 (lp mask h k).2
def run (mask i : Nat) : Nat := runEnd mask i - i
theorem run_le (mask i : Nat) : run mask i ≤ 9 := by unfold run runEnd; split <;> omega
def cc (mask : Nat) (h : Int) : Nat → Nat
  | 0 => 0
  | k + 1 => cc mask h k + run mask (lp mask h k).1 + 1
theorem cc_le (mask : Nat) (h : Int) : ∀ k, cc mask h k ≤ 10 * k
  | 0 => Nat.le_refl _
  | k + 1 => by
    have a := cc_le mask h k
    have b := run_le mask (lp mask h k).1
    unfold cc; omega
theorem st_run (mask : Nat) (h : Int) (n i q : Nat) (e : st mask h n = { j := i, more := run mask i, i := i, perturb := q, dummy := none }) :
    ∀ d, d ≤ run mask i → st mask h (n + d) = { j := i + d, more := run mask i - d, i := i, perturb := q, dummy := none }
  | 0, _ => by rw [Nat.add_zero, e]; simp
  | d + 1, hd => by
    have ih := st_run mask h n i q e d (Nat.le_of_succ_le hd)
    show stp mask (st mask h (n + d)) = _
    rw [ih]
    unfold stp
    rw [if_pos (show run mask i - d > 0 by omega)]
    simp only [Probe.mk.injEq, and_true, true_and]
    omega
theorem st_cc (mask : Nat) (h : Int) : ∀ k, st mask h (cc mask h k) = { j := (lp mask h k).1, more := run mask (lp mask h k).1, i := (lp mask h k).1, perturb := (lp mask h k).2, dummy := none }
  | 0 => rfl
  | k + 1 => by
    have ih := st_run mask h _ _ _ (st_cc mask h k) (run mask (lp mask h k).1) (Nat.le_refl _)
    show stp mask (st mask h (cc mask h k + run mask (lp mask h k).1)) = _
    rw [ih]
    unfold stp
    rw [if_neg (by show ¬ (run mask (lp mask h k).1 - run mask (lp mask h k).1 > 0); omega)]
    rfl
theorem pos_cc (mask : Nat) (h : Int) (k d : Nat) (hd : d ≤ run mask (lp mask h k).1) : pos mask h (cc mask h k + d) = (lp mask h k).1 + d := by
  unfold pos
  rw [st_run mask h _ _ _ (st_cc mask h k) d hd]
theorem bits_lt (h : Int) : bits h < 2 ^ 64 := by
  unfold bits
  have h1 := Int.emod_nonneg h (show (2 ^ 64 : Int) ≠ 0 by decide)
  have h2 := Int.emod_lt_of_pos h (show (0 : Int) < 2 ^ 64 by decide)
  omega
theorem lp_q (mask : Nat) (h : Int) : ∀ k, (lp mask h k).2 = bits h / 32 ^ k
  | 0 => by simp [lp]
  | k + 1 => by
    show (lp mask h k).2 / 32 = _
    rw [lp_q mask h k, Nat.div_div_eq_div_mul, Nat.pow_succ]
theorem lp_lt (mask : Nat) (h : Int) : ∀ k, (lp mask h k).1 ≤ mask
  | 0 => Nat.le_of_lt_succ (Nat.mod_lt _ (Nat.succ_pos _))
  | k + 1 => Nat.le_of_lt_succ (Nat.mod_lt _ (Nat.succ_pos _))
def itr (mask : Nat) : Nat → Nat → Nat
  | 0, i => i
  | m + 1, i => (itr mask m i * 5 + 1) % (mask + 1)
theorem lp_tail (mask : Nat) (h : Int) : ∀ m, (lp mask h (12 + m)).1 = itr mask m (lp mask h 12).1
  | 0 => rfl
  | m + 1 => by
    show ((lp mask h (12 + m)).1 * 5 + 1 + (lp mask h (12 + m)).2 / 32) % (mask + 1) = _
    rw [lp_q, Nat.div_div_eq_div_mul, ← Nat.pow_succ, lp_tail mask h m]
    have : bits h / 32 ^ (12 + m).succ = 0 := by
      apply Nat.div_eq_of_lt
      have a := bits_lt h
      have b : 32 ^ 13 ≤ 32 ^ (12 + m).succ := Nat.pow_le_pow_right (by decide) (by omega)
      have c : (2 : Nat) ^ 64 ≤ 32 ^ 13 := by decide
      omega
    rw [this]
    rfl
def Full (mask : Nat) : Prop := ∀ i, i ≤ mask → ∀ r, r ≤ mask → ∃ m, m ≤ mask ∧ itr mask m i = r
def fullB (mask : Nat) : Bool := (List.range (mask + 1)).all fun i => (List.range (mask + 1)).all fun r => (List.range (mask + 1)).any fun m => itr mask m i == r
theorem Full.of {mask : Nat} (h : fullB mask = true) : Full mask := by
  intro i hi r hr
  have a := List.all_eq_true.mp h i (List.mem_range.mpr (Nat.lt_succ_of_le hi))
  have b := List.all_eq_true.mp a r (List.mem_range.mpr (Nat.lt_succ_of_le hr))
  obtain ⟨m, hm, e⟩ := List.any_eq_true.mp b
  exact ⟨m, Nat.le_of_lt_succ (List.mem_range.mp hm), by simpa using e⟩
theorem full7 : Full 7 := .of (by decide +kernel)
theorem full31 : Full 31 := .of (by decide +kernel)
theorem cover {mask : Nat} (f : Full mask) (h : Int) {r : Nat} (hr : r ≤ mask) : ∃ k, k ≤ 12 + mask ∧ (lp mask h k).1 = r := by
  obtain ⟨m, hm, e⟩ := f (lp mask h 12).1 (lp_lt mask h 12) r hr
  exact ⟨12 + m, by omega, by rw [lp_tail, e]⟩
/-- some place of the way is free, and soon -/
theorem free_soon {mask : Nat} (f : Full mask) (h : Int) (l : List Nat) (hl : l.length ≤ mask) : ∃ N, N < 10 * turns mask ∧ pos mask h N ∉ l ∧ ∀ k, k < N → pos mask h k ∈ l := by
  obtain ⟨r, hr, q⟩ := pig (mask + 1) l (Nat.lt_succ_of_le hl)
  obtain ⟨k, hk, e⟩ := cover f h (Nat.le_of_lt_succ hr)
  have e2 := pos_cc mask h k 0 (Nat.zero_le _)
  rw [Nat.add_zero, Nat.add_zero, e] at e2
  obtain ⟨N, hN, p, z⟩ := least (P := fun n => pos mask h n ∉ l) (cc mask h k) (by rw [e2]; exact q)
  refine ⟨N, ?_, p, fun k hk => Decidable.of_not_not (z k hk)⟩
  have := cc_le mask h k
  unfold turns; omega
theorem below_go {xs : Array Nat} {j : Nat} (hs : xs.toList.Pairwise (· < ·)) : ∀ (fuel lo hi : Nat), hi ≤ xs.size → lo ≤ hi → hi - lo ≤ fuel → (∀ k v, k < lo → xs[k]? = some v → v < j) → (∀ k v, hi ≤ k → xs[k]? = some v → j ≤ v) →
    below.go xs j fuel lo hi ≤ xs.size ∧ (∀ k v, k < below.go xs j fuel lo hi → xs[k]? = some v → v < j) ∧ ∀ k v, below.go xs j fuel lo hi ≤ k → xs[k]? = some v → j ≤ v
  | 0, lo, hi, h1, h2, h3, a, b => by
    have e : hi = lo := by omega
    subst e
    exact ⟨h1, a, b⟩
  | fuel + 1, lo, hi, h1, h2, h3, a, b => by
    have mono : ∀ k l u v, k ≤ l → xs[k]? = some u → xs[l]? = some v → u ≤ v := fun k l u v hkl e1 e2 => by
      rcases Nat.lt_or_eq_of_le hkl with hlt | rfl
      · have e1 : xs.toList[k]? = some u := by simpa using e1
        have e2 : xs.toList[l]? = some v := by simpa using e2
        obtain ⟨i1, q1⟩ := List.getElem?_eq_some_iff.mp e1
        obtain ⟨i2, q2⟩ := List.getElem?_eq_some_iff.mp e2
        have := List.pairwise_iff_getElem.mp hs k l i1 i2 hlt
        rw [q1, q2] at this
        exact Nat.le_of_lt this
      · rw [e1] at e2; cases e2; exact Nat.le_refl _
    unfold below.go
    by_cases hlt : lo < hi
    · rw [if_pos hlt]
      dsimp only
      have hm : (lo + hi) / 2 < xs.size := by omega
      have em : xs[(lo + hi) / 2]? = some xs[(lo + hi) / 2] := Array.getElem?_eq_getElem hm
      have ed : xs.getD ((lo + hi) / 2) j = xs[(lo + hi) / 2] := by simp [Array.getD, hm]
      rw [ed]
      by_cases hc : xs[(lo + hi) / 2] < j
      · rw [if_pos hc]
        exact below_go hs fuel _ hi h1 (by omega) (by omega) (fun k v hk e => Nat.lt_of_le_of_lt (mono k _ v _ (Nat.le_of_lt_succ hk) e em) hc) b
      · rw [if_neg hc]
        exact below_go hs fuel lo _ (by omega) (by omega) (by omega) a (fun k v hk e => Nat.le_trans (Nat.le_of_not_lt hc) (mono _ k _ v hk em e))
    · rw [if_neg hlt]
      have e : hi = lo := by omega
      subst e
      exact ⟨h1, a, b⟩
theorem below_ok {xs : Array Nat} (hs : xs.toList.Pairwise (· < ·)) (j : Nat) : below xs j ≤ xs.size ∧ (∀ k v, k < below xs j → xs[k]? = some v → v < j) ∧ ∀ k v, below xs j ≤ k → xs[k]? = some v → j ≤ v :=
  below_go hs xs.size 0 xs.size (Nat.le_refl _) (Nat.zero_le _) (by omega) (fun k v hk => absurd hk (Nat.not_lt_zero _)) (fun k v hk e => by rw [Array.getElem?_eq_none hk] at e; cases e)
theorem below_at {xs : Array Nat} (hs : xs.toList.Pairwise (· < ·)) {i j : Nat} (e : xs[i]? = some j) : below xs j = i := by
  obtain ⟨h1, a, b⟩ := below_ok hs j
  rcases Nat.lt_trichotomy (below xs j) i with h | h | h
  · -- what stands at the found place is less than j, and not
    have hlt : below xs j < xs.size := Nat.lt_of_lt_of_le h (Nat.le_of_lt (by
      rcases Nat.lt_or_ge i xs.size with z | z
      · exact z
      · rw [Array.getElem?_eq_none z] at e; cases e))
    have q := b (below xs j) xs[below xs j] (Nat.le_refl _) (Array.getElem?_eq_getElem hlt)
    have e' : xs.toList[i]? = some j := by simpa using e
    obtain ⟨i2, q2⟩ := List.getElem?_eq_some_iff.mp e'
    have := List.pairwise_iff_getElem.mp hs (below xs j) i (by simpa using hlt) i2 h
    rw [q2] at this
    simp at this
    omega
  · exact h
  · have := a i j h e; omega
end Sx
set_option Elab.async false
set_option linter.all false
set_option maxRecDepth 100000
namespace Sx
open PySem PySem.SetTable
/-- a table without dummies: each item is come to before the first free place of its way -/
structure OkT (t : SetTable) (es : List (Int × Value)) : Prop where
  dm : t.dummies = #[]
  fu : Full t.mask
  od : t.mask % 2 = 1
  sz : t.place.size = es.length
  ri : t.place.toList.Pairwise (· < ·)
  le : ∀ j ∈ t.place.toList, j ≤ t.mask
  fl : t.place.size ≤ t.mask
  re : ∀ (i j : Nat) (e : Int × Value), t.place.toList[i]? = some j → es[i]? = some e → ∃ n, pos t.mask e.1 n = j ∧ ∀ m, m < n → pos t.mask e.1 m ∈ t.place.toList
theorem slot_live {t : SetTable} {es : List (Int × Value)} (o : OkT t es) {i j : Nat} (e : t.place.toList[i]? = some j) : t.slot j = .live i := by
  have e : t.place[i]? = some j := by simpa using e
  unfold SetTable.slot
  dsimp only
  rw [below_at o.ri e, e]
  simp
theorem slot_empty {t : SetTable} {es : List (Int × Value)} (o : OkT t es) {j : Nat} (e : j ∉ t.place.toList) : t.slot j = .empty := by
  unfold SetTable.slot
  dsimp only
  have n : ∀ i : Nat, (t.place[i]? == some j) = false := fun i => by
    cases q : t.place[i]? with
    | none => rfl
    | some v =>
      have : v ∈ t.place.toList := List.mem_of_getElem? (by simpa using q)
      have : v ≠ j := fun z => e (z ▸ this)
      simpa using this
  have m : has t.dummies j = false := by rw [o.dm]; rfl
  rw [n, m]
  rfl
def hat (es : List (Int × Value)) (i : Nat) : Int := (es[i]?.map (·.1)).getD 0
theorem hat_of {es : List (Int × Value)} {i : Nat} {e : Int × Value} (h : es[i]? = some e) : hat es i = e.1 := by unfold hat; rw [h]; rfl
/-- the probing from the n-th place of the way on, the first free one the N-th -/
theorem probe_go {t : SetTable} {es : List (Int × Value)} (o : OkT t es) {f : Nat → Int} (hf : ∀ i, f i = hat es i) {h : Int} {N : Nat} (hN : pos t.mask h N ∉ t.place.toList) (hl : ∀ k, k < N → pos t.mask h k ∈ t.place.toList) :
    ∀ (fuel n : Nat), n ≤ N → N - n < fuel →
      (probe.go t f h fuel (st t.mask h n) = some (.empty (pos t.mask h N) none) ∧ ∀ m i, n ≤ m → m < N → t.place.toList[i]? = some (pos t.mask h m) → hat es i ≠ h) ∨
      (∃ m i, n ≤ m ∧ m < N ∧ t.place.toList[i]? = some (pos t.mask h m) ∧ hat es i = h ∧ probe.go t f h fuel (st t.mask h n) = some (.candidate (pos t.mask h m) i (st t.mask h (m + 1))) ∧
        ∀ m' i', n ≤ m' → m' < m → t.place.toList[i']? = some (pos t.mask h m') → hat es i' ≠ h)
  | 0, n, _, hn => absurd hn (Nat.not_lt_zero _)
  | fuel + 1, n, hnN, hn => by
    rcases Nat.lt_or_eq_of_le hnN with hlt | rfl
    · obtain ⟨i, ei⟩ := List.mem_iff_getElem?.mp (hl n hlt)
      have sl := slot_live o ei
      unfold probe.go
      rw [show t.slot (st t.mask h n).j = .live i from sl]
      dsimp only
      have uniq : ∀ i', t.place.toList[i']? = some (pos t.mask h n) → i' = i := fun i' e' => by
        have a := below_at o.ri (i := i) (j := pos t.mask h n) (by simpa using ei)
        have b := below_at o.ri (i := i') (j := pos t.mask h n) (by simpa using e')
        omega
      by_cases hh : f i = h
      · rw [if_pos (by simpa using hh)]
        right
        exact ⟨n, i, Nat.le_refl _, hlt, ei, by rw [← hf]; exact hh, rfl, fun m' i' a b => absurd (Nat.lt_of_le_of_lt a b) (Nat.lt_irrefl _)⟩
      · rw [if_neg (by simpa using hh)]
        have hne : hat es i ≠ h := by rw [← hf]; exact hh
        rcases probe_go o hf hN hl fuel (n + 1) hlt (by omega) with ⟨e1, a⟩ | ⟨m, k, m1, m2, e1, e2, e3, a⟩
        · left
          refine ⟨e1, fun m i' h1 h2 e => ?_⟩
          rcases Nat.lt_or_eq_of_le h1 with z | rfl
          · exact a m i' z h2 e
          · rw [uniq i' e]; exact hne
        · right
          refine ⟨m, k, Nat.le_of_succ_le m1, m2, e1, e2, e3, fun m' i' h1 h2 e => ?_⟩
          rcases Nat.lt_or_eq_of_le h1 with z | rfl
          · exact a m' i' z h2 e
          · rw [uniq i' e]; exact hne
    · left
      unfold probe.go
      rw [show t.slot (st t.mask h n).j = .empty from slot_empty o hN]
      exact ⟨by rw [show (st t.mask h n).dummy = none from st_dummy _ _ _]; rfl, fun m i a b => absurd (Nat.lt_of_le_of_lt a b) (Nat.lt_irrefl _)⟩
/-- what has the hash h is come to before the first free place -/
theorem come {t : SetTable} {es : List (Int × Value)} (o : OkT t es) {h : Int} {N : Nat} (hN : pos t.mask h N ∉ t.place.toList) {i : Nat} {e : Int × Value} (he : es[i]? = some e) (hh : e.1 = h) :
    ∃ m, m < N ∧ t.place.toList[i]? = some (pos t.mask h m) := by
  have hi : i < t.place.toList.length := by
    rw [Array.length_toList, o.sz]
    rcases Nat.lt_or_ge i es.length with z | z
    · exact z
    · rw [List.getElem?_eq_none z] at he; cases he
  have ej := List.getElem?_eq_getElem hi
  obtain ⟨n, e1, e2⟩ := o.re i _ e ej he
  rw [hh] at e1 e2
  refine ⟨n, ?_, by rw [ej, e1]⟩
  rcases Nat.lt_trichotomy n N with z | z | z
  · exact z
  · subst z
    exact absurd (by rw [e1]; exact List.mem_of_getElem? ej) hN
  · exact absurd (e2 N z) hN
theorem insertAt_list {α : Type} (xs : Array α) (p : Nat) (x : α) : (SetTable.insertAt xs p x).toList = xs.toList.take p ++ x :: xs.toList.drop p := by
  simp [SetTable.insertAt, List.extract_eq_take_drop, List.take_of_length_le]
theorem ins_get {α : Type} (l : List α) (p : Nat) (x : α) (hp : p ≤ l.length) (i : Nat) : (l.take p ++ x :: l.drop p)[i]? = if i < p then l[i]? else if i = p then some x else l[i - 1]? := by
  have hl : (l.take p).length = p := by rw [List.length_take]; omega
  by_cases h1 : i < p
  · rw [if_pos h1, List.getElem?_append_left (by omega), List.getElem?_take_of_lt h1]
  · rw [if_neg h1, List.getElem?_append_right (by omega), hl]
    by_cases h2 : i = p
    · rw [if_pos h2, h2, Nat.sub_self]; rfl
    · rw [if_neg h2]
      obtain ⟨d, hd⟩ : ∃ d, i - p = d + 1 := ⟨i - p - 1, by omega⟩
      rw [hd, List.getElem?_cons_succ, List.getElem?_drop]
      congr 1
      omega
/-- the new item laid at the first free place of its way -/
theorem OkT.put {t : SetTable} {es : List (Int × Value)} (o : OkT t es) {h : Int} {x : Value} {N : Nat} (hN : pos t.mask h N ∉ t.place.toList) (hl : ∀ k, k < N → pos t.mask h k ∈ t.place.toList) (hle : pos t.mask h N ≤ t.mask) (hsz : es.length < t.mask) :
    (t.put (pos t.mask h N)).1.dummies = #[] ∧ OkT (t.put (pos t.mask h N)).1 (es.take (t.put (pos t.mask h N)).2 ++ (h, x) :: es.drop (t.put (pos t.mask h N)).2) := by
  generalize hj : pos t.mask h N = j at *
  obtain ⟨b1, b2, b3⟩ := below_ok o.ri j
  have hd : has t.dummies j = false := by rw [o.dm]; rfl
  have dmm : (t.put j).1.dummies = #[] := by
    show (if has t.dummies j = true then _ else t.dummies) = _
    rw [hd, o.dm]; rfl
  have pl : (t.put j).1.place.toList = t.place.toList.take (below t.place j) ++ j :: t.place.toList.drop (below t.place j) := insertAt_list _ _ _
  have mk : (t.put j).1.mask = t.mask := rfl
  have pp : (t.put j).2 = below t.place j := rfl
  generalize hp : below t.place j = p at *
  have len : (t.put j).1.place.toList.length = t.place.toList.length + 1 := by
    rw [pl, List.length_append, List.length_cons, List.length_take, List.length_drop]
    simp only [Array.length_toList]
    omega
  have hpl : p ≤ t.place.toList.length := by simpa using b1
  have mem : ∀ v, v ∈ (t.put j).1.place.toList ↔ v = j ∨ v ∈ t.place.toList := fun v => by
    rw [pl]
    conv => rhs; rw [← List.take_append_drop p t.place.toList]
    simp only [List.mem_append, List.mem_cons]
    constructor
    · rintro (z | z | z)
      · exact .inr (.inl z)
      · exact .inl z
      · exact .inr (.inr z)
    · rintro (z | z | z)
      · exact .inr (.inl z)
      · exact .inl z
      · exact .inr (.inr z)
  refine ⟨dmm, dmm, o.fu, o.od, ?_, ?_, fun v hv => ?_, ?_, fun i v e hi he => ?_⟩
  · have := len
    simp only [Array.length_toList] at this
    rw [this, o.sz, pp, List.length_append, List.length_cons, List.length_take, List.length_drop]
    have := o.sz
    omega
  · rw [pl, List.pairwise_append]
    refine ⟨o.ri.sublist (List.take_sublist _ _), List.pairwise_cons.mpr ⟨fun v hv => ?_, o.ri.sublist (List.drop_sublist _ _)⟩, fun u hu v hv => ?_⟩
    · have hv' : v ∈ t.place.toList := List.mem_of_mem_drop hv
      obtain ⟨k, hk⟩ := List.mem_iff_getElem?.mp hv
      rw [List.getElem?_drop] at hk
      have := b3 (p + k) v (Nat.le_add_right _ _) (by simpa using hk)
      have : v ≠ j := fun z => hN (z ▸ hv')
      omega
    · have lt : u < j := by
        obtain ⟨k, hk⟩ := List.mem_iff_getElem?.mp hu
        have hkp : k < p := by
          rcases Nat.lt_or_ge k p with z | z
          · exact z
          · rw [List.getElem?_take_eq_none z] at hk; cases hk
        rw [List.getElem?_take_of_lt hkp] at hk
        exact b2 k u hkp (by simpa using hk)
      rcases List.mem_cons.mp hv with rfl | hv
      · exact lt
      · obtain ⟨k, hk⟩ := List.mem_iff_getElem?.mp hv
        rw [List.getElem?_drop] at hk
        have := b3 (p + k) v (Nat.le_add_right _ _) (by simpa using hk)
        omega
  · rcases (mem v).mp hv with rfl | hv
    · exact hle
    · exact o.le v hv
  · have := len
    simp only [Array.length_toList] at this
    rw [this]
    have := o.sz
    show t.place.size + 1 ≤ t.mask
    omega
  · rw [mk]
    have hes : p ≤ es.length := by rw [← o.sz]; exact b1
    rw [pl, ins_get _ _ _ hpl] at hi
    rw [pp, ins_get _ _ _ hes] at he
    have old : ∀ k, t.place.toList[k]? = some v → es[k]? = some e → ∃ n, pos t.mask e.1 n = v ∧ ∀ m, m < n → pos t.mask e.1 m ∈ (t.put j).1.place.toList := fun k h1 h2 => by
      obtain ⟨n, a, b⟩ := o.re k v e h1 h2
      exact ⟨n, a, fun m hm => (mem _).mpr (.inr (b m hm))⟩
    by_cases h1 : i < p
    · rw [if_pos h1] at hi he
      exact old i hi he
    · rw [if_neg h1] at hi he
      by_cases h2 : i = p
      · rw [if_pos h2] at hi he
        cases hi; cases he
        exact ⟨N, hj, fun m hm => (mem _).mpr (.inr (hl m hm))⟩
      · rw [if_neg h2] at hi he
        exact old (i - 1) hi he
end Sx
set_option Elab.async false
set_option linter.all false
set_option maxRecDepth 100000
namespace Sx
open PySem PySem.SetTable
theorem runEnd_ge (mask i : Nat) : i ≤ runEnd mask i := by unfold runEnd; split <;> omega
theorem runEnd_le {mask i : Nat} (h : i ≤ mask) : runEnd mask i ≤ mask := by unfold runEnd; split <;> omega
theorem st_in (mask : Nat) (h : Int) : ∀ n, (st mask h n).j + (st mask h n).more = runEnd mask (st mask h n).i ∧ (st mask h n).i ≤ mask
  | 0 => by
    show bits h % (mask + 1) + (runEnd mask (bits h % (mask + 1)) - bits h % (mask + 1)) = runEnd mask (bits h % (mask + 1)) ∧ bits h % (mask + 1) ≤ mask
    have a := runEnd_ge mask (bits h % (mask + 1))
    exact ⟨by omega, Nat.le_of_lt_succ (Nat.mod_lt _ (Nat.succ_pos _))⟩
  | n + 1 => by
    obtain ⟨a, b⟩ := st_in mask h n
    show (stp mask (st mask h n)).j + (stp mask (st mask h n)).more = runEnd mask (stp mask (st mask h n)).i ∧ (stp mask (st mask h n)).i ≤ mask
    unfold stp
    split
    · exact ⟨by show (st mask h n).j + 1 + ((st mask h n).more - 1) = runEnd mask (st mask h n).i; omega, b⟩
    · have g := runEnd_ge mask (leap mask (st mask h n).i (st mask h n).perturb).1
      refine ⟨?_, Nat.le_of_lt_succ (Nat.mod_lt _ (Nat.succ_pos _))⟩
      dsimp only
      omega
theorem pos_le (mask : Nat) (h : Int) (n : Nat) : pos mask h n ≤ mask := by
  obtain ⟨a, b⟩ := st_in mask h n
  have := runEnd_le b
  unfold pos; omega
theorem cc_mono (mask : Nat) (h : Int) : ∀ {a b : Nat}, a ≤ b → cc mask h a ≤ cc mask h b := fun {a b} hab => by
  induction b with
  | zero => rw [Nat.le_zero.mp hab]; exact Nat.le_refl _
  | succ b ih =>
    rcases Nat.lt_or_eq_of_le hab with z | rfl
    · refine Nat.le_trans (ih (Nat.le_of_lt_succ z)) ?_
      show _ ≤ cc mask h b + run mask (lp mask h b).1 + 1
      omega
    · exact Nat.le_refl _
theorem free_first {mask : Nat} (f : Full mask) (h : Int) (l : List Nat) (hl : l.length ≤ mask) : ∃ N, N ≤ cc mask h (12 + mask) ∧ pos mask h N ∉ l ∧ ∀ k, k < N → pos mask h k ∈ l := by
  obtain ⟨r, hr, q⟩ := pig (mask + 1) l (Nat.lt_succ_of_le hl)
  obtain ⟨k, hk, e⟩ := cover f h (Nat.le_of_lt_succ hr)
  have e2 := pos_cc mask h k 0 (Nat.zero_le _)
  rw [Nat.add_zero, Nat.add_zero, e] at e2
  obtain ⟨N, hN, p, z⟩ := least (P := fun n => pos mask h n ∉ l) (cc mask h k) (by rw [e2]; exact q)
  exact ⟨N, Nat.le_trans hN (cc_mono mask h hk), p, fun k hk => Decidable.of_not_not (z k hk)⟩
/-- the owners as a list of places -/
def Owns (mask : Nat) (owner : Array (Option Nat)) (ls : List Nat) : Prop := ∀ j, j ≤ mask → owner[j]? = some (ls.findIdx? (· == j))
theorem idx_none {ls : List Nat} {j : Nat} (h : j ∉ ls) : ls.findIdx? (· == j) = none := by
  rw [List.findIdx?_eq_none_iff]
  intro x hx
  simp only [beq_eq_false_iff_ne]
  exact fun e => h (e ▸ hx)
theorem idx_some {ls : List Nat} {j : Nat} (h : j ∈ ls) : ∃ k, ls.findIdx? (· == j) = some k := by
  cases e : ls.findIdx? (· == j) with
  | some k => exact ⟨k, rfl⟩
  | none =>
    have := List.findIdx?_eq_none_iff.mp e j h
    simp at this
theorem Owns.none {mask : Nat} {owner : Array (Option Nat)} {ls : List Nat} (o : Owns mask owner ls) {j : Nat} (hj : j ≤ mask) (h : j ∉ ls) : (owner.getD j (some 0)).isNone = true := by
  have e := o j hj
  rw [idx_none h] at e
  rw [Array.getD_eq_getD_getElem?, e]; rfl
theorem Owns.some {mask : Nat} {owner : Array (Option Nat)} {ls : List Nat} (o : Owns mask owner ls) {j : Nat} (hj : j ≤ mask) (h : j ∈ ls) : (owner.getD j (some 0)).isNone = false := by
  have e := o j hj
  obtain ⟨k, hk⟩ := idx_some h
  rw [hk] at e
  rw [Array.getD_eq_getD_getElem?, e]; rfl
theorem find_first {P : Nat → Bool} : ∀ {n d : Nat}, d < n → P d = true → (∀ k, k < d → P k = false) → (List.range n).find? P = some d := fun {n d} hd hp hn => by
  rw [List.find?_range_eq_some]
  refine ⟨hp, by simpa using hd, fun k hk => ?_⟩
  simp [hn k hk]
theorem free_ok {mask : Nat} {h : Int} {owner : Array (Option Nat)} {ls : List Nat} (o : Owns mask owner ls) {N : Nat} (hN : pos mask h N ∉ ls) (hl : ∀ k, k < N → pos mask h k ∈ ls) :
    ∀ (fuel k : Nat), cc mask h k ≤ N → N < cc mask h (k + fuel) → layClean.free mask owner fuel (lp mask h k).1 (lp mask h k).2 = some (pos mask h N)
  | 0, k, h1, h2 => by rw [Nat.add_zero] at h2; omega
  | fuel + 1, k, h1, h2 => by
    have re : runEnd mask (lp mask h k).1 + 1 - (lp mask h k).1 = run mask (lp mask h k).1 + 1 := by
      have := runEnd_ge mask (lp mask h k).1
      unfold run; omega
    have le : ∀ d, d ≤ run mask (lp mask h k).1 → (lp mask h k).1 + d ≤ mask := fun d hd => by
      rw [← pos_cc mask h k d hd]; exact pos_le _ _ _
    unfold layClean.free
    rw [re]
    by_cases hr : N ≤ cc mask h k + run mask (lp mask h k).1
    · obtain ⟨d, hd⟩ : ∃ d, N = cc mask h k + d := ⟨N - cc mask h k, by omega⟩
      have hdr : d ≤ run mask (lp mask h k).1 := by omega
      have ep := pos_cc mask h k d hdr
      rw [find_first (d := d) (by omega) ?_ ?_]
      · dsimp only; rw [hd, ep]
      · rw [hd, ep] at hN
        exact o.none (le d hdr) hN
      · intro k' hk'
        have ep' := pos_cc mask h k k' (by omega)
        have := hl (cc mask h k + k') (by omega)
        rw [ep'] at this
        exact o.some (le k' (by omega)) this
    · have e : (List.range (run mask (lp mask h k).1 + 1)).find? (fun k' => (owner.getD ((lp mask h k).1 + k') (some 0)).isNone) = none := by
        rw [List.find?_eq_none]
        intro k' hk'
        have hk' := List.mem_range.mp hk'
        have ep' := pos_cc mask h k k' (by omega)
        have := hl (cc mask h k + k') (by omega)
        rw [ep'] at this
        rw [o.some (le k' (by omega)) this]
        decide
      rw [e]
      dsimp only
      refine free_ok o hN hl fuel (k + 1) ?_ (by rw [show k + 1 + fuel = k + (fuel + 1) by omega]; exact h2)
      show cc mask h k + run mask (lp mask h k).1 + 1 ≤ N
      omega
/-- one item more -/
structure Laid (mask : Nat) (hs : List Int) (owner : Array (Option Nat)) (ls : List Nat) : Prop where
  ow : Owns mask owner ls
  sz : owner.size = mask + 1
  len : ls.length = hs.length
  nd : ls.Nodup
  le : ∀ j ∈ ls, j ≤ mask
  re : ∀ (k j : Nat) (h : Int), ls[k]? = some j → hs[k]? = some h → ∃ n, pos mask h n = j ∧ ∀ m, m < n → pos mask h m ∈ ls
theorem lay_step {mask : Nat} (f : Full mask) {hs : List Int} {owner : Array (Option Nat)} {ls : List Nat} (L : Laid mask hs owner ls) (hlt : hs.length ≤ mask) (h : Int) :
    ∃ j, layClean.free mask owner (turns mask) (bits h % (mask + 1)) (bits h) = some j ∧ Laid mask (hs ++ [h]) (owner.setIfInBounds j (some hs.length)) (ls ++ [j]) := by
  obtain ⟨N, n1, n2, n3⟩ := free_first f h ls (by rw [L.len]; exact hlt)
  have fr := free_ok L.ow n2 n3 (turns mask) 0 (Nat.zero_le _) (by
    have : cc mask h (12 + mask) < cc mask h (13 + mask) := by
      rw [show 13 + mask = (12 + mask) + 1 by omega]
      show _ < cc mask h (12 + mask) + run mask (lp mask h (12 + mask)).1 + 1
      omega
    have b := cc_mono mask h (show 13 + mask ≤ 0 + turns mask by unfold turns; omega)
    omega)
  refine ⟨_, fr, ?_⟩
  have hle := pos_le mask h N
  generalize hj : pos mask h N = j at *
  refine ⟨fun i hi => ?_, by rw [Array.size_setIfInBounds]; exact L.sz, by rw [List.length_append, List.length_append, L.len]; rfl, ?_, fun i hi => ?_, fun k i g e1 e2 => ?_⟩
  · rw [List.findIdx?_append]
    by_cases e : i = j
    · subst e
      rw [Array.getElem?_setIfInBounds_self_of_lt (by rw [L.sz]; omega), idx_none n2, L.len.symm]
      simp
    · rw [Array.getElem?_setIfInBounds_ne (Ne.symm e), L.ow i hi]
      have : List.findIdx? (fun x => x == i) [j] = none := idx_none (by simpa using e)
      rw [this]
      cases ls.findIdx? (· == i) <;> rfl
  · rw [List.nodup_append]
    exact ⟨L.nd, by simp, fun a ha b hb => by
      have : b = j := by simpa using hb
      subst this
      exact fun z => n2 (z ▸ ha)⟩
  · rcases List.mem_append.mp hi with z | z
    · exact L.le i z
    · have : i = j := by simpa using z
      rw [this]; exact hle
  · have hk : k < (ls ++ [j]).length := by
      rcases Nat.lt_or_ge k (ls ++ [j]).length with z | z
      · exact z
      · rw [List.getElem?_eq_none z] at e1; cases e1
    by_cases e : k < ls.length
    · rw [List.getElem?_append_left e] at e1
      rw [List.getElem?_append_left (by rw [← L.len]; exact e)] at e2
      obtain ⟨n, a, b⟩ := L.re k i g e1 e2
      exact ⟨n, a, fun m hm => List.mem_append_left _ (b m hm)⟩
    · have ek : k = ls.length := by rw [List.length_append] at hk; simp at hk; omega
      rw [ek, List.getElem?_append_right (Nat.le_refl _), Nat.sub_self] at e1
      rw [ek, L.len, List.getElem?_append_right (Nat.le_refl _), Nat.sub_self] at e2
      cases e1; cases e2
      exact ⟨N, hj, fun m hm => List.mem_append_left _ (n3 m hm)⟩
end Sx
set_option Elab.async false
set_option linter.all false
set_option maxRecDepth 100000
namespace Sx
open PySem PySem.SetTable
def layF (mask : Nat) (acc : Option (Array (Option Nat) × Nat)) (h : Int) : Option (Array (Option Nat) × Nat) := do
  let (owner, k) ← acc
  let j ← layClean.free mask owner (turns mask) (bits h % (mask + 1)) (bits h)
  pure (owner.setIfInBounds j (some k), k + 1)
theorem lay_all {mask : Nat} (f : Full mask) : ∀ (todo hs : List Int) (owner : Array (Option Nat)) (ls : List Nat), Laid mask hs owner ls → (hs ++ todo).length ≤ mask →
    ∃ owner' ls', todo.foldl (layF mask) (some (owner, hs.length)) = some (owner', (hs ++ todo).length) ∧ Laid mask (hs ++ todo) owner' ls'
  | [], hs, owner, ls, L, _ => ⟨owner, ls, by simp, by simpa using L⟩
  | h :: todo, hs, owner, ls, L, hl => by
    have hl' : hs.length ≤ mask := by rw [List.length_append] at hl; omega
    obtain ⟨j, e, L'⟩ := lay_step f L hl' h
    have q := lay_all f todo (hs ++ [h]) _ _ L' (by simpa using hl)
    obtain ⟨o', l', e', L2⟩ := q
    refine ⟨o', l', ?_, by simpa using L2⟩
    rw [List.foldl_cons]
    have : layF mask (some (owner, hs.length)) h = some (owner.setIfInBounds j (some hs.length), (hs ++ [h]).length) := by
      unfold layF
      simp [e]
    rw [this, e']
    simp
theorem lay_new (mask : Nat) : Laid mask [] (Array.replicate (mask + 1) none) [] := by
  refine ⟨fun j hj => ?_, by simp, rfl, by simp, by simp, fun k j h e => by simp at e⟩
  rw [Array.getElem?_replicate, if_pos (Nat.lt_succ_of_le hj)]
  rfl
theorem clean_ok {mask : Nat} (f : Full mask) (hs : Array Int) (hl : hs.size ≤ mask) : ∃ owner ls, layClean mask hs = some owner ∧ Laid mask hs.toList owner ls := by
  obtain ⟨o, l, e, L⟩ := lay_all f hs.toList [] _ _ (lay_new mask) (by simpa using hl)
  refine ⟨o, l, ?_, by simpa using L⟩
  unfold layClean
  rw [← Array.foldl_toList]
  have : (hs.toList.foldl (layF mask) (some (Array.replicate (mask + 1) none, 0))) = _ := e
  show (hs.toList.foldl (layF mask) (some (Array.replicate (mask + 1) none, 0))).map (·.1) = some o
  rw [this]
  rfl
theorem filterMap_idx {mask : Nat} {owner : Array (Option Nat)} {ls : List Nat} (o : Owns mask owner ls) : ∀ (l : List Nat), (∀ j ∈ l, j ≤ mask) →
    l.filterMap (fun j => (owner.getD j none).map (j, ·)) = (l.filter (fun j => decide (j ∈ ls))).map fun j => (j, (ls.findIdx? (· == j)).getD 0)
  | [], _ => rfl
  | j :: l, h => by
    have ih := filterMap_idx o l fun i hi => h i (List.mem_cons_of_mem _ hi)
    have e := o j (h j List.mem_cons_self)
    have g : owner.getD j none = ls.findIdx? (· == j) := by rw [Array.getD_eq_getD_getElem?, e]; rfl
    by_cases hm : j ∈ ls
    · obtain ⟨k, hk⟩ := idx_some hm
      rw [List.filterMap_cons_some (b := (j, k)) (by rw [g, hk]; rfl), ih, List.filter_cons_of_pos (by simpa using hm), List.map_cons, hk]
      rfl
    · rw [List.filterMap_cons_none (by rw [g, idx_none hm]; rfl), ih, List.filter_cons_of_neg (by simpa using hm)]
theorem nodup_perm {a b : List Nat} (ha : a.Nodup) (hb : b.Nodup) (h : ∀ x, x ∈ a ↔ x ∈ b) : a.Perm b := by
  rw [List.perm_iff_count]
  intro x
  have c1 := List.nodup_iff_count.mp ha x
  have c2 := List.nodup_iff_count.mp hb x
  by_cases hx : x ∈ a
  · have p1 := List.count_pos_iff.mpr hx
    have p2 := List.count_pos_iff.mpr ((h x).mp hx)
    omega
  · rw [List.count_eq_zero.mpr hx, List.count_eq_zero.mpr fun z => hx ((h x).mpr z)]
theorem idx_at {ls : List Nat} (nd : ls.Nodup) {k j : Nat} (e : ls[k]? = some j) : ls.findIdx? (· == j) = some k := by
  rw [List.findIdx?_eq_some_iff_getElem]
  obtain ⟨hk, q⟩ := List.getElem?_eq_some_iff.mp e
  refine ⟨hk, by simp [q], fun i hi => ?_⟩
  have hn := (List.pairwise_iff_getElem.mp nd) i k (Nat.lt_trans hi hk) hk hi
  rw [q] at hn
  simpa using hn
theorem idx_get {ls : List Nat} {k j : Nat} (e : ls.findIdx? (· == j) = some k) : ls[k]? = some j := by
  obtain ⟨hk, q, _⟩ := List.findIdx?_eq_some_iff_getElem.mp e
  rw [List.getElem?_eq_getElem hk]
  simpa using q
theorem map_idx {ls : List Nat} (nd : ls.Nodup) : ls.map (fun j => (ls.findIdx? (· == j)).getD 0) = List.range ls.length := by
  apply List.ext_getElem?
  intro k
  rw [List.getElem?_map]
  rcases Nat.lt_or_ge k ls.length with hk | hk
  · have e := List.getElem?_eq_getElem hk
    rw [e, Option.map_some, idx_at nd e, List.getElem?_range hk]
    rfl
  · rw [List.getElem?_eq_none hk, List.getElem?_eq_none (by simpa using hk)]
    rfl
/-- a table laid anew -/
theorem laid_ok {mask finger moves : Nat} {led plain : Bool} (f : Full mask) (od : mask % 2 = 1) (es : Array (Int × Value)) (hl : es.size ≤ mask) :
    ∃ t' order, laid mask finger moves led plain (es.map (·.1)) = some (t', order) ∧ OkT t' (order.filterMap (es[·]?)).toList ∧ (order.filterMap (es[·]?)).toList.Perm es.toList ∧ t'.mask = mask ∧ t'.led = led ∧ t'.plain = plain := by
  obtain ⟨owner, ls, e, L⟩ := clean_ok f (es.map (·.1)) (by simpa using hl)
  have fm := filterMap_idx L.ow (List.range (mask + 1)) fun j hj => Nat.le_of_lt_succ (List.mem_range.mp hj)
  have hl2 : laid mask finger moves led plain (es.map (·.1)) = some (({ mask := mask, place := (((List.range (mask + 1)).filterMap fun j => (owner.getD j none).map (j, ·)).map (·.1)).toArray, dummies := #[], finger := finger, led := led, moves := moves, plain := plain } : SetTable),
      (((List.range (mask + 1)).filterMap fun j => (owner.getD j none).map (j, ·)).map (·.2)).toArray) := by
    unfold laid
    rw [e]
    rfl
  rw [fm] at hl2
  refine ⟨_, _, hl2, ?_⟩
  generalize hpl : (List.range (mask + 1)).filter (fun j => decide (j ∈ ls)) = pl
  have m1 : (pl.map fun j => (j, (ls.findIdx? (· == j)).getD 0)).map (·.1) = pl := by
    rw [List.map_map]
    exact List.map_id'' (fun _ => rfl) pl
  have m2 : (pl.map fun j => (j, (ls.findIdx? (· == j)).getD 0)).map (·.2) = pl.map fun j => (ls.findIdx? (· == j)).getD 0 := by
    rw [List.map_map]; rfl
  rw [m1, m2]
  have mem : ∀ x, x ∈ pl ↔ x ∈ ls := fun x => by
    rw [← hpl, List.mem_filter, List.mem_range]
    constructor
    · exact fun z => by simpa using z.2
    · exact fun z => ⟨Nat.lt_succ_of_le (L.le x z), by simpa using z⟩
  have nd : pl.Nodup := by rw [← hpl]; exact List.nodup_range.filter _
  have pm : pl.Perm ls := nodup_perm nd L.nd mem
  have len : ls.length = es.size := by have := L.len; simpa using this
  have pr : (pl.map fun j => (ls.findIdx? (· == j)).getD 0).Perm (List.range es.size) := by
    rw [← len, ← map_idx L.nd]
    exact pm.map _
  have tl : (((pl.map fun j => (ls.findIdx? (· == j)).getD 0).toArray).filterMap (es[·]?)).toList = (pl.map fun j => (ls.findIdx? (· == j)).getD 0).filterMap (es[·]?) := by simp
  have per : ((pl.map fun j => (ls.findIdx? (· == j)).getD 0).filterMap (es[·]?)).Perm es.toList := by
    have := pr.filterMap (es[·]?)
    rw [filterMap_getElem?_range] at this
    exact this
  have at' : ∀ i : Nat, ((pl.map fun j => (ls.findIdx? (· == j)).getD 0).filterMap (es[·]?))[i]? = (pl[i]?).bind fun j => es[(ls.findIdx? (· == j)).getD 0]? := by
    have all : ∀ (l : List Nat), (∀ j ∈ l, j ∈ ls) → ∀ i : Nat, ((l.map fun j => (ls.findIdx? (· == j)).getD 0).filterMap (es[·]?))[i]? = (l[i]?).bind fun j => es[(ls.findIdx? (· == j)).getD 0]? := by
      intro l
      induction l with
      | nil => intro _ i; rfl
      | cons j l ih =>
        intro h i
        obtain ⟨k, hk⟩ := idx_some (h j List.mem_cons_self)
        have hg := idx_get hk
        have hlt : k < es.size := by
          rw [← len]
          rcases Nat.lt_or_ge k ls.length with z | z
          · exact z
          · rw [List.getElem?_eq_none z] at hg; cases hg
        rw [List.map_cons, List.filterMap_cons_some (b := es[k]) (by rw [hk]; exact Array.getElem?_eq_getElem hlt)]
        cases i with
        | zero =>
          rw [List.getElem?_cons_zero, List.getElem?_cons_zero, Option.bind_some, hk]
          exact (Array.getElem?_eq_getElem hlt).symm
        | succ i =>
          rw [List.getElem?_cons_succ, List.getElem?_cons_succ]
          exact ih (fun x hx => h x (List.mem_cons_of_mem _ hx)) i
    exact all pl fun j hj => (mem j).mp hj
  refine ⟨⟨rfl, f, od, ?_, ?_, ?_, ?_, ?_⟩, by rw [tl]; exact per, rfl, rfl, rfl⟩
  · rw [tl, per.length_eq]
    show pl.toArray.size = _
    rw [List.size_toArray, pm.length_eq, len, Array.length_toList]
  · show pl.toArray.toList.Pairwise _
    rw [← hpl]
    exact List.pairwise_lt_range.filter _
  · intro j hj
    exact L.le j ((mem j).mp hj)
  · show pl.toArray.size ≤ mask
    rw [List.size_toArray, pm.length_eq, len]
    exact hl
  · intro i j e hi he
    have hi : pl[i]? = some j := hi
    rw [tl, at' i, hi, Option.bind_some] at he
    obtain ⟨k, hk⟩ := idx_some ((mem j).mp (List.mem_of_getElem? hi))
    rw [hk, Option.getD_some] at he
    obtain ⟨n, a, b⟩ := L.re k j e.1 (idx_get hk) (by simp [he])
    exact ⟨n, a, fun m hm => (mem _).mpr (b m hm)⟩
end Sx
set_option Elab.async false
set_option linter.all false
set_option maxRecDepth 100000
set_option maxHeartbeats 1000000
namespace Sx
open PySem PySem.SetTable
theorem OkT.fits {t : SetTable} {es : Array (Int × Value)} (o : OkT t es.toList) : t.fits es.size = true := by
  have h1 := o.sz
  have h2 := o.fl
  unfold SetTable.fits SetTable.fill
  rw [o.dm, h1]
  rw [h1] at h2
  simp at h2 ⊢
  exact h2
section
variable {prog : Program} {w : World} {A : Around} {E : Value → Shared → Prop} {s : Shared}
theorem search_from {a : Addr} {x : Value} {h : Int} {o : Obj} {es : Array (Int × Value)} {ep : Nat} {t : SetTable} {e : Value → Bool} {Q : SetFound → Shared → Prop} (ho : s.heap.get? a = some o) (hd : o.data = .set es ep t) (ok : OkT t es.toList)
    (hr : ∀ p ∈ es.toList, ∃ b, p.2 = .ref b) (he : ∀ y, (h, y) ∈ es.toList → SeqAt.EqAt A s y x (e y))
    (hseen : ∀ (l : List Value) (Q' : Bool → Shared → Prop), (∀ y ∈ l, (h, y) ∈ es.toList) → Q' false s → wpAny (model prog w) A (searchCouldBeSeen x l) Q' E s)
    (hthere : ∀ y, (h, y) ∈ es.toList → e y = true → Q (.there none) s) {N : Nat} (hN : pos t.mask h N ∉ t.place.toList) (hl : ∀ k, k < N → pos t.mask h k ∈ t.place.toList) (hNl : N < 10 * turns t.mask)
    (hfree : (∀ y, (h, y) ∈ es.toList → e y = false) → Q (.free (pos t.mask h N) false) s) :
    ∀ (fuel n : Nat) (stand : Option Probe), n ≤ N → N - n < fuel → stand.getD (t.probeStart h) = st t.mask h n → (∀ (m i : Nat) (y : Value), m < n → t.place.toList[i]? = some (pos t.mask h m) → es.toList[i]? = some (h, y) → e y = false) →
      wpAny (model prog w) A (setSearchFrom a x h true fuel stand) Q E s
  | 0, n, _, _, hf, _, _ => absurd hf (Nat.not_lt_zero _)
  | fuel + 1, n, stand, hn, hf, hst, old => by
    unfold setSearchFrom
    refine wpAny_bind (wpAny_setState_of ho hd ok.fits ?_)
    dsimp only
    rw [if_neg (by unfold SetTable.gaveWay; rw [ok.od]; decide), hst]
    unfold SetTable.probe
    have hf' : N - n < 10 * turns t.mask := by omega
    generalize hpg : probe.go t _ h (10 * turns t.mask) (st t.mask h n) = pg
    have hpg' : probe.go t (fun i => (es[i]?.map (·.1)).getD 0) h (10 * turns t.mask) (st t.mask h n) = pg := hpg
    have hsf : ∀ i : Nat, (fun i : Nat => (es[i]?.map (·.1)).getD 0) i = hat es.toList i := fun i => by
      show (es[i]?.map (·.1)).getD 0 = hat es.toList i
      unfold hat
      rw [Array.getElem?_toList]
    rcases probe_go ok hsf hN hl (10 * turns t.mask) n hn hf' with ⟨ep1, no⟩ | ⟨m, i, hnm, hmN, epl, eh, ep1, no⟩
    · rw [ep1] at hpg'
      subst hpg'
      clear hpg
      dsimp only
      refine wpAny_pure (hfree fun y hy => ?_)
      obtain ⟨i, hi⟩ := List.mem_iff_getElem?.mp hy
      obtain ⟨m, hm, em⟩ := come ok hN hi rfl
      rcases Nat.lt_or_ge m n with z | z
      · exact old m i y z em hi
      · exact absurd (hat_of hi) (no m i z hm em)
    · rw [ep1] at hpg'
      subst hpg'
      clear hpg
      dsimp only
      have hi : i < es.toList.length := by
        rw [← ok.sz, ← Array.length_toList]
        rcases Nat.lt_or_ge i t.place.toList.length with z | z
        · exact z
        · rw [List.getElem?_eq_none z] at epl; cases epl
      obtain ⟨⟨h', y⟩, ey⟩ : ∃ p, es.toList[i]? = some p := ⟨_, List.getElem?_eq_getElem hi⟩
      have e1 := hat_of ey
      rw [eh] at e1
      have e1 : h = h' := e1
      subst e1
      have my : (h, y) ∈ es.toList := List.mem_of_getElem? ey
      have ei : es[i]? = some (h, y) := by simpa using ey
      obtain ⟨b, eb⟩ := hr _ my
      have eb : y = .ref b := eb
      have is : isSame y y = pure true := by rw [eb]; simp [isSame]
      have sm : t.sameMemory t.moves t.mask = some true := by unfold SetTable.sameMemory; rw [if_pos (by simp)]
      have sl := slot_live ok epl
      have mm : ∀ z ∈ List.map (fun x => x.snd) (Array.filter (fun x => x.fst == h) es).toList, (h, z) ∈ es.toList := fun z hz => by
        obtain ⟨p, hp, rfl⟩ := List.mem_map.mp hz
        have hp' : p ∈ es ∧ p.1 = h := by simpa using hp
        obtain ⟨p1, p2⟩ := p
        have : p1 = h := hp'.2
        subst this
        simpa using hp'.1
      have rec' : e y = false → wpAny (model prog w) A (setSearchFrom a x h true fuel (some (st t.mask h (m + 1)))) Q E s := fun ef => by
        refine search_from ho hd ok hr he hseen hthere hN hl hNl hfree fuel (m + 1) _ hmN (by omega) rfl fun m' i' y' hm' e1 e2 => ?_
        rcases Nat.lt_or_ge m' n with z | z
        · exact old m' i' y' z e1 e2
        · rcases Nat.lt_or_eq_of_le (Nat.le_of_lt_succ hm') with z' | rfl
          · exact absurd (hat_of e2) (no m' i' z z' e1)
          · have a1 := below_at ok.ri (i := i) (j := pos t.mask h m') (by simpa using epl)
            have a2 := below_at ok.ri (i := i') (j := pos t.mask h m') (by simpa using e1)
            have : i' = i := by omega
            subst this
            rw [ey] at e2
            cases e2
            exact ef
      have hey := he y my
      cases hl2 : t.led with
      | false =>
        rw [if_pos (by rfl)]
        refine wpAny_bind (hseen _ _ mm ?_)
        rw [if_neg (by decide), ei]
        dsimp only
        refine wpAny_bind (wpAny_holding (hey prog w E _ ?_))
        refine wpAny_bind (wpAny_setState_of ho hd ok.fits ?_)
        dsimp only
        cases ef : e y with
        | true =>
          rw [if_pos (by rfl)]
          exact wpAny_pure (hthere y my ef)
        | false =>
          rw [if_neg (by decide), sm]
          dsimp only
          rw [if_pos rfl, sl]
          dsimp only
          rw [ei]
          dsimp only
          rw [is]
          refine wpAny_bind (wpAny_pure (wpAny_bind (wpAny_pure ?_)))
          simp only [if_true]
          exact rec' ef
      | true =>
        rw [if_neg (by decide), ei]
        dsimp only
        refine wpAny_bind (wpAny_holding (hey prog w E _ ?_))
        refine wpAny_bind (wpAny_setState_of ho hd ok.fits ?_)
        dsimp only
        cases ef : e y with
        | true =>
          rw [if_pos (by rfl)]
          exact wpAny_pure (hthere y my ef)
        | false =>
          rw [if_neg (by decide), sm]
          dsimp only
          rw [if_pos rfl, sl]
          dsimp only
          rw [ei]
          dsimp only
          rw [is]
          refine wpAny_bind (wpAny_pure (wpAny_bind (wpAny_pure ?_)))
          simp only [if_true]
          exact rec' ef
end
end Sx
set_option Elab.async false
set_option linter.all false
set_option maxRecDepth 100000
set_option maxHeartbeats 1000000
namespace Sx
open PySem PySem.SetTable
/-- a set's table of at most eighteen items -/
def OkM (t : SetTable) (es : Array (Int × Value)) : Prop := OkT t es.toList ∧ ((t.mask = 7 ∧ es.size ≤ 4) ∨ (t.mask = 31 ∧ es.size ≤ 18))
theorem OkT.plain {t : SetTable} {es : List (Int × Value)} (o : OkT t es) (b : Bool) : OkT { t with plain := b } es := ⟨o.dm, o.fu, o.od, o.sz, o.ri, o.le, o.fl, o.re⟩
theorem get_put {h : Heap} {a : Addr} {o : Obj} {es : Array (Int × Value)} {ep : Nat} {t : SetTable} (ho : h.get? a = some o) (hd : o.data = .set es ep t) (es' : Array (Int × Value)) (t' : SetTable) :
    (h.update a (Obj.putSet es' t')).get? a = some { o with data := .set es' (ep + 1) t' } := by
  have := Heap.get?_update_self (Obj.putSet es' t') ho (by rw [putSet_of es' t' hd]; rfl)
  rw [putSet_of es' t' hd] at this; exact this
section
variable {prog : Program} {w : World} {A : Around} {E : Value → Shared → Prop} {s : Shared}
end
end Sx
set_option Elab.async false
set_option linter.all false
set_option maxRecDepth 100000
set_option maxHeartbeats 1000000
namespace Sx
open PySem L2
/-- numbers, texts and tuples of them, n levels at most -/
def TV (h : Heap) : Nat → PyData → Value → Prop
  | _, .int i, v => ∃ t, v = .int i t
  | _, .str x, v => ∃ t, v = .str x t
  | n + 1, .tuple ds, v => ∃ a o items k, v = .ref a ∧ h.get? a = some o ∧ o.cls = .type "tuple" ∧ o.data = .seq items k ∧ Paired (TV h n) ds items.toList
  | _, _, _ => False
def tH (w : World) : Nat → PyData → Int
  | _, .int i => hashInt i
  | _, .str x => hashStr w x
  | n + 1, .tuple ds => reduceHash (Builtin.Tuple.tupleHashOf (ds.map (tH w n)))
  | _, _ => 0
theorem TV.cases {h : Heap} {n : Nat} {d : PyData} {v : Value} (x : TV h n d v) : (∃ i t, d = .int i ∧ v = .int i t) ∨ (∃ y t, d = .str y ∧ v = .str y t) ∨
    ∃ m ds a o items k, n = m + 1 ∧ d = .tuple ds ∧ v = .ref a ∧ h.get? a = some o ∧ o.cls = .type "tuple" ∧ o.data = .seq items k ∧ Paired (TV h m) ds items.toList := by
  cases n <;> cases d <;> simp only [TV] at x <;> first
    | exact x.elim
    | (obtain ⟨t, e⟩ := x; exact .inl ⟨_, t, rfl, e⟩)
    | (obtain ⟨t, e⟩ := x; exact .inr (.inl ⟨_, t, rfl, e⟩))
    | (obtain ⟨a, o, items, k, e1, e2, e3, e4, e5⟩ := x; exact .inr (.inr ⟨_, _, a, o, items, k, rfl, rfl, e1, e2, e3, e4, e5⟩))
section
variable {prog : Program} {w : World}
end
section
variable {M : Model}
end
end Sx
set_option Elab.async false
set_option linter.all false
set_option maxRecDepth 100000
set_option maxHeartbeats 1000000
namespace Sx
open PySem L2
theorem TV.keep {h h' : Heap} (k : ∀ b o items q, h.get? b = some o → o.data = .seq items q → h'.get? b = some o) : ∀ (n : Nat) (d : PyData) (v : Value), TV h n d v → TV h' n d v := by
  intro n
  induction n with
  | zero =>
    intro d v x
    rcases x.cases with ⟨i, t, rfl, rfl⟩ | ⟨y, t, rfl, rfl⟩ | ⟨_, ds, a, o, items, q, e, _⟩
    · exact ⟨t, rfl⟩
    · exact ⟨t, rfl⟩
    · cases e
  | succ n ih =>
    intro d v x
    rcases x.cases with ⟨i, t, rfl, rfl⟩ | ⟨y, t, rfl, rfl⟩ | ⟨_, ds, a, o, items, q, e, rfl, rfl, ho, hc, hd, hi⟩
    · exact ⟨t, rfl⟩
    · exact ⟨t, rfl⟩
    · cases e
      exact ⟨a, o, items, q, rfl, k _ _ _ _ ho hd, hc, hd, Paired.mapP hi fun a b z => ih a b z⟩
theorem TV.uniq {h : Heap} : ∀ (n : Nat) (d e : PyData) (v : Value), TV h n d v → TV h n e v → d = e := by
  intro n
  induction n with
  | zero =>
    intro d e v x y
    rcases x.cases with ⟨i, t, rfl, rfl⟩ | ⟨u, t, rfl, rfl⟩ | ⟨_, ds, a, o, items, q, e1, _⟩
    · rcases y.cases with ⟨i2, t2, rfl, e2⟩ | ⟨u2, t2, rfl, e2⟩ | ⟨_, ds2, a2, o2, items2, q2, e2, _⟩
      · cases e2; rfl
      · cases e2
      · cases e2
    · rcases y.cases with ⟨i2, t2, rfl, e2⟩ | ⟨u2, t2, rfl, e2⟩ | ⟨_, ds2, a2, o2, items2, q2, e2, _⟩
      · cases e2
      · cases e2; rfl
      · cases e2
    · cases e1
  | succ n ih =>
    intro d e v x y
    rcases x.cases with ⟨i, t, rfl, rfl⟩ | ⟨u, t, rfl, rfl⟩ | ⟨_, ds, a, o, items, q, e1, rfl, rfl, ho, hc, hd, hi⟩
    · rcases y.cases with ⟨i2, t2, rfl, e2⟩ | ⟨u2, t2, rfl, e2⟩ | ⟨_, ds2, a2, o2, items2, q2, e2, _, e3, _⟩
      · cases e2; rfl
      · cases e2
      · cases e3
    · rcases y.cases with ⟨i2, t2, rfl, e2⟩ | ⟨u2, t2, rfl, e2⟩ | ⟨_, ds2, a2, o2, items2, q2, e2, _, e3, _⟩
      · cases e2
      · cases e2; rfl
      · cases e3
    · rcases y.cases with ⟨i2, t2, rfl, e2⟩ | ⟨u2, t2, rfl, e2⟩ | ⟨_, ds2, a2, o2, items2, q2, e2, rfl, e3, ho2, hc2, hd2, hi2⟩
      · cases e2
      · cases e2
      · cases e1; cases e2; cases e3
        rw [ho] at ho2; cases ho2
        rw [hd] at hd2; cases hd2
        have all : ∀ {l1 l2 : List PyData} {vs : List Value}, Paired (TV h n) l1 vs → Paired (TV h n) l2 vs → l1 = l2 := by
          intro l1 l2 vs p1
          induction p1 generalizing l2 with
          | nil => intro p2; cases p2; rfl
          | cons r _ ihp =>
            intro p2
            cases p2 with
            | cons r2 t2 => rw [ih _ _ _ r r2, ihp t2]
        rw [all hi hi2]
theorem TV.reads {h : Heap} : ∀ (n : Nat) (d : PyData) (v : Value), TV h n d v → ∃ as, Reads h v d as := by
  intro n
  induction n with
  | zero =>
    intro d v x
    rcases x.cases with ⟨i, t, rfl, rfl⟩ | ⟨y, t, rfl, rfl⟩ | ⟨_, ds, a, o, items, q, e, _⟩
    · exact ⟨_, Reads.int i t⟩
    · exact ⟨_, Reads.str y t⟩
    · cases e
  | succ n ih =>
    intro d v x
    rcases x.cases with ⟨i, t, rfl, rfl⟩ | ⟨y, t, rfl, rfl⟩ | ⟨_, ds, a, o, items, q, e, rfl, rfl, ho, hc, hd, hi⟩
    · exact ⟨_, Reads.int i t⟩
    · exact ⟨_, Reads.str y t⟩
    · cases e
      have all : ∀ {l1 : List PyData} {vs : List Value}, Paired (TV h n) l1 vs → ∃ as, ReadsAll h vs l1 as := by
        intro l1 vs p1
        induction p1 with
        | nil => exact ⟨_, ReadsAll.nil⟩
        | cons r _ ihp =>
          obtain ⟨as, q1⟩ := ih _ _ r
          obtain ⟨bs, q2⟩ := ihp
          exact ⟨_, ReadsAll.cons q1 q2⟩
      obtain ⟨as, q⟩ := all hi
      exact ⟨_, Reads.tuple ho hc hd q⟩
theorem TV.eqv {h h' : Heap} : ∀ (n : Nat) (d e : PyData) (u v : Value), TV h n d u → TV h' n e v → PyData.eqv d e = true → d = e := by
  intro n
  induction n with
  | zero =>
    intro d e u v x y
    rcases x.cases with ⟨i, t, rfl, rfl⟩ | ⟨z, t, rfl, rfl⟩ | ⟨_, ds, a, o, items, q, e1, _⟩ <;> rcases y.cases with ⟨i2, t2, rfl, e2⟩ | ⟨u2, t2, rfl, e2⟩ | ⟨_, ds2, a2, o2, items2, q2, e2, _⟩ <;> first
      | (cases e1; done)
      | (intro hq; simp [PyData.eqv] at hq; rw [hq]; done)
      | (intro hq; simp [PyData.eqv] at hq; done)
      | (cases e2; done)
  | succ n ih =>
    have all : ∀ {l1 : List PyData} {vs : List Value}, Paired (TV h n) l1 vs → ∀ {l2 : List PyData} {ws : List Value}, Paired (TV h' n) l2 ws → PyData.eqvAll l1 l2 = true → l1 = l2 := by
      intro l1 vs p1
      induction p1 with
      | nil => intro l2 ws p2 hq; cases p2 with
        | nil => rfl
        | cons _ _ => simp [PyData.eqvAll] at hq
      | cons r _ ihp =>
        intro l2 ws p2 hq
        cases p2 with
        | nil => simp [PyData.eqvAll] at hq
        | cons r2 t2 =>
          simp only [PyData.eqvAll, Bool.and_eq_true] at hq
          rw [ih _ _ _ _ r r2 hq.1, ihp t2 hq.2]
    intro d e u v x y
    rcases x.cases with ⟨i, t, rfl, rfl⟩ | ⟨z, t, rfl, rfl⟩ | ⟨_, ds, a, o, items, q, e1, rfl, rfl, ho, hc, hd, hi⟩ <;> rcases y.cases with ⟨i2, t2, rfl, e2⟩ | ⟨u2, t2, rfl, e2⟩ | ⟨_, ds2, a2, o2, items2, q2, e2, rfl, e3, ho2, hc2, hd2, hi2⟩
    · intro hq; simp [PyData.eqv] at hq; rw [hq]
    · intro hq; simp [PyData.eqv] at hq
    · intro hq; simp [PyData.eqv] at hq
    · intro hq; simp [PyData.eqv] at hq
    · intro hq; simp [PyData.eqv] at hq; rw [hq]
    · intro hq; simp [PyData.eqv] at hq
    · intro hq; simp [PyData.eqv] at hq
    · intro hq; simp [PyData.eqv] at hq
    · intro hq
      cases e1; cases e2
      rw [all hi hi2 (by simpa [PyData.eqv] using hq)]
theorem paired_perm {α β : Type} {R : α → β → Prop} {ys ys' : List β} (p : ys'.Perm ys) : ∀ {xs : List α}, Paired R xs ys → ∃ xs', xs'.Perm xs ∧ Paired R xs' ys' := by
  induction p with
  | nil => intro xs h; exact ⟨xs, .rfl, h⟩
  | cons y _ ih =>
    intro xs h
    cases h with
    | cons r t =>
      obtain ⟨xs', p', h'⟩ := ih t
      exact ⟨_ :: xs', p'.cons _, .cons r h'⟩
  | swap a b l =>
    intro xs h
    cases h with
    | cons r t =>
      cases t with
      | cons r2 t2 => exact ⟨_, List.Perm.swap _ _ _, .cons r2 (.cons r t2)⟩
  | trans _ _ ih1 ih2 =>
    intro xs h
    obtain ⟨x1, p1, h1⟩ := ih2 h
    obtain ⟨x2, p2, h2⟩ := ih1 h1
    exact ⟨x2, p2.trans p1, h2⟩
theorem paired_left {α β : Type} {R : α → β → Prop} : ∀ {xs : List α} {ys : List β}, Paired R xs ys → ∀ x ∈ xs, ∃ y ∈ ys, R x y
  | _, _, .cons r t, x, hx => by
    rcases List.mem_cons.mp hx with rfl | hx
    · exact ⟨_, List.mem_cons_self, r⟩
    · obtain ⟨y, hy, q⟩ := paired_left t x hx
      exact ⟨y, List.mem_cons_of_mem _ hy, q⟩
theorem paired_right {α β : Type} {R : α → β → Prop} : ∀ {xs : List α} {ys : List β}, Paired R xs ys → ∀ y ∈ ys, ∃ x ∈ xs, R x y
  | _, _, .cons r t, y, hy => by
    rcases List.mem_cons.mp hy with rfl | hy
    · exact ⟨_, List.mem_cons_self, r⟩
    · obtain ⟨x, hx, q⟩ := paired_right t y hy
      exact ⟨x, List.mem_cons_of_mem _ hx, q⟩
def El (w : World) (h : Heap) (n : Nat) (d : PyData) (p : Int × Value) : Prop := TV h n d p.2 ∧ p.1 = tH w n d ∧ SeqAt.shaped d = true ∧ ∃ b, p.2 = .ref b
/-- a set of tuples, by their data -/
def SetT (w : World) (h : Heap) (S : Addr) (n : Nat) (ds : List PyData) : Prop :=
  ∃ o es ep t ds', h.get? S = some o ∧ o.ExactSet ∧ o.data = .set es ep t ∧ OkM t es ∧ Paired (El w h n) ds' es.toList ∧ ds'.Perm ds
theorem SetT.keep {w : World} {h h' : Heap} {S : Addr} {n : Nat} {ds : List PyData} (x : SetT w h S n ds) (hS : ∀ o, h.get? S = some o → h'.get? S = some o) (k : ∀ b o items q, h.get? b = some o → o.data = .seq items q → h'.get? b = some o) : SetT w h' S n ds := by
  obtain ⟨o, es, ep, t, ds', ho, hx, hd, ok, pr, pm⟩ := x
  exact ⟨o, es, ep, t, ds', hS _ ho, hx, hd, ok, Paired.mapP pr fun a b z => ⟨z.1.keep k n a b.2, z.2⟩, pm⟩
section
variable {prog : Program} {w : World} {A : Around} {E : Value → Shared → Prop} {s : Shared}
end
end Sx
set_option Elab.async false
set_option linter.all false
set_option maxRecDepth 100000
set_option maxHeartbeats 3200000
namespace Sx
open PySem L2 PySem.Spec PyProof.Rows
section
variable {prog : Program} {w : World} {A : Around} {R : Result → Shared → Prop} {J : Addr} {fq wq : List Addr} {G : Array GenState → Array GenState → Prop} {n : Nat} {P : Nat → Value → Prop} {Sg : Nat → Shared → Prop}
end
end Sx
set_option Elab.async false
set_option linter.all false
namespace Sx
open PySem
end Sx
namespace PySem
section
variable {prog : Program} {w : World} {A : Around} {E : Value → Shared → Prop} {s : Shared}
end
end PySem
set_option Elab.async false
set_option linter.all false
set_option maxRecDepth 100000
set_option maxHeartbeats 1000000
namespace Sx
open PySem L2 TL My
/-- a set of so many items -/
def SetLen (a : Addr) (m : Nat) (h : Heap) : Prop := ∃ o es ep t, h.get? a = some o ∧ o.ExactSet ∧ o.data = .set es ep t ∧ t.fits es.size = true ∧ es.size = m
theorem SetT.len {w : World} {h : Heap} {S : Addr} {n : Nat} {ds : List PyData} (x : SetT w h S n ds) : SetLen S ds.length h := by
  obtain ⟨o, es, ep, t, ds', ho, hx, hd, ok, pr, pm⟩ := x
  refine ⟨o, es, ep, t, ho, hx, hd, ok.1.fits, ?_⟩
  rw [← pm.length_eq, ← Array.length_toList]
  exact pr.length.symm
/-- so deep and no deeper -/
def deepB : Nat → PyData → Bool
  | _, .int _ => true
  | _, .str _ => true
  | n + 1, .tuple ds => ds.all (deepB n)
  | _, _ => false
section
variable {X : Cx} {pins : List (Addr × Obj)} {σ : St} {H : Hp} {s : Shared}
end
section
variable {X : Cx}
end
end Sx
set_option Elab.async false
set_option linter.all false
set_option maxRecDepth 100000
set_option maxHeartbeats 2000000
namespace Sx
open PySem L2 PySem.Spec PyProof.Rows
section
variable {prog : Program} {w : World} {A : Around} {R : Result → Shared → Prop} {J : Addr} {fq wq : List Addr} {n : Nat} {P : Nat → Value → Prop} {Sg : Nat → Heap → Prop}
end
end Sx
set_option Elab.async false
set_option linter.all false
set_option maxRecDepth 100000
set_option maxHeartbeats 2000000
namespace Sx
open PySem L2 PySem.Spec PyProof.Rows
section
variable {prog : Program} {w : World} {A : Around} {E : Value → Shared → Prop} {s : Shared}
end
end Sx
set_option Elab.async false
set_option linter.all false
set_option maxRecDepth 100000
set_option maxHeartbeats 2000000
namespace Sx
open PySem L2 PySem.Spec PyProof.Rows
section
variable {X : Cx}
end
end Sx
set_option Elab.async false
set_option linter.all false
set_option maxRecDepth 100000
set_option maxHeartbeats 1000000
namespace My
open PySem L2 TL Sx
abbrev sLoad : Str := Str.ofString "load"
abbrev sStore : Str := Str.ofString "store"
def tgt : Ordr → Plc
  | .alu _ t _ _ => t
  | .put t _ => t
  | .two _ t _ => t
def toPl (c : Ordr) : List Plc := if kindOf c = sStore then [] else [tgt c]
def isMem (c : Ordr) : Bool := decide (kindOf c = sLoad) || decide (kindOf c = sStore)
structure MayOk (cs : List Ordr) : Prop where
  mem : cs.countP isMem ≤ 1
  apart : (cs.flatMap toPl).Nodup
theorem toPl_ok {o : OwnD} {c : Ordr} (h : OrdOk o c) : ∀ p ∈ toPl c, PlcOk o p := by
  intro p hp
  unfold toPl at hp
  split at hp
  · cases hp
  · have e : p = tgt c := by simpa using hp
    subst e
    cases c with
    | alu op t a b => exact h.2.1
    | put t n => exact h.1
    | two kd t a => exact h.2.1
theorem sub_flat {α β : Type} (f : α → List β) {a b : List α} (s : a.Sublist b) : (a.flatMap f).Sublist (b.flatMap f) := by
  induction s with
  | slnil => exact .slnil
  | cons x _ ih => rw [List.flatMap_cons]; exact ih.trans (List.sublist_append_right _ _)
  | cons_cons x _ ih => rw [List.flatMap_cons, List.flatMap_cons]; exact (List.Sublist.refl _).append ih
theorem MayOk.sub {cs ds : List Ordr} (h : MayOk cs) (s : ds.Sublist cs) : MayOk ds :=
  ⟨Nat.le_trans (s.countP_le) h.mem, h.apart.sublist (sub_flat toPl s)⟩
structure Wd where
  vis : List Int
  hid : List Int
  mem : List Int
abbrev top2 (o : OwnD) : Int := 2 ^ o.bits.toNat
structure WdOk (o : OwnD) (s : Wd) : Prop where
  vis : s.vis.length = o.names.length
  hid : s.hid.length = o.hidden.toNat
  mem : s.mem.length = o.cells.toNat
  rng : ∀ x ∈ s.vis ++ s.hid ++ s.mem, 0 ≤ x ∧ x < top2 o
theorem WdOk.pos {o : OwnD} {s : Wd} (h : WdOk o s) : ∀ x ∈ s.vis ++ s.hid ++ s.mem, 0 ≤ x := fun x hx => (h.rng x hx).1
def wordAt (o : OwnD) (s : Wd) : Plc → Int
  | .reg x => s.vis.getD (o.names.idxOf x) 0
  | .hid j => s.hid.getD j.toNat 0
def opW (o : OwnD) (op : Str) (a b : Int) : Int :=
  if op = Str.ofString "add" then (a + b) % (1 * 2 ^ o.bits.toNat) else if op = Str.ofString "sub" then (a - b) % (1 * 2 ^ o.bits.toNat) else if op = Str.ofString "and" then Builtin.bitAnd a b else
  if op = Str.ofString "or" then Builtin.bitOr a b else if op = Str.ofString "xor" then Builtin.bitXor a b else if op = Str.ofString "less" then (if decide (a < b) = true then 1 else 0) else (if decide (a = b) = true then 1 else 0)
def wordWr (o : OwnD) (s : Wd) : Ordr → Int
  | .put _ n => n
  | .alu op _ a b => opW o op (wordAt o s a) (wordAt o s b)
  | .two kd _ a => if kd = sLoad then s.mem.getD (wordAt o s a).toNat 0 else wordAt o s a
def putAt (o : OwnD) (w : Wd) (v : Int) : Plc → Wd
  | .reg x => { w with vis := w.vis.set (o.names.idxOf x) v }
  | .hid j => { w with hid := w.hid.set j.toNat v }
def put1 (o : OwnD) (s w : Wd) (c : Ordr) : Wd := if kindOf c = sStore then { w with mem := w.mem.set (wordAt o s (tgt c)).toNat (wordWr o s c) } else putAt o w (wordWr o s c) (tgt c)
structure Sized (o : OwnD) (w : Wd) : Prop where
  vis : w.vis.length = o.names.length
  hid : w.hid.length = o.hidden.toNat
  mem : w.mem.length = o.cells.toNat
end My
set_option Elab.async false
set_option linter.all false
set_option maxRecDepth 100000
set_option maxHeartbeats 1000000
namespace My
open PySem L2 TL Sx
theorem strOk_small : ∀ x ∈ opsL ++ twoL ++ kindsL ++ [Str.ofString "reg", Str.ofString "hid"], PyData.strOk x = true := by
  have h : (opsL ++ twoL ++ kindsL ++ [Str.ofString "reg", Str.ofString "hid"]).all PyData.strOk = true := by decide +kernel
  exact fun x hx => List.all_eq_true.mp h x hx
theorem ok_reg : PyData.strOk (Str.ofString "reg") = true := by decide +kernel
theorem ok_hid : PyData.strOk (Str.ofString "hid") = true := by decide +kernel
theorem ok_alu : PyData.strOk (Str.ofString "alu") = true := by decide +kernel
theorem ok_put : PyData.strOk (Str.ofString "put") = true := by decide +kernel
theorem ok_ops : ∀ x ∈ opsL, PyData.strOk x = true := fun x hx => strOk_small x (by simp only [List.mem_append]; exact .inl (.inl (.inl hx)))
theorem ok_two : ∀ x ∈ twoL, PyData.strOk x = true := fun x hx => strOk_small x (by simp only [List.mem_append]; exact .inl (.inl (.inr hx)))
theorem lay_plc {o : OwnD} {c : Plc} (hO : OwnOk o) (h : PlcOk o c) : PyData.canLay0 (plcD c) = true ∧ PyData.depth (plcD c) = 1 := by
  cases c with
  | reg x =>
    obtain ⟨m, hN, _⟩ := hO.names
    have hx := strOk_of (hN.all x h)
    refine ⟨?_, rfl⟩
    · show (PyData.strOk (Str.ofString "reg") && (PyData.strOk x && true)) = true
      rw [ok_reg, hx]
      rfl
  | hid j =>
    refine ⟨?_, rfl⟩
    · show (PyData.strOk (Str.ofString "hid") && (true && true)) = true
      rw [ok_hid]
      rfl
theorem lay_ord {o : OwnD} {c : Ordr} (hO : OwnOk o) (h : OrdOk o c) : PyData.canLay0 (ordD c) = true ∧ PyData.depth (ordD c) = 2 := by
  cases c with
  | alu op t a b =>
    obtain ⟨h1, h2, h3, h4⟩ := h
    obtain ⟨t1, t2⟩ := lay_plc hO h2
    obtain ⟨a1, a2⟩ := lay_plc hO h3
    obtain ⟨b1, b2⟩ := lay_plc hO h4
    refine ⟨?_, ?_⟩
    · show (PyData.strOk (Str.ofString "alu") && (PyData.strOk op && (PyData.canLay0 (plcD t) && (PyData.canLay0 (plcD a) && (PyData.canLay0 (plcD b) && true))))) = true
      rw [ok_alu, ok_ops op h1, t1, a1, b1]
      rfl
    · show max 0 (max 0 (max (PyData.depth (plcD t)) (max (PyData.depth (plcD a)) (max (PyData.depth (plcD b)) 0)))) + 1 = 2
      rw [t2, a2, b2]
      rfl
  | put t n =>
    obtain ⟨h1, h2, h3⟩ := h
    obtain ⟨t1, t2⟩ := lay_plc hO h1
    refine ⟨?_, ?_⟩
    · show (PyData.strOk (Str.ofString "put") && (PyData.canLay0 (plcD t) && (true && true))) = true
      rw [ok_put, t1]
      rfl
    · show max 0 (max (PyData.depth (plcD t)) (max 0 0)) + 1 = 2
      rw [t2]
      rfl
  | two kd t a =>
    obtain ⟨h1, h2, h3⟩ := h
    obtain ⟨t1, t2⟩ := lay_plc hO h2
    obtain ⟨a1, a2⟩ := lay_plc hO h3
    refine ⟨?_, ?_⟩
    · show (PyData.strOk kd && (PyData.canLay0 (plcD t) && (PyData.canLay0 (plcD a) && true))) = true
      rw [ok_two kd h1, t1, a1]
      rfl
    · show max 0 (max (PyData.depth (plcD t)) (max (PyData.depth (plcD a)) 0)) + 1 = 2
      rw [t2, a2]
      rfl
theorem shaped_plc {o : OwnD} {c : Plc} (hO : OwnOk o) (h : PlcOk o c) : SeqAt.shaped (plcD c) = true := by
  obtain ⟨h1, h2⟩ := lay_plc hO h
  unfold SeqAt.shaped
  rw [h1, h2]
  rfl
theorem two_alu : ∀ x ∈ twoL, ¬ x = Str.ofString "alu" := by
  have h : twoL.all (fun x => decide (¬ x = Str.ofString "alu")) = true := by decide +kernel
  exact fun x hx => of_decide_eq_true (List.all_eq_true.mp h x hx)
theorem put_alu : ¬ Str.ofString "put" = Str.ofString "alu" := by decide +kernel
end My
set_option Elab.async false
set_option linter.all false
namespace My
open PySem L2 TL Sx
theorem ordAt_of {H : Hp} {o : OwnD} {v : V} {c : Ordr} (hO : OwnOk o) (h : OrdOk o c) (t : Tp H v (ordD c)) : OrdAt H v c := ⟨t, ordFit_of hO h, kind_in h⟩
theorem KeepT.upd {H : Hp} {l : Addr} {xs ys : List V} (h : H l = some (.lst xs)) : KeepT H (L2.upd H l (.lst ys)) := fun b zs e => by
  have n : b ≠ l := fun z => by
    subst z
    rw [h] at e
    cases e
  rw [upd_ne n]
  exact e
theorem _root_.L2.SameBut.free {k b : Addr} {H H' : Hp} (h : SameBut k H H') (hb : H' b = none) (n : b ≠ k) : H b = none := by
  cases e : H b with
  | none => rfl
  | some u =>
    rw [h _ _ e n] at hb
    cases hb
theorem _root_.L2.SameBut.updNew {k b : Addr} {H H' : Hp} {o : HO} (h : SameBut k H H') (hb : H b = none) : SameBut k H (L2.upd H' b o) := fun c u e n => by
  rw [upd_ne (ne_of_none e hb)]
  exact h c u e n
/-- orders of a machine, by the data -/
def OrdsM (o : OwnD) (H : Hp) : List Ordr → List V → Prop := Paired fun c v => Tp H v (ordD c) ∧ OrdOk o c
theorem OrdsM.keep {o : OwnD} {H H' : Hp} (k : KeepT H H') {cs : List Ordr} {xs : List V} (h : OrdsM o H cs xs) : OrdsM o H' cs xs := Paired.mapP h fun a b z => ⟨z.1.keep k, z.2⟩
end My
set_option Elab.async false
set_option linter.all false
set_option maxRecDepth 100000
set_option maxHeartbeats 2000000
namespace L2
open PySem PySem.Spec PyProof.Rows
section
variable {X : Cx} {pos : Pos}
/-- a, b, c = x, y, z with plain local names -/
def tPar3 (i j k : Nat) (ta : TA) : TS := fun D σ H => ta σ H fun vs H1 => ∃ v w u, vs = [v, w, u] ∧ D.nx (((σ.set i (some v)).set j (some w)).set k (some u)) H1
theorem ps_par3 {i j k : Nat} {x y z : Str} {a b c : Expr} {ta : TA} {px py pz pt : Pos} {kt k2 pt2} (hc : X.calm = true) (hN : X.N.Nodup) (hi : X.N[i]? = some x) (hj : X.N[j]? = some y) (hk : X.N[k]? = some z) (hij : i ≠ j) (hik : i ≠ k) (hjk : j ≠ k)
    (hx : X.env.scope.names.lookup x = some .local) (hy : X.env.scope.names.lookup y = some .local) (hz : X.env.scope.names.lookup z = some .local) (ha : PA X [a, b, c] ta)
    (hw : swappedStores [.Tuple [.Name x px, .Name y py, .Name z pz] kt pt] (.Tuple [a, b, c] k2 pt2) X.env = pure (some [x, y, z]))
    (hs : swapsWithSole [.Tuple [.Name x px, .Name y py, .Name z pz] kt pt] (.Tuple [a, b, c] k2 pt2) pos.line X.env = pure false := by rfl) :
    PS X (.Assign [.Tuple [.Name x px, .Name y py, .Name z pz] kt pt] (.Tuple [a, b, c] k2 pt2) pos) (tPar3 i j k ta) := by
  intro pins s σ H D I h
  rw [exec_Assign_arm]
  refine wpAny_bind (wpAny_standAt ?_)
  rw [hs]
  refine wpAny_bind (wpAny_pure ?_)
  rw [if_neg (by decide)]
  refine wpAny_bind (Tuple_ (thn (ha _ s σ H _ I h) fun us s1 ⟨vs, H1, I1, r1, q1⟩ => ?_))
  obtain ⟨v, w, t, e1, q1⟩ := q1
  subst e1
  obtain ⟨u1, u2, u3, rfl, rv, rw', rt⟩ : ∃ u1 u2 u3, us = [u1, u2, u3] ∧ RelV v u1 ∧ RelV w u2 ∧ RelV t u3 := by
    cases r1 with
    | cons p q =>
      cases q with
      | cons p' q' =>
        cases q' with
        | cons p'' q'' =>
          cases q''
          exact ⟨_, _, _, rfl, p, p', p''⟩
  refine wpAny_newObj_type ?_ (by show 3 ≤ sizeLine; decide)
  have I2 : Inv X pins σ H1 { s1 with heap := s1.heap.push { cls := .type "tuple", data := .seq [u1, u2, u3].toArray } } := I1.kept (t' := s1.toks) fun b o e => Heap.get?_push_of_some _ e
  rw [hw]
  refine wpAny_bind (wpAny_pure ?_)
  show wpAny (model X.prog X.w) X.A (do rule "assign.swapped-stores"; let items ← unpackItems (.ref s1.heap.objs.size) 3 none; assignInOrder [fun v => bindName X.env z v, fun v => bindName X.env y v, fun v => bindName X.env x v] items.reverse; pure Flow.next) _ _ _
  refine wpAny_bind (wpAny_rule (wpAny_bind (unpackItems_tuple (items := #[u1, u2, u3]) (I.ok.hd hc) (IsTup.new s1.heap _) fun h' hx' => ?_)))
  have I3 := I2.kept (h' := h') (t' := s1.toks) fun b o e => hx' b o (Nat.ne_of_lt (Heap.lt_size e)) e
  show wpAny _ _ (assignInOrder [fun v => bindName X.env z v, fun v => bindName X.env y v, fun v => bindName X.env x v] [u3, u2, u1] >>= fun _ => pure Flow.next) _ _ _
  refine wpAny_bind (assignInOrder_cons (wpAny_bindName (store_ok I3 hN hk (.inl hz) rt (fun s2 I4 => ?_) (.inr hz))))
  refine assignInOrder_cons (wpAny_bindName (store_ok I4 hN hj (.inl hy) rw' (fun s3 I5 => ?_) (.inr hy)))
  refine assignInOrder_cons (wpAny_bindName (store_ok I5 hN hi (.inl hx) rv (fun s4 I6 => assignInOrder_nil (wpAny_pure ?_)) (.inr hx)))
  have e : ((σ.set k (some t)).set j (some w)).set i (some v) = ((σ.set i (some v)).set j (some w)).set k (some t) := by
    rw [List.set_comm (a := some w) (b := some v) (l := σ.set k (some t)) (Ne.symm hij), List.set_comm (a := some t) (b := some v) (l := σ) (Ne.symm hik), List.set_comm (a := some t) (b := some w) (l := σ.set i (some v)) (Ne.symm hjk)]
  rw [e] at I6
  exact ⟨_, H1, I6, q1⟩
end
end L2
set_option Elab.async false
set_option linter.all false
set_option maxRecDepth 100000
set_option maxHeartbeats 4000000
namespace My
open PySem L2 TL Sx
abbrev sTop : Stmt := top 14
abbrev sPlace : Stmt := top 16
abbrev sWordL : Stmt := top 17
abbrev topsV : List V := [V.int 2, V.int 4, V.int 8, V.int 16, V.int 32, V.int 64, V.int 128, V.int 256]
theorem top_at {b : Int} (h0 : 1 ≤ b) (h1 : b ≤ 8) : atI topsV (b - 1) = some (.int (2 ^ b.toNat)) := by
  have h : b = 1 ∨ b = 2 ∨ b = 3 ∨ b = 4 ∨ b = 5 ∨ b = 6 ∨ b = 7 ∨ b = 8 := by omega
  rcases h with rfl | rfl | rfl | rfl | rfl | rfl | rfl | rfl <;> rfl
def spTop : Sp := fun vs H Q _ => ∃ (p : Addr) (o : OwnD), vs = [.ref p] ∧ Tp H (.ref p) (ownD o) ∧ OwnOk o ∧ ∀ H', Same H H' → Q (.int (2 ^ o.bits.toNat)) H'
section
variable {P : Program} {w : World} {K : PySem.W.Frag} {mg : Str → Option Value} {base : Heap}
theorem scTop : FnScope ["kit"] ["kit"] (defScope sTop) := ⟨rfl, rfl, rfl, by decide +kernel, rfl, by decide +kernel, by decide +kernel⟩
theorem ok_top {f : Addr} {fd : FuncData} (F : Fun K "_law_top" "_law_top" sTop f fd) : FnOk P w K mg base CX0 1 f fd ["kit"] spTop := by
  refine F.ok scTop (fun vs H Q E h => ?_) (fun cdv A outer s H vs Q E hr h => ?_)
  · obtain ⟨p, o, rfl, _⟩ := h
    rfl
  · obtain ⟨p, o, rfl, hT, hO, q⟩ := h
    refine ⟨_, pss_one (ps_ret (pe_ix ix_list (pe_lst (pa_cons pe_int (pa_cons pe_int (pa_cons pe_int (pa_cons pe_int (pa_cons pe_int (pa_cons pe_int (pa_cons pe_int (pa_cons pe_int pa_nil))))))))) (pe_op op_sub (pe_ix ix_tup (pv 0) pe_int (fun _ _ => rfl)) pe_int) (fun _ _ => rfl))), ?_⟩
    obtain ⟨qa, hp, hq⟩ := own_inv hT
    have hb := hO.bits
    refine ⟨(by show 8 ≤ sizeLine; decide), fun a ha => ?_⟩
    have sA := same_new ha (.lst topsV)
    exact ⟨_, rfl, p, _, _, _, rfl, rfl, SqT.of (sA _ _ hp), at0, _, _, rfl, rfl, a, _, _, _, rfl, rfl, SqL.of upd_same, top_at hb.1 hb.2, q _ sA⟩
theorem scWordL : FnScope ["bag", "kit", "top"] ["bag", "kit"] (defScope sWordL) := ⟨rfl, rfl, rfl, by decide +kernel, rfl, by decide +kernel, by decide +kernel⟩
theorem ok_wordL {f : Addr} {fd : FuncData} (F : Fun K "_law_word" "_law_word" sWordL f fd) (dP : Df K mg "_law_draw" sPull ["bag", "many"]) (dT : Df K mg "_law_top" sTop ["kit"]) (B : Bl mg) : FnOk P w K mg base CX0 2 f fd ["bag", "kit"] spWord := by
  have GP : FnOk P w K mg base CX0 1 dP.f dP.fd ["bag", "many"] spPull := ok_pull dP.F
  have GT : FnOk P w K mg base CX0 1 dT.f dT.fd ["kit"] spTop := ok_top dT.F
  refine F.ok scWordL (fun vs H Q E h => ?_) (fun cdv A outer s H vs Q E hr1 h => ?_)
  · obtain ⟨k, p, n, o, rfl, _⟩ := h
    rfl
  · obtain ⟨k, p, n, o, rfl, S0, hn, hT, hO, q⟩ := h
    obtain ⟨qa, hp, hq⟩ := own_inv hT
    have hb := hO.bits
    have hc := hO.cells
    refine ⟨_, pss_cons (ps_set (i := 2) scWordL.nd rfl (Or.inl rfl) (pe_call GT hr1 rfl dT.m dT.F.kp dT.b .nil pass0 (pa_cons (pv 1) pa_nil)))
      (pss_one (ps_ret (pe_ix ix_list (pe_lst (pa_cons pe_int (pa_cons pe_int (pa_cons (pe_op op_sub (pv 2) pe_int) (pa_cons (pe_callB (call_min2 rfl) (by rfl) B.min (by decide +kernel) (pa_cons (pe_ix ix_tup (pv 1) pe_int (fun _ _ => rfl)) (pa_cons (pe_op op_sub (pv 2) pe_int) pa_nil))) (pa_cons (pe_call GP hr1 rfl dP.m dP.F.kp dP.b .nil pass0 (pa_cons (pv 0) (pa_cons (pv 2) pa_nil))) pa_nil)))))) (pe_call GP hr1 rfl dP.m dP.F.kp dP.b .nil pass0 (pa_cons (pv 0) (pa_cons pe_int pa_nil))) (fun _ _ => rfl)))), ?_⟩
    refine ⟨_, rfl, p, o, rfl, hT, hO, fun H1 s1 => ?_⟩
    obtain ⟨t0, t1⟩ := pow_rng o.bits.toNat (by omega) (by omega)
    have eT : (1 : Int) * 2 ^ o.bits.toNat = 2 ^ o.bits.toNat := Int.one_mul _
    refine ⟨_, rfl, _, _, rfl, rfl, _, rfl, p, _, _, _, rfl, rfl, SqT.of (s1 _ _ hp), rfl, _, rfl, _, _, rfl, rfl, _, _, rfl, ?_⟩
    refine ⟨_, rfl, _, rfl, k, 2 ^ o.bits.toNat, n, rfl, S0.same s1, by omega, by omega, by omega, fun r1 H2 a2 b2 sb2 S2 => ⟨(by show 5 ≤ sizeLine; decide), fun p1 h1 => ?_⟩⟩
    refine ⟨_, rfl, k, 5, n + 1, rfl, S2.same (same_new h1 _), by omega, by decide, by decide, fun r2 H3 a3 b3 sb3 S3 => ?_⟩
    have nk1 : p1 ≠ k := by obtain ⟨_, _, _, z, _⟩ := S2; exact (ne_of_none z h1).symm
    obtain ⟨v, hv, at2⟩ := at_lt (xs := [V.int 0, V.int 1, V.int (2 ^ o.bits.toNat - 1), V.int (if 2 ^ o.bits.toNat - 1 < o.cells then 2 ^ o.bits.toNat - 1 else o.cells), V.int r1]) a3 (by show r2 < (5 : Int); exact b3)
    obtain ⟨c, rfl, c0, c1⟩ : ∃ c : Int, v = .int c ∧ 0 ≤ c ∧ c < 2 ^ o.bits.toNat := by
      rcases List.mem_cons.mp hv with z | z
      · exact ⟨0, z, by omega, by omega⟩
      rcases List.mem_cons.mp z with z | z
      · exact ⟨1, z, by omega, by omega⟩
      rcases List.mem_cons.mp z with z | z
      · exact ⟨_, z, by omega, by omega⟩
      rcases List.mem_cons.mp z with z | z
      · exact ⟨_, z, by split <;> omega, by split <;> omega⟩
      · exact ⟨r1, List.mem_singleton.mp z, by omega, by omega⟩
    exact ⟨p1, _, _, _, rfl, rfl, SqL.of (sb3 _ _ upd_same nk1), at2, q c H3 c0 c1 (s1.but.trans (sb2.trans ((SameBut.new h1).trans sb3))) S3⟩
theorem scPlace : FnScope ["bag", "kit", "at"] ["bag", "kit"] (defScope sPlace) := ⟨rfl, rfl, rfl, by decide +kernel, rfl, by decide +kernel, by decide +kernel⟩
theorem ok_place {f : Addr} {fd : FuncData} (F : Fun K "_law_place" "_law_place" sPlace f fd) (dP : Df K mg "_law_draw" sPull ["bag", "many"]) (B : Bl mg) : FnOk P w K mg base CX0 2 f fd ["bag", "kit"] spSpot := by
  have GP : FnOk P w K mg base CX0 1 dP.f dP.fd ["bag", "many"] spPull := ok_pull dP.F
  refine F.ok scPlace (fun vs H Q E h => ?_) (fun cdv A outer s H vs Q E hr1 h => ?_)
  · obtain ⟨k, p, n, o, rfl, _⟩ := h
    rfl
  · obtain ⟨k, p, n, o, rfl, S0, hn, hT, hO, q⟩ := h
    obtain ⟨qa, hp, hq⟩ := own_inv hT
    have hh := hO.hidden
    obtain ⟨m, hN, hm0, hm1⟩ := hO.names
    have hlen : (o.names.map V.str).length = m := by rw [List.length_map]; exact hN.len
    refine ⟨_, pss_cons (ps_set (i := 2) scPlace.nd rfl (Or.inl rfl) (pe_call GP hr1 rfl dP.m dP.F.kp dP.b .nil pass0 (pa_cons (pv 0) (pa_cons (pe_op op_add (pe_callB call_len_seq (by rfl) B.len PySem.boot_len (pa_cons (pe_ix ix_tup (pv 1) pe_int (fun _ _ => rfl)) pa_nil)) (pe_ix ix_tup (pv 1) pe_int (fun _ _ => rfl))) pa_nil))))
      (pss_cons (ps_if (pt_cmpR op_lt (pv 2) (pe_callB call_len_seq (by rfl) B.len PySem.boot_len (pa_cons (pe_ix ix_tup (pv 1) pe_int (fun _ _ => rfl)) pa_nil)) (nomark _))
        (pss_one (ps_ret (pe_tup (pa_cons pe_str (pa_cons (pe_ix ix_tup (pe_ix ix_tup (pv 1) pe_int (fun _ _ => rfl)) (pv 2) (fun _ _ => rfl)) pa_nil))))) pss_nil)
      (pss_one (ps_ret (pe_tup (pa_cons pe_str (pa_cons (pe_op op_sub (pv 2) (pe_callB call_len_seq (by rfl) B.len PySem.boot_len (pa_cons (pe_ix ix_tup (pv 1) pe_int (fun _ _ => rfl)) pa_nil))) pa_nil)))))), ?_⟩
    refine ⟨_, rfl, _, rfl, p, _, _, _, rfl, rfl, SqT.of hp, rfl, qa, _, rfl, .inr (SqT.of hq), _, rfl, p, _, _, _, rfl, rfl, SqT.of hp, rfl, _, _, rfl, rfl, k, _, n, rfl, S0, by omega, by omega, by omega, fun r H1 a1 b1 sb1 S1 => ?_⟩
    have kt := S0.keepT sb1
    have hp1 := kt _ _ hp
    have hq1 := kt _ _ hq
    refine ⟨_, rfl, _, rfl, p, _, _, _, rfl, rfl, SqT.of hp1, rfl, qa, _, rfl, .inr (SqT.of hq1), _, _, rfl, rfl, _, rfl, ?_⟩
    refine ite2 (fun z => ?_) (fun z => ?_)
    · have z : r < ((o.names.map V.str).length : Nat) := of_decide_eq_true z
      obtain ⟨v, hv, hat⟩ := at_lt a1 z
      obtain ⟨x, hx, rfl⟩ := List.mem_map.mp hv
      refine ⟨_, rfl, p, _, _, _, rfl, rfl, SqT.of hp1, rfl, _, rfl, qa, _, _, _, rfl, rfl, SqT.of hq1, hat, (by show 2 ≤ sizeLine; decide), fun a ha => ?_⟩
      exact q a (.reg x) _ (sb1.trans (SameBut.new ha)) ((S1.same (same_new ha _)).mono (by omega)) (.tup upd_same (.cons (.str _) (.cons (.str _) .nil))) hx
    · have z : ¬ r < ((o.names.map V.str).length : Nat) := fun y => z (decide_eq_true y)
      have b1 : r < ((o.names.map V.str).length : Nat) + o.hidden := b1
      refine ⟨_, rfl, _, rfl, p, _, _, _, rfl, rfl, SqT.of hp1, rfl, qa, _, rfl, .inr (SqT.of hq1), _, _, rfl, rfl, (by show 2 ≤ sizeLine; decide), fun a ha => ?_⟩
      exact q a (.hid (r - ((o.names.map V.str).length : Nat))) _ (sb1.trans (SameBut.new ha)) ((S1.same (same_new ha _)).mono (by omega)) (.tup upd_same (.cons (.str _) (.cons (.int _) .nil))) ⟨by omega, by omega⟩
end
end My
set_option Elab.async false
set_option linter.all false
set_option maxRecDepth 100000
set_option maxHeartbeats 1000000
namespace My
open PySem L2 TL Sx
theorem erase_mapK {α β : Type} (f : α → β) : ∀ (l : List α) (i : Nat), (l.map f).eraseIdx i = (l.eraseIdx i).map f
  | [], _ => rfl
  | _ :: _, 0 => rfl
  | x :: r, i + 1 => by
    show f x :: (r.map f).eraseIdx i = f x :: (r.eraseIdx i).map f
    rw [erase_mapK f r i]
theorem erase_perm {α : Type} : ∀ (l : List α) (i : Nat) (h : i < l.length), (l[i] :: l.eraseIdx i).Perm l
  | _ :: _, 0, _ => .refl _
  | x :: r, i + 1, h => ((List.Perm.swap _ _ _).trans ((erase_perm r i (Nat.lt_of_succ_lt_succ h)).cons x))
theorem _root_.My.Sack.updK {H : Hp} {k b : Addr} {n : Nat} {o : HO} (h : Sack H k n) (e : b ≠ k) : Sack (upd H b o) k n := by
  obtain ⟨x1, x2, x3, hk6, zz⟩ := h
  exact ⟨x1, x2, x3, by rw [upd_ne e.symm]; exact hk6, zz⟩
abbrev rLenK (K : PySem.W.Frag) : List V → Hp → VK → Prop := fun xs H Q => ∃ p ys, xs = [.ref p] ∧ (SqL K H p ys ∨ SqT K H p ys) ∧ Q (.int ys.length) H
section
variable {P : Program} {w : World} {K : PySem.W.Frag} {mg : Str → Option Value} {base : Heap}
end
end My
set_option Elab.async false
set_option linter.all false
set_option maxRecDepth 100000
set_option maxHeartbeats 1000000
namespace My
open PySem L2 TL Sx
abbrev sPlT : Stmt := top 18
abbrev sOrT : Stmt := top 19
abbrev sKey : Stmt := top 20
abbrev sTo : Stmt := top 21
abbrev sOrderL : Stmt := top 22
abbrev kAlu : Str := Str.ofString "alu"
theorem ord_three {H : Hp} {a : Addr} {o : OwnD} {c : Ordr} (h : Tp H (.ref a) (ordD c)) (hc : OrdOk o c) : ∃ x1 x2 rest, H a = some (.tup (.str (kindOf c) :: x1 :: x2 :: rest)) ∧ (kindOf c = kAlu → Tp H x2 (plcD (tgt c))) ∧ (¬ kindOf c = kAlu → Tp H x1 (plcD (tgt c))) ∧ PlcOk o (tgt c) := by
  cases c with
  | alu op t x b =>
    have h : Tp H (.ref a) (.tuple [.str "alu", .str op, plcD t, plcD x, plcD b]) := h
    cases h with | tup e r => cases r with | cons h0 r => cases h0; cases r with | cons h1 r => cases r with | cons h2 r => exact ⟨_, _, _, e, fun _ => h2, fun z => absurd rfl z, hc.2.1⟩
  | put t n =>
    have h : Tp H (.ref a) (.tuple [.str "put", plcD t, .int n]) := h
    cases h with | tup e r => cases r with | cons h0 r => cases h0; cases r with | cons h1 r => cases r with | cons h2 r => exact ⟨_, _, _, e, fun z => absurd z put_alu, fun _ => h1, hc.1⟩
  | two kd t x =>
    have h : Tp H (.ref a) (.tuple [.str kd, plcD t, plcD x]) := h
    cases h with | tup e r => cases r with | cons h0 r => cases h0; cases r with | cons h1 r => cases r with | cons h2 r => exact ⟨_, _, _, e, fun z => absurd z (two_alu kd hc.1), fun _ => h1, hc.2.1⟩
theorem atOne {a b : V} {xs : List V} : atI (a :: b :: xs) 1 = some b := atI_nat (xs := a :: b :: xs) (j := 1) rfl
theorem atTwo {a b c : V} {xs : List V} : atI (a :: b :: c :: xs) 2 = some c := atI_nat (xs := a :: b :: c :: xs) (j := 2) rfl
theorem alu_store : ¬ kAlu = sStore := by decide +kernel
theorem to_val (v : V) (x : Str) : valV (mergeK [] [((Sum.inr kAlu : Key), v), (Sum.inr sStore, V.non)]) (Sum.inr x) = if x = kAlu then some v else if x = sStore then some V.non else none := by
  have e : mergeK [] [((Sum.inr kAlu : Key), v), (Sum.inr sStore, V.non)] = [((Sum.inr kAlu : Key), v), (Sum.inr sStore, V.non)] := by
    show putK (putK ([] : List (Key × V)) (Sum.inr kAlu) v) (Sum.inr sStore) V.non = _
    have e1 : putK ([] : List (Key × V)) (Sum.inr kAlu) v = [(Sum.inr kAlu, v)] := rfl
    rw [e1]
    unfold putK
    have e2 : ([((Sum.inr kAlu : Key), v)].any fun kv => decide (kv.1 = Sum.inr sStore)) = false := by
      rw [List.any_cons, List.any_nil, Bool.or_false]
      exact decide_eq_false fun z => alu_store (Sum.inr.inj z)
    rw [e2]
    rfl
  rw [e]
  unfold valV
  rw [List.find?_cons]
  by_cases h1 : x = kAlu
  · rw [if_pos h1, decide_eq_true (by rw [h1])]
    rfl
  · rw [if_neg h1, decide_eq_false (fun z => h1 (Sum.inr.inj z).symm), List.find?_cons]
    by_cases h2 : x = sStore
    · rw [if_pos h2, decide_eq_true (by rw [h2])]
      rfl
    · rw [if_neg h2, decide_eq_false (fun z => h2 (Sum.inr.inj z).symm)]
      rfl
def spToL : Sp := fun vs H Q _ => ∃ (a : Addr) (c : Ordr) (o : OwnD), vs = [.ref a] ∧ Tp H (.ref a) (ordD c) ∧ OrdOk o c ∧ ∀ (v : V) (H' : Hp), Same H H' → (kindOf c = sStore → v = .non) → (¬ kindOf c = sStore → Tp H' v (plcD (tgt c)) ∧ PlcOk o (tgt c)) → Q v H'
def spOrderL : Sp := fun vs H Q _ => ∃ (k p : Addr) (n : Nat) (o : OwnD) (wd : Str), vs = [.ref k, .ref p, .str wd] ∧ Sack H k n ∧ n < 80000 ∧ Tp H (.ref p) (ownD o) ∧ OwnOk o ∧ wd ∈ kindsL ∧
  ∀ (a : Addr) (c : Ordr) (H' : Hp), SameBut k H H' → Sack H' k (n + 10) → Tp H' (.ref a) (ordD c) → OrdOk o c → kindOf c = wd → Q (.ref a) H'
abbrev rIsiK (K : PySem.W.Frag) : List V → Hp → VK → Prop := fun xs H Q => ∃ x T t b, xs = [x, .ty T] ∧ TyOf K H x t ∧ PySem.W.kitOne K t (.type T) = some b ∧ Q (.bl b) H
abbrev rStrV : List V → Hp → VK → Prop := fun xs H Q => ∃ x y, xs = [x] ∧ StrV x y ∧ Q (.str y) H
section
variable {P : Program} {w : World} {K : PySem.W.Frag} {mg : Str → Option Value} {base : Heap}
theorem scPlT : FnScope ["spot"] ["spot"] (defScope sPlT) := ⟨rfl, rfl, rfl, by decide +kernel, rfl, by decide +kernel, by decide +kernel⟩
theorem ok_plT {f : Addr} {fd : FuncData} (F : Fun K "_law_place_text" "_law_place_text" sPlT f fd) (B : Bl mg) : FnOk P w K mg base CX0 1 f fd ["spot"] spPlaceText := by
  refine F.ok scPlT (fun vs H Q E h => ?_) (fun cdv A outer s H vs Q E hr h => ?_)
  · obtain ⟨a, c, rfl, _⟩ := h
    rfl
  · obtain ⟨a, c, rfl, hT, hf, q⟩ := h
    refine ⟨_, pss_one (ps_ret (pe_ifExp (pt_cmpR op_eq (pe_ix ix_tup (pv 0) pe_int (fun _ _ => rfl)) pe_str (nomark _)) (pe_ix ix_tup (pv 0) pe_int (fun _ _ => rfl))
      (pe_op op_add_str pe_str (pe_callTy call_strV (by rfl) B.str (by decide +kernel) (pa_cons (pe_ix ix_tup (pv 0) pe_int (fun _ _ => rfl)) pa_nil))))), ?_⟩
    rcases plc_inv hT with ⟨x, rfl, ha⟩ | ⟨j, rfl, ha⟩
    · refine ⟨_, rfl, a, _, _, _, rfl, rfl, SqT.of ha, at0, rfl, _, rfl, ?_⟩
      refine ite2 (fun _ => ⟨_, rfl, a, _, _, _, rfl, rfl, SqT.of ha, rfl, q⟩) (fun c => absurd (decide_eq_true rfl) c)
    · have hj : 0 ≤ j ∧ j < 16 := hf
      refine ⟨_, rfl, a, _, _, _, rfl, rfl, SqT.of ha, at0, rfl, _, rfl, ?_⟩
      refine ite2 (fun c => absurd (V.str.inj (of_decide_eq_true c)) reg_hid) (fun c => ?_)
      have hn := numT_len (j := j) hj.1 (by omega)
      refine ⟨_, rfl, a, _, _, _, rfl, rfl, SqT.of ha, rfl, _, numT j, rfl, ⟨log_small hj.1 (by omega), rfl⟩, _, _, rfl, rfl, ?_, q⟩
      rw [h_len]
      exact Nat.le_of_lt (small1000 (by omega))
theorem scOrT : FnScope ["this", "some", "part"] ["this"] (defScope sOrT) := ⟨rfl, rfl, rfl, by decide +kernel, rfl, by decide +kernel, by decide +kernel⟩
theorem ok_orT {f : Addr} {fd : FuncData} (F : Fun K "_law_order_text" "_law_order_text" sOrT f fd) (dT : Df K mg "_law_place_text" sPlT ["spot"]) (B : Bl mg) : FnOk P w K mg base CX0 2 f fd ["this"] spOrderText := by
  have GT : FnOk P w K mg base CX0 1 dT.f dT.fd ["spot"] spPlaceText := ok_plT dT.F B
  refine F.ok scOrT (fun vs H Q E h => ?_) (fun cdv A outer s H vs Q E hr h => ?_)
  · obtain ⟨a, c, rfl, _⟩ := h
    rfl
  · obtain ⟨a, c, rfl, hT, hf, q⟩ := h
    refine ⟨_, pss_cons (ps_setLc (i := 1) (own := [("part", 2)]) (g := gName 2) (te := tIf (tB (tCB (rIsiK K) (tCons (tVar 2) (tCons (tC (.ty "tuple")) tNil)))) (tCall spPlaceText [] E0 (tCons (tVar 2) tNil)) (tCB rStrV (tCons (tVar 2) tNil))) (by rfl) scOrT.nd rfl rfl (sw_true (by rfl) (by rfl) (by rfl) (by rfl)) (pi_tup (pv 0)) (blkOk_by (own := [("part", 2)]) (N := ["this", "some", "part"]) (sc := defScope sOrT) (by decide +kernel))
        (fun _ _ _ _ _ => pg_name (i := 2) scOrT.nd rfl (Or.inl rfl)) (fun _ _ _ _ _ => pts_nil) (fun _ _ _ _ _ => pe_ifExp (pt_val (pe_callB call_isi (by rfl) B.isi (by decide +kernel) (pa_cons (pv 2) (pa_cons (pe_bltn (v := .ty "tuple") (by rfl) B.tup (by decide +kernel) rfl) pa_nil))))
      (pe_call GT hr rfl dT.m dT.F.kp dT.b .nil pass0 (pa_cons (pv 2) pa_nil)) (pe_callTy call_strV (by rfl) B.str (by decide +kernel) (pa_cons (pv 2) pa_nil))))
      (pss_one (ps_ret (pe_join pe_str (pv 1)))), ?_⟩
    obtain ⟨xs, ha, hall⟩ := tp_parts hT
    have hlen : xs.length = (ordParts c).length := by rw [hall.len, List.length_map]
    have h5 := parts_len c
    refine ⟨_, rfl, a, rfl, ⟨_, SqT.of ha⟩, fun D hD => ?_⟩
    have sD := fun o => same_new hD o
    refine lc_tup (K := K) (a := a) (xs := xs) (fun i H1 => H1 D = some (.lst (((ordParts c).take i).map (fun p => V.str (partT p)))) ∧ Same H H1) ⟨by rw [upd_same, List.take_zero, List.map_nil], sD _⟩ (fun i H1 _ z => SqT.of (z.2 _ _ ha)) ?_ ?_
    · rintro i v H1 hv ⟨h1, s1⟩
      obtain ⟨p, hp, hpt⟩ := hall.get hv
      have hi := (List.getElem?_eq_some_iff.mp hv).1
      have hpt1 := hpt.keep (KeepT.of s1)
      have hfp := hf p (List.mem_of_getElem? hp)
      have fin : ∃ xs0, H1 D = some (.lst xs0) ∧ xs0.length < sizeLine ∧ (upd H1 D (.lst (xs0 ++ [V.str (partT p)]))) D = some (.lst (((ordParts c).take (i + 1)).map (fun p => V.str (partT p)))) ∧ Same H (upd H1 D (.lst (xs0 ++ [V.str (partT p)]))) := by
        refine ⟨_, h1, ?_, ?_, ?_⟩
        · rw [List.length_map, List.length_take]
          exact small1000 (by omega)
        · rw [upd_same, List.take_add_one, hp, List.map_append]
          try rfl
        · intro b o e
          rw [upd_ne (ne_of_none e hD)]
          exact s1 b o e
      refine ⟨rfl, ?_⟩
      cases p with
      | plc c =>
        have hT1 : Tp H1 v (plcD c) := hpt1
        obtain ⟨a', xs', rfl, ha'⟩ := plc_ref hT1
        refine ⟨_, rfl, _, _, _, true, rfl, .tup ha', kit_tt, _, rfl, iteT ?_⟩
        exact ⟨_, rfl, a', c, rfl, hT1, hfp, fin⟩
      | txt x =>
        have hT1 : Tp H1 v (.str x) := hpt1
        cases hT1
        refine ⟨_, rfl, _, _, _, false, rfl, .str _, kit_st, _, rfl, iteF ?_⟩
        exact ⟨_, rfl, _, x, rfl, rfl, fin⟩
      | num n =>
        have hT1 : Tp H1 v (.int n) := hpt1
        cases hT1
        refine ⟨_, rfl, _, _, _, false, rfl, .int _, kit_it, _, rfl, iteF ?_⟩
        exact ⟨_, rfl, _, numT n, rfl, ⟨log_small hfp.1 hfp.2, rfl⟩, fin⟩
    · rintro H1 ⟨h1, s1⟩
      refine ⟨⟨_, rfl⟩, _, rfl, _, D, (ordParts c).map partT, rfl, rfl, .inl (SqL.of ?_), join_size hf, q H1 s1⟩
      rw [h1, hlen, List.take_length, List.map_map]
      try rfl
theorem scKey : FnScope ["this"] ["this"] (defScope sKey) := ⟨rfl, rfl, rfl, by decide +kernel, rfl, by decide +kernel, by decide +kernel⟩
theorem ok_key {f : Addr} {fd : FuncData} (F : Fun K "_law_key" "_law_key" sKey f fd) (dL : Df K mg "_law_order_text" sOrT ["this"]) (dT : Df K mg "_law_place_text" sPlT ["spot"]) (B : Bl mg) : FnOk P w K mg base CX0 3 f fd ["this"] spKey := by
  have GL : FnOk P w K mg base CX0 2 dL.f dL.fd ["this"] spOrderText := ok_orT dL.F dT B
  refine F.ok scKey (fun vs H Q E h => ?_) (fun cdv A outer s H vs Q E hr h => ?_)
  · obtain ⟨a, c, rfl, _⟩ := h
    rfl
  · obtain ⟨a, c, rfl, hT, hf, hk, q⟩ := h
    have e : defBody sKey = fillAt (lstOf (stAt (defBody sKey) 0)) 0 (defBody sKey) := by rfl
    have hA : strsOf (lstOf (stAt (defBody sKey) 0)) = some kindsL := by decide +kernel
    rw [e]
    generalize lstOf (stAt (defBody sKey) 0) = esA at hA ⊢
    clear e
    refine ⟨_, pss_one (ps_ret (pe_tup (pa_cons (pe_bm PySem.F.plainAttrs_list PySem.F.slot_list_index PySem.F.type_list_index mt_index (pe_lst (pa_strs hA)) (pa_cons (pe_ix ix_tup (pv 0) pe_int (fun _ _ => rfl)) pa_nil))
      (pa_cons (pe_call GL hr rfl dL.m dL.F.kp dL.b .nil pass0 (pa_cons (pv 0) pa_nil)) pa_nil)))), ?_⟩
    obtain ⟨xs, ha⟩ := head_kind hT
    obtain ⟨k1, k2, k3⟩ := kinds_at hk
    refine ⟨(by show 5 ≤ sizeLine; decide), fun p hp => ?_⟩
    have sp := same_new hp (.lst (kindsL.map V.str))
    refine ⟨.inl ⟨rfl, _, SqL.of upd_same⟩, _, rfl, a, _, _, _, rfl, rfl, SqT.of (sp _ _ ha), at0, p, _, _, rk (kindOf c), _, rfl, rfl, SqL.of upd_same, rfl, flat_strs _, k1, k2, k3, ?_⟩
    refine ⟨_, rfl, a, c, rfl, hT.keep (KeepT.of sp), hf, fun H' s' => ⟨(by show 2 ≤ sizeLine; decide), fun t ht => ?_⟩⟩
    exact q t _ ((sp.trans s').free ht) (sp.trans (s'.trans (same_new ht _))) upd_same
theorem scTo : FnScope ["this"] ["this"] (defScope sTo) := ⟨rfl, rfl, rfl, by decide +kernel, rfl, by decide +kernel, by decide +kernel⟩
theorem ok_toL {f : Addr} {fd : FuncData} (F : Fun K "_law_to" "_law_to" sTo f fd) : FnOk P w K mg base CX0 1 f fd ["this"] spToL := by
  refine F.ok scTo (fun vs H Q E h => ?_) (fun cdv A outer s H vs Q E hr h => ?_)
  · obtain ⟨a, c, o, rfl, _⟩ := h
    rfl
  · obtain ⟨a, c, o, rfl, hT, hO, q⟩ := h
    have hu : (A.deeper (PyProof.Rows.envOfC (Str.ofString "_law_to") (defScope sTo) s.heap.objs.size f cdv)).units + 1 < cLine := by
      have := hr.un
      omega
    refine ⟨_, pss_one (ps_ret (pe_dget2 hu (pe_disp (pps_cons pe_str (pe_ix ix_tup (pv 0) pe_int (fun _ _ => rfl)) (pps_cons pe_str pe_non pps_nil)) rfl rfl (by simp) (by decide)) (pe_ix ix_tup (pv 0) pe_int (fun _ _ => rfl)) (pe_ix ix_tup (pv 0) pe_int (fun _ _ => rfl)) ⟨by rfl, by rfl, by rfl, by rfl⟩)), ?_⟩
    obtain ⟨x1, x2, rest, ha, i1, i2, ok⟩ := ord_three hT hO
    intro p hp
    have s1 := same_new hp (.dK [])
    refine ⟨_, rfl, a, _, _, _, rfl, rfl, SqT.of (s1 _ _ ha), atTwo, upd_same, [(Sum.inr kAlu, x2), (Sum.inr sStore, V.non)], rfl, (by show 2 ≤ 15; decide), ?_⟩
    have s2 : Same H (upd (upd H p (.dK [])) p (.dK (mergeK [] [((Sum.inr kAlu : Key), x2), (Sum.inr sStore, V.non)]))) := fun b u e => by
      rw [upd_ne (ne_of_none e hp), upd_ne (ne_of_none e hp)]
      exact e
    have ha2 := s2 _ _ ha
    refine ⟨p, rfl, .inl ⟨_, .inl upd_same⟩, _, rfl, a, _, _, _, rfl, rfl, SqT.of ha2, at0, _, rfl, a, _, _, _, rfl, rfl, SqT.of ha2, atOne, _, DGet.k (k := Sum.inr (kindOf c)) upd_same, ?_⟩
    rw [to_val]
    by_cases z1 : kindOf c = kAlu
    · rw [if_pos z1]
      exact q _ _ s2 (fun z => absurd (z1.symm.trans z) alu_store) (fun _ => ⟨(i1 z1).keep (KeepT.of s2), ok⟩)
    · rw [if_neg z1]
      by_cases z2 : kindOf c = sStore
      · rw [if_pos z2]
        exact q _ _ s2 (fun _ => rfl) (fun z => absurd z2 z)
      · rw [if_neg z2]
        exact q _ _ s2 (fun z => absurd z z2) (fun _ => ⟨(i2 z1).keep (KeepT.of s2), ok⟩)
end
end My
set_option Elab.async false
set_option linter.all false
set_option maxRecDepth 100000
set_option maxHeartbeats 1000000
namespace My
open PySem L2 TL Sx
abbrev NOr : List Str := ["bag", "kit", "word", "this", "that", "to", "op"]
theorem kinds_two : ∀ x ∈ kindsL, x = kAlu ∨ x = Str.ofString "put" ∨ x = sStore ∨ (x ∈ twoL ∧ True) := by
  have h : kindsL.all (fun x => decide (x = kAlu ∨ x = Str.ofString "put" ∨ x = sStore ∨ (x ∈ twoL ∧ True))) = true := by decide +kernel
  exact fun x hx => of_decide_eq_true (List.all_eq_true.mp h x hx)
theorem store_two : sStore ∈ twoL := by decide +kernel
section
variable {P : Program} {w : World} {K : PySem.W.Frag} {mg : Str → Option Value} {base : Heap}
theorem scOrderL : FnScope NOr ["bag", "kit", "word"] (defScope sOrderL) := ⟨rfl, rfl, rfl, by decide +kernel, rfl, by decide +kernel, by decide +kernel⟩
theorem ok_orderL {f : Addr} {fd : FuncData} (F : Fun K "_law_order" "_law_order" sOrderL f fd) (dP : Df K mg "_law_draw" sPull ["bag", "many"]) (dT : Df K mg "_law_top" sTop ["kit"]) (dC : Df K mg "_law_place" sPlace ["bag", "kit"]) (dW : Df K mg "_law_word" sWordL ["bag", "kit"]) (B : Bl mg) : FnOk P w K mg base CX0 3 f fd ["bag", "kit", "word"] spOrderL := by
  have GP : FnOk P w K mg base CX0 1 dP.f dP.fd ["bag", "many"] spPull := ok_pull dP.F
  have GC : FnOk P w K mg base CX0 2 dC.f dC.fd ["bag", "kit"] spSpot := ok_place dC.F dP B
  have GW : FnOk P w K mg base CX0 2 dW.f dW.fd ["bag", "kit"] spWord := ok_wordL dW.F dP dT B
  refine F.ok scOrderL (fun vs H Q E h => ?_) (fun cdv A outer s H vs Q E hr h => ?_)
  · obtain ⟨k, p, n, o, wd, rfl, _⟩ := h
    rfl
  · obtain ⟨k, p, n, o, wd, rfl, S0, hn, hT, hO, hwd, q⟩ := h
    have hr1 : Room 1 _ := hr.mono (by decide)
    refine ⟨_, pss_cons (ps_par3 (i := 3) (j := 4) (k := 5) (by rfl) scOrderL.nd rfl rfl rfl (by decide) (by decide) (by decide) (by rfl) (by rfl) (by rfl)
        (pa_cons (pe_call GC hr rfl dC.m dC.F.kp dC.b .nil pass0 (pa_cons (pv 0) (pa_cons (pv 1) pa_nil))) (pa_cons (pe_call GC hr rfl dC.m dC.F.kp dC.b .nil pass0 (pa_cons (pv 0) (pa_cons (pv 1) pa_nil))) (pa_cons (pe_call GC hr rfl dC.m dC.F.kp dC.b .nil pass0 (pa_cons (pv 0) (pa_cons (pv 1) pa_nil))) pa_nil))) (by rfl))
      (pss_cons (ps_if (pt_cmpR op_eq (pv 2) pe_str (nomark _))
        (pss_cons (ps_set (i := 6) scOrderL.nd rfl (Or.inl rfl) (pe_ix ix_list (pe_lst (pa_strs (xs := opsL) (by decide +kernel))) (pe_call GP hr1 rfl dP.m dP.F.kp dP.b .nil pass0 (pa_cons (pv 0) (pa_cons pe_int pa_nil))) (fun _ _ => rfl)))
        (pss_one (ps_ret (pe_tup (pa_cons pe_str (pa_cons (pv 6) (pa_cons (pv 5) (pa_cons (pv 3) (pa_cons (pv 4) pa_nil))))))))) pss_nil)
      (pss_cons (ps_if (pt_cmpR op_eq (pv 2) pe_str (nomark _))
        (pss_one (ps_ret (pe_tup (pa_cons pe_str (pa_cons (pv 5) (pa_cons (pe_call GW hr rfl dW.m dW.F.kp dW.b .nil pass0 (pa_cons (pv 0) (pa_cons (pv 1) pa_nil))) pa_nil)))))) pss_nil)
      (pss_cons (ps_if (pt_cmpR op_eq (pv 2) pe_str (nomark _))
        (pss_one (ps_ret (pe_tup (pa_cons pe_str (pa_cons (pv 3) (pa_cons (pv 4) pa_nil)))))) pss_nil)
      (pss_one (ps_ret (pe_tup (pa_cons (pv 2) (pa_cons (pv 5) (pa_cons (pv 3) pa_nil))))))))), ?read⟩
    case read =>
      -- the places
      refine seq_cut (fun σ' H' => ∃ (a1 a2 a3 : Addr) (c1 c2 c3 : Plc), σ' = [some (.ref k), some (.ref p), some (.str wd), some (.ref a1), some (.ref a2), some (.ref a3), none] ∧ Sack H' k (n + 6) ∧ SameBut k H H' ∧ Tp H' (.ref a1) (plcD c1) ∧ Tp H' (.ref a2) (plcD c2) ∧ Tp H' (.ref a3) (plcD c3) ∧ PlcOk o c1 ∧ PlcOk o c2 ∧ PlcOk o c3) (fun nx imp => ?_) ?_
      · refine ⟨_, rfl, _, rfl, k, p, n, o, rfl, S0, by omega, hT, hO, fun a1 c1 H1 sb1 S1 t1 o1 => ?_⟩
        have k1 := S0.keepT sb1
        refine ⟨_, rfl, _, rfl, k, p, _, o, rfl, S1, by omega, hT.keep k1, hO, fun a2 c2 H2 sb2 S2 t2 o2 => ?_⟩
        have k2 := S1.keepT sb2
        refine ⟨_, rfl, _, rfl, k, p, _, o, rfl, S2, by omega, hT.keep (k1.trans k2), hO, fun a3 c3 H3 sb3 S3 t3 o3 => ?_⟩
        have k3 := S2.keepT sb3
        exact ⟨_, _, _, rfl, imp _ _ ⟨a1, a2, a3, c1, c2, c3, rfl, S3, sb1.trans (sb2.trans sb3), t1.keep (k2.trans k3), t2.keep k3, t3, o1, o2, o3⟩⟩
      rintro σ H3 ⟨a1, a2, a3, c1, c2, c3, rfl, S3, sb3, t1, t2, t3, o1, o2, o3⟩
      have T3 := hT.keep (S0.keepT sb3)
      -- alu
      refine seq_cut (fun σ' H' => σ' = [some (.ref k), some (.ref p), some (.str wd), some (.ref a1), some (.ref a2), some (.ref a3), none] ∧ H' = H3 ∧ ¬ wd = kAlu) (fun nx imp => ?_) ?_
      · refine ⟨_, rfl, rfl, _, rfl, ite2 (fun z => ?_) (fun z => imp _ _ ⟨rfl, rfl, fun y => z (decide_eq_true (congrArg V.str y))⟩)⟩
        have ez : wd = kAlu := V.str.inj (of_decide_eq_true z)
        refine ⟨(by show 7 ≤ sizeLine; decide), fun b hb => ?_⟩
        have nbk : b ≠ k := by obtain ⟨_, _, _, y, _⟩ := S3; exact (ne_of_none y hb).symm
        have sB := same_new hb (.lst (opsL.map V.str))
        refine ⟨_, rfl, k, 7, n + 6, rfl, S3.same sB, by omega, by decide, by decide, fun r H4 a4 b4 sb4 S4 => ?_⟩
        obtain ⟨v, hv, hat⟩ := at_lt (xs := opsL.map V.str) a4 (by show r < (7 : Int); exact b4)
        obtain ⟨op, hop, rfl⟩ := List.mem_map.mp hv
        have k4 : KeepT H3 H4 := (KeepT.of sB).trans ((S3.same sB).keepT sb4)
        refine ⟨b, _, _, _, rfl, rfl, SqL.of (sb4 _ _ upd_same nbk), hat, ?_⟩
        refine ⟨_, rfl, _, rfl, _, rfl, _, rfl, (by show 5 ≤ sizeLine; decide), fun t ht => ?_⟩
        have sT := same_new ht (.tup [V.str kAlu, V.str op, V.ref a3, V.ref a1, V.ref a2])
        have kT := k4.trans (KeepT.of sT)
        refine q t (.alu op c3 c1 c2) _ (sb3.trans (sB.but.trans (sb4.trans sT.but))) ((S4.same sT).mono (by omega)) (.tup upd_same (.cons (.str _) (.cons (.str _) (.cons (t3.keep kT) (.cons (t1.keep kT) (.cons (t2.keep kT) .nil)))))) ⟨hop, o3, o1, o2⟩ ez.symm
      rintro σ H4 ⟨rfl, eH, n1⟩
      subst eH
      -- put
      refine seq_cut (fun σ' H' => σ' = [some (.ref k), some (.ref p), some (.str wd), some (.ref a1), some (.ref a2), some (.ref a3), none] ∧ H' = H4 ∧ ¬ wd = Str.ofString "put") (fun nx imp => ?_) ?_
      · refine ⟨_, rfl, rfl, _, rfl, ite2 (fun z => ?_) (fun z => imp _ _ ⟨rfl, rfl, fun y => z (decide_eq_true (congrArg V.str y))⟩)⟩
        have ez : wd = Str.ofString "put" := V.str.inj (of_decide_eq_true z)
        refine ⟨_, rfl, _, rfl, _, rfl, k, p, n + 6, o, rfl, S3, by omega, T3, hO, fun r H5 a5 b5 sb5 S5 => ⟨(by show 3 ≤ sizeLine; decide), fun t ht => ?_⟩⟩
        have sT := same_new ht (.tup [V.str (Str.ofString "put"), V.ref a3, V.int r])
        have kT := (S3.keepT sb5).trans (KeepT.of sT)
        refine q t (.put c3 r) _ (sb3.trans (sb5.trans sT.but)) ((S5.same sT).mono (by omega)) (.tup upd_same (.cons (.str _) (.cons (t3.keep kT) (.cons (.int _) .nil)))) ⟨o3, a5, b5⟩ ez.symm
      rintro σ H5 ⟨rfl, eH, n2⟩
      subst eH
      -- store
      refine seq_cut (fun σ' H' => σ' = [some (.ref k), some (.ref p), some (.str wd), some (.ref a1), some (.ref a2), some (.ref a3), none] ∧ H' = H5 ∧ ¬ wd = sStore) (fun nx imp => ?_) ?_
      · refine ⟨_, rfl, rfl, _, rfl, ite2 (fun z => ?_) (fun z => imp _ _ ⟨rfl, rfl, fun y => z (decide_eq_true (congrArg V.str y))⟩)⟩
        have ez : wd = sStore := V.str.inj (of_decide_eq_true z)
        refine ⟨_, rfl, _, rfl, (by show 3 ≤ sizeLine; decide), fun t ht => ?_⟩
        have sT := same_new ht (.tup [V.str sStore, V.ref a1, V.ref a2])
        have kT := KeepT.of sT
        refine q t (.two sStore c1 c2) _ (sb3.trans sT.but) ((S3.same sT).mono (by omega)) (.tup upd_same (.cons (.str _) (.cons (t1.keep kT) (.cons (t2.keep kT) .nil)))) ⟨store_two, o1, o2⟩ ez.symm
      rintro σ H6 ⟨rfl, eH, n3⟩
      subst eH
      have h2 : wd ∈ twoL := by
        rcases kinds_two wd hwd with z | z | z | z
        · exact absurd z n1
        · exact absurd z n2
        · exact absurd z n3
        · exact z.1
      refine ⟨_, rfl, _, rfl, _, rfl, (by show 3 ≤ sizeLine; decide), fun t ht => ?_⟩
      have sT := same_new ht (.tup [V.str wd, V.ref a3, V.ref a1])
      have kT := KeepT.of sT
      exact q t (.two wd c3 c1) _ (sb3.trans sT.but) ((S3.same sT).mono (by omega)) (.tup upd_same (.cons (.str _) (.cons (t3.keep kT) (.cons (t1.keep kT) .nil)))) ⟨h2, o3, o1⟩ rfl
end
end My
set_option Elab.async false
set_option linter.all false
set_option maxRecDepth 100000
set_option maxHeartbeats 1000000
namespace My
open PySem L2 TL Sx
abbrev sOrders : Stmt := top 23
theorem paired_permK {α β : Type} {R : α → β → Prop} {xs ys : List β} (p : ys.Perm xs) : ∀ {cs : List α}, Paired R cs xs → ∃ ds, ds.Perm cs ∧ Paired R ds ys := by
  induction p with
  | nil => intro cs h; cases h; exact ⟨[], .nil, .nil⟩
  | cons x _ ih =>
    intro cs h
    cases h with | cons a r =>
      obtain ⟨ds, d1, d2⟩ := ih r
      exact ⟨_ :: ds, d1.cons _, .cons a d2⟩
  | swap x y l =>
    intro cs h
    cases h with | cons a r => cases r with | cons b t => exact ⟨_ :: _ :: _, .swap _ _ _, .cons b (.cons a t)⟩
  | trans _ _ ih1 ih2 =>
    intro cs h
    obtain ⟨ds, d1, d2⟩ := ih2 h
    obtain ⟨es, e1, e2⟩ := ih1 d2
    exact ⟨es, e1.trans d1, e2⟩
theorem OrdsM.ofK {o : OwnD} {H : Hp} : ∀ {cs : List Ordr} {xs : List V}, OrdsAt H xs cs → (∀ c ∈ cs, OrdOk o c) → OrdsM o H cs xs
  | [], _, .nil, _ => .nil
  | c :: cs, _, .cons a r, h => .cons ⟨a.tp, h c List.mem_cons_self⟩ (OrdsM.ofK r fun d hd => h d (List.mem_cons_of_mem _ hd))
theorem TpAll.keepK {H H' : Hp} (k : KeepT H H') : ∀ {vs : List V} {ds : List PyData}, TpAll H vs ds → TpAll H' vs ds
  | _, _, .nil => .nil
  | _, _, .cons a r => .cons (a.keep k) (TpAll.keepK k r)
theorem TpAll.snocK {H : Hp} {v : V} {d : PyData} (h : Tp H v d) : ∀ {vs : List V} {ds : List PyData}, TpAll H vs ds → TpAll H (vs ++ [v]) (ds ++ [d])
  | _, _, .nil => .cons h .nil
  | _, _, .cons a r => .cons a (TpAll.snocK h r)
/-- the kinds of a row's orders: a store is the last one -/
structure WordsOk (ws : List Str) : Prop where
  len : ws.length ≤ 7
  ok : ∀ i x, ws[i]? = some x → x ∈ kindsL ∧ (x = sStore → i + 1 = ws.length)
def spOrders : Sp := fun vs H Q _ => ∃ (k p : Addr) (n : Nat) (o : OwnD), vs = [.ref k, .ref p] ∧ Sack H k n ∧ n < 70000 ∧ Tp H (.ref p) (ownD o) ∧ OwnOk o ∧
  ∀ (a : Addr) (ys : List V) (cs : List Ordr) (H' : Hp), SameBut k H H' → Sack H' k (n + 100) → H' a = some (.tup ys) → OrdsM o H' cs ys → ys.length ≤ 7 → Q (.ref a) H'
abbrev NOs : List Str := ["bag", "kit", "words", "found", "word", "this", "k", "that"]
theorem rep_one (j : Nat) (v : V) : (List.replicate j [v]).flatten = List.replicate j v := by
  induction j with
  | zero => rfl
  | succ j ih => rw [List.replicate_succ, List.flatten_cons, ih]; rfl
theorem mp_ok : ∀ x ∈ [Str.ofString "move", Str.ofString "put"], x ∈ kindsL ∧ ¬ x = sStore := by
  intro x hx
  rcases List.mem_cons.mp hx with rfl | hx
  · exact ⟨by decide +kernel, by decide +kernel⟩
  · rw [List.mem_singleton.mp hx]; exact ⟨by decide +kernel, by decide +kernel⟩
section
variable {P : Program} {w : World} {K : PySem.W.Frag} {mg : Str → Option Value} {base : Heap}
/-- the defs that the drawing of orders calls -/
structure DfO (K : PySem.W.Frag) (mg : Str → Option Value) where
  pull : Df K mg "_law_draw" sPull ["bag", "many"]
  top : Df K mg "_law_top" sTop ["kit"]
  place : Df K mg "_law_place" sPlace ["bag", "kit"]
  word : Df K mg "_law_word" sWordL ["bag", "kit"]
  plT : Df K mg "_law_place_text" sPlT ["spot"]
  orT : Df K mg "_law_order_text" sOrT ["this"]
  key : Df K mg "_law_key" sKey ["this"]
  to : Df K mg "_law_to" sTo ["this"]
  order : Df K mg "_law_order" sOrderL ["bag", "kit", "word"]
theorem scOrders : FnScope NOs ["bag", "kit"] (defScope sOrders) := ⟨rfl, rfl, rfl, by decide +kernel, rfl, by decide +kernel, by decide +kernel⟩
theorem ok_orders {f : Addr} {fd : FuncData} (F : Fun K "_law_orders" "_law_orders" sOrders f fd) (D : DfO K mg) (B : Bl mg) : FnOk P w K mg base CX0 6 f fd ["bag", "kit"] spOrders := by
  have dP := D.pull
  have GP : FnOk P w K mg base CX0 1 dP.f dP.fd ["bag", "many"] spPull := ok_pull dP.F
  have GO : FnOk P w K mg base CX0 3 D.order.f D.order.fd ["bag", "kit", "word"] spOrderL := ok_orderL D.order.F dP D.top D.place D.word B
  have GT : FnOk P w K mg base CX0 1 D.to.f D.to.fd ["this"] spToL := ok_toL D.to.F
  have GK : FnOk P w K mg base CX0 3 D.key.f D.key.fd ["this"] spKey := ok_key D.key.F D.orT D.plT B
  refine F.ok scOrders (fun vs H Q E h => ?_) (fun cdv A outer s H vs Q E hr h => ?_)
  · obtain ⟨k, p, n, o, rfl, _⟩ := h
    rfl
  · obtain ⟨k, p, n, o, rfl, S0, hn, hT, hO, q⟩ := h
    have hr1 : Room 1 _ := hr.mono (by decide)
    have hr3 : Room 3 _ := hr.mono (by decide)
    have hrK : Room 3 _ := hr.in1.in1
    have hu : (A.deeper (PyProof.Rows.envOfC (Str.ofString "_law_orders") (defScope sOrders) s.heap.objs.size f cdv)).units + 100 < cLine := by
      have := hr.un
      omega
    refine ⟨_, pss_cons (ps_set (i := 2) scOrders.nd rfl (Or.inl rfl) (pe_op op_rep (pe_lst (pa_cons pe_str pa_nil)) (pe_call GP hr1 rfl dP.m dP.F.kp dP.b .nil pass0 (pa_cons (pv 0) (pa_cons (pe_op op_add (pe_ix ix_tup (pv 1) pe_int (fun _ _ => rfl)) pe_int) pa_nil)))))
      (pss_cons (ps_set (i := 2) scOrders.nd rfl (Or.inl rfl) (pe_op op_cat (pv 2) (pe_lc (own := [("k", 6)]) (g := gName 6) (te := tOp (rIxL K) (tLst (tCons (tC (.str (Str.ofString "move"))) (tCons (tC (.str (Str.ofString "put"))) tNil))) (tCall spPull [] E0 (tCons (tVar 0) (tCons (tC (.int 2)) tNil)))) (by rfl) scOrders.nd
          (pi_range1 rfl B.range (pa_cons (pe_call GP hr1 rfl dP.m dP.F.kp dP.b .nil pass0 (pa_cons (pv 0) (pa_cons (pe_op op_add (pe_ix ix_tup (pv 1) pe_int (fun _ _ => rfl)) pe_int) pa_nil))) pa_nil)) (blkOk_by (own := [("k", 6)]) (N := NOs) (sc := defScope sOrders) (by decide +kernel))
          (fun _ _ _ _ _ => pg_name (i := 6) scOrders.nd rfl (Or.inl rfl)) (fun _ _ _ _ _ => pts_nil) (fun _ _ _ _ _ => pe_ix ix_list (pe_lst (pa_cons pe_str (pa_cons pe_str pa_nil))) (pe_call GP hr1 rfl dP.m dP.F.kp dP.b .nil pass0 (pa_cons (pv 0) (pa_cons pe_int pa_nil))) (fun _ _ => rfl)))))
      (pss_cons (ps_set (i := 2) scOrders.nd rfl (Or.inl rfl) (pe_op op_cat (pv 2) (pe_ix ix_list (pe_lst (pa_cons (pe_lst pa_nil) (pa_cons (pe_lst (pa_cons pe_str pa_nil)) (pa_cons (pe_lst (pa_cons pe_str pa_nil)) (pa_cons (pe_lst pa_nil) pa_nil))))) (pe_call GP hr1 rfl dP.m dP.F.kp dP.b .nil pass0 (pa_cons (pv 0) (pa_cons pe_int pa_nil))) (fun _ _ => rfl))))
      (pss_cons (ps_set (i := 3) scOrders.nd rfl (Or.inl rfl) (pe_lst pa_nil))
      (pss_cons (ps_for PassesOwn.never rfl (pi_list (pv 2)) (pg_name (i := 4) scOrders.nd rfl (Or.inl rfl))
        (pss_cons (ps_set (i := 5) scOrders.nd rfl (Or.inl rfl) (pe_call GO hr3 rfl D.order.m D.order.F.kp D.order.b .nil pass0 (pa_cons (pv 0) (pa_cons (pv 1) (pa_cons (pv 4) pa_nil)))))
        (pss_one (ps_if (PW.pt (pw_or (pt_cmpR op_isN (pe_call GT hr1 rfl D.to.m D.to.F.kp D.to.b .nil pass0 (pa_cons (pv 5) pa_nil)) pe_non (nomark _))
            (pw_or1 (pt_cmpR (op_notInT hu) (pe_call GT hr1 rfl D.to.m D.to.F.kp D.to.b .nil pass0 (pa_cons (pv 5) pa_nil)) (pe_lc (own := [("that", 7)]) (g := gName 7) (by rfl) scOrders.nd (pi_list (pv 3)) (blkOk_by (own := [("that", 7)]) (N := NOs) (sc := defScope sOrders) (by decide +kernel))
              (fun _ _ _ _ _ => pg_name (i := 7) scOrders.nd rfl (Or.inl rfl)) (fun _ _ _ _ _ => pts_nil) (fun _ _ _ _ _ => pe_call GT hr1 rfl D.to.m D.to.F.kp D.to.b .nil pass0 (pa_cons (pv 7) pa_nil))) rfl))))
          (pss_one (ps_expr (pe_bm PySem.F.plainAttrs_list PySem.F.slot_list_append PySem.F.type_list_append mt_append (pv 3) (pa_cons (pv 5) pa_nil)))) pss_nil))))
      (pss_one (ps_ret (pe_callTy call_tuple_of (by rfl) B.tup (by decide +kernel) (pa_cons (pe_sortedK GK hrK D.key.b (pv 3) (pe_glob (v := .ref D.key.f) (by rfl) D.key.m rfl) (by rfl) B.sorted) pa_nil)))))))), ?read⟩
    case read =>
      obtain ⟨qa, hp, hq⟩ := own_inv hT
      have hal := hO.alus
      have hmv := hO.moves
      have nek : ∀ {H1 : Hp} {m : Nat} {b : Addr}, Sack H1 k m → H1 b = none → b ≠ k := fun S hb => by
        obtain ⟨_, _, _, z, _⟩ := S
        exact (ne_of_none z hb).symm
      -- alus
      refine seq_cut (fun σ' H' => ∃ (l : Addr) (ws : List Str), σ' = [some (.ref k), some (.ref p), some (.ref l), none, none, none, none, none] ∧ Sack H' k (n + 1) ∧ H' l = some (.lst (ws.map V.str)) ∧ l ≠ k ∧ ws.length ≤ 3 ∧ (∀ x ∈ ws, x ∈ kindsL ∧ ¬ x = sStore) ∧ SameBut k H H') (fun nx imp => ?_) ?_
      · refine ⟨(by show 1 ≤ sizeLine; decide), fun b hb => ?_⟩
        have nbk := nek S0 hb
        have sB := same_new hb (.lst [V.str (Str.ofString "alu")])
        refine ⟨_, rfl, _, rfl, p, _, _, _, rfl, rfl, SqT.of (sB _ _ hp), rfl, _, _, rfl, rfl, k, o.alus + 1, n, rfl, S0.same sB, by omega, by omega, by omega, fun r H1 a1 b1 sb1 S1 => ?_⟩
        refine ⟨b, r, _, rfl, rfl, sb1 _ _ upd_same nbk, by omega, by omega, ?_, fun l hl => ?_⟩
        · show 1 * r.toNat ≤ sizeLine
          exact Nat.le_of_lt (small1000 (by omega))
        · refine imp _ _ ⟨l, List.replicate r.toNat (Str.ofString "alu"), rfl, S1.same (same_new hl _), ?_, nek S1 hl, ?_, ?_, sB.but.trans (sb1.trans (SameBut.new hl))⟩
          · rw [upd_same, rep_one, List.map_replicate]
          · rw [List.length_replicate]
            omega
          · intro x hx
            rw [List.eq_of_mem_replicate hx]
            exact ⟨by decide +kernel, by decide +kernel⟩
      rintro σ H1 ⟨l1, w1, rfl, S1, hl1, nl1, len1, ok1, sb1⟩
      have hp1 := S0.keepT sb1 _ _ hp
      -- moves and puts
      refine seq_cut (fun σ' H' => ∃ (l : Addr) (ws : List Str), σ' = [some (.ref k), some (.ref p), some (.ref l), none, none, none, none, none] ∧ Sack H' k (n + 5) ∧ H' l = some (.lst (ws.map V.str)) ∧ l ≠ k ∧ ws.length ≤ 6 ∧ (∀ x ∈ ws, x ∈ kindsL ∧ ¬ x = sStore) ∧ SameBut k H H') (fun nx imp => ?_) ?_
      · refine ⟨_, rfl, _, rfl, _, rfl, p, _, _, _, rfl, rfl, SqT.of hp1, rfl, _, _, rfl, rfl, k, o.moves + 1, n + 1, rfl, S1, by omega, by omega, by omega, fun r H2 a2 b2 sb2 S2 => ⟨r, rfl, by omega, by omega, fun D0 hD => ?_⟩⟩
        have nDk := nek S2 hD
        have hl2 := sb2 _ _ hl1 nl1
        have nlD : l1 ≠ D0 := ne_of_none hl2 hD
        refine lc_range (lo := 0) (n := r.toNat) (fun i H3 => ∃ ws : List Str, H3 D0 = some (.lst (ws.map V.str)) ∧ ws.length = i ∧ (∀ x ∈ ws, x ∈ kindsL ∧ ¬ x = sStore) ∧ H3 l1 = some (.lst (w1.map V.str)) ∧ Sack H3 k (n + 2 + i) ∧ SameBut k H2 H3)
          ⟨[], upd_same, rfl, (fun x hx => nomatch hx), by rw [upd_ne nlD]; exact hl2, S2.same (same_new hD _), SameBut.new hD⟩ ?_ ?_
        · rintro i H3 hi ⟨ws, d1, d2, d3, d4, S3, sb3⟩
          refine ⟨rfl, (by show 2 ≤ sizeLine; decide), fun b hb => ?_⟩
          have nbk := nek S3 hb
          have sB := same_new hb (.lst [V.str (Str.ofString "move"), V.str (Str.ofString "put")])
          refine ⟨_, rfl, k, 2, n + 2 + i, rfl, S3.same sB, by omega, by decide, by decide, fun r4 H4 a4 b4 sb4 S4 => ?_⟩
          obtain ⟨v, hv, hat⟩ := at_lt (xs := [Str.ofString "move", Str.ofString "put"].map V.str) a4 (by show r4 < (2 : Int); exact b4)
          obtain ⟨x, hx, rfl⟩ := List.mem_map.mp hv
          have d14 := sb4 _ _ (sB _ _ d1) nDk
          refine ⟨b, _, _, _, rfl, rfl, SqL.of (sb4 _ _ upd_same nbk), hat, _, d14, ?_, ws ++ [x], ?_, ?_, ?_, ?_, ?_, ?_⟩
          · rw [List.length_map]
            exact small1000 (by omega)
          · rw [upd_same, List.map_append]; rfl
          · rw [List.length_append, d2]; rfl
          · intro y hy
            rcases List.mem_append.mp hy with z | z
            · exact d3 y z
            · rw [List.mem_singleton.mp z]; exact mp_ok x hx
          · rw [upd_ne nlD]
            exact sb4 _ _ (sB _ _ d4) nl1
          · exact S4.updK nDk
          · exact (sb3.trans (sB.but.trans sb4)).updNew hD
        · rintro H3 ⟨ws, d1, d2, d3, d4, S3, sb3⟩
          refine ⟨l1, D0, _, _, rfl, rfl, d4, d1, ?_, fun l hl => ?_⟩
          · rw [List.length_map, List.length_map]
            exact Nat.le_of_lt (small1000 (by omega))
          · refine imp _ _ ⟨l, w1 ++ ws, rfl, (S3.same (same_new hl _)).mono (by omega), by rw [upd_same, List.map_append], nek S3 hl, ?_, ?_, sb1.trans (sb2.trans (sb3.trans (SameBut.new hl)))⟩
            · rw [List.length_append]
              omega
            · intro x hx
              rcases List.mem_append.mp hx with z | z
              · exact ok1 x z
              · exact d3 x z
      rintro σ H2 ⟨l2, w2, rfl, S2, hl2, nl2, len2, ok2, sb2⟩
      -- a load, a store, or none
      refine seq_cut (fun σ' H' => ∃ (l : Addr) (ws : List Str), σ' = [some (.ref k), some (.ref p), some (.ref l), none, none, none, none, none] ∧ Sack H' k (n + 6) ∧ H' l = some (.lst (ws.map V.str)) ∧ l ≠ k ∧ WordsOk ws ∧ SameBut k H H') (fun nx imp => ?_) ?_
      · refine ⟨_, rfl, (by show 0 ≤ sizeLine; decide), fun b0 h0 => ⟨(by show 1 ≤ sizeLine; decide), fun b1 h1 => ⟨(by show 1 ≤ sizeLine; decide), fun b2 h2 => ⟨(by show 0 ≤ sizeLine; decide), fun b3 h3 => ⟨(by show 4 ≤ sizeLine; decide), fun b4 h4 => ?_⟩⟩⟩⟩⟩
        have z0 := same_new h0 (.lst [])
        have z1 := same_new h1 (.lst [V.str (Str.ofString "load")])
        have z2 := same_new h2 (.lst [V.str (Str.ofString "store")])
        have z3 := same_new h3 (.lst [])
        have z4 := same_new h4 (.lst [V.ref b0, V.ref b1, V.ref b2, V.ref b3])
        have zA := z0.trans (z1.trans (z2.trans (z3.trans z4)))
        have SA := S2.same zA
        have n4 : b4 ≠ k := nek (((S2.same z0).same z1).same (z2.trans z3)) h4
        refine ⟨_, rfl, k, 4, n + 5, rfl, SA, by omega, by decide, by decide, fun r H3 a3 b3' sb3 S3 => ?_⟩
        obtain ⟨v, hv, hat⟩ := at_lt (xs := [V.ref b0, V.ref b1, V.ref b2, V.ref b3]) a3 (by show r < (4 : Int); exact b3')
        have nb : ∀ {b : Addr} {H0 H1 : Hp} {u : HO} {m : Nat}, Sack H0 k m → H0 b = none → b ≠ k := fun S hb => nek S hb
        have g0 : H3 b0 = some (.lst []) := sb3 _ _ (z4 _ _ (z3 _ _ (z2 _ _ (z1 _ _ upd_same)))) (nek S2 h0)
        have g1 : H3 b1 = some (.lst [V.str (Str.ofString "load")]) := sb3 _ _ (z4 _ _ (z3 _ _ (z2 _ _ upd_same))) (nek (S2.same z0) h1)
        have g2 : H3 b2 = some (.lst [V.str (Str.ofString "store")]) := sb3 _ _ (z4 _ _ (z3 _ _ upd_same)) (nek ((S2.same z0).same z1) h2)
        have g3 : H3 b3 = some (.lst []) := sb3 _ _ (z4 _ _ upd_same) (nek (((S2.same z0).same z1).same z2) h3)
        obtain ⟨b, tl, rfl, hb, tl1⟩ : ∃ (b : Addr) (tl : List Str), v = .ref b ∧ H3 b = some (.lst (tl.map V.str)) ∧ (tl = [] ∨ ∃ x ∈ kindsL, tl = [x]) := by
          rcases List.mem_cons.mp hv with z | z
          · exact ⟨b0, [], z, g0, .inl rfl⟩
          rcases List.mem_cons.mp z with z | z
          · exact ⟨b1, [Str.ofString "load"], z, g1, .inr ⟨_, by decide +kernel, rfl⟩⟩
          rcases List.mem_cons.mp z with z | z
          · exact ⟨b2, [Str.ofString "store"], z, g2, .inr ⟨_, by decide +kernel, rfl⟩⟩
          · exact ⟨b3, [], List.mem_singleton.mp z, g3, .inl rfl⟩
        have tlen : tl.length ≤ 1 := by
          rcases tl1 with z | ⟨x, _, z⟩ <;> rw [z]
          · decide
          · exact Nat.le_refl _
        refine ⟨b4, _, _, _, rfl, rfl, SqL.of (sb3 _ _ upd_same n4), hat, l2, b, _, _, rfl, rfl, sb3 _ _ (zA _ _ hl2) nl2, hb, ?_, fun l hl => ?_⟩
        · rw [List.length_map, List.length_map]
          exact Nat.le_of_lt (small1000 (by omega))
        · refine imp _ _ ⟨l, w2 ++ tl, rfl, S3.same (same_new hl _), by rw [upd_same, List.map_append], nek S3 hl, ⟨?_, ?_⟩, sb2.trans (zA.but.trans (sb3.trans (SameBut.new hl)))⟩
          · rw [List.length_append]
            omega
          · intro i x hx
            by_cases c : i < w2.length
            · rw [List.getElem?_append_left c] at hx
              have := ok2 x (List.mem_of_getElem? hx)
              exact ⟨this.1, fun z => absurd z this.2⟩
            · rw [List.getElem?_append_right (by omega)] at hx
              rcases tl1 with z | ⟨y, hy, z⟩
              · rw [z] at hx; cases hx
              · rw [z] at hx
                have hi : i - w2.length = 0 := by
                  have := (List.getElem?_eq_some_iff.mp hx).1
                  simp at this
                  omega
                rw [hi] at hx
                have hx : y = x := Option.some.inj hx
                subst hx
                refine ⟨hy, fun _ => ?_⟩
                rw [List.length_append, z]
                show i + 1 = w2.length + 1
                omega
      rintro σ H3 ⟨W, ws, rfl, S3, hW3, nWk, hWs, sb3⟩
      -- found
      refine seq_cut (fun σ' H' => ∃ (Fd : Addr), σ' = [some (.ref k), some (.ref p), some (.ref W), some (.ref Fd), none, none, none, none] ∧ Sack H' k (n + 6) ∧ H' W = some (.lst (ws.map V.str)) ∧ H' Fd = some (.lst []) ∧ Fd ≠ k ∧ W ≠ Fd ∧ H Fd = none ∧ SameBut k H H') (fun nx imp => ?_) ?_
      · refine ⟨(by show 0 ≤ sizeLine; decide), fun b hb => ?_⟩
        have sB := same_new hb (.lst [])
        exact imp _ _ ⟨b, rfl, S3.same sB, sB _ _ hW3, upd_same, nek S3 hb, ne_of_none hW3 hb, sb3.free hb (nek S3 hb), sb3.trans sB.but⟩
      rintro σ H4 ⟨Fd, rfl, S4, hW4, hF4, nFk, nWF, hF0, sb4⟩
      have T0 := hT
      -- the loop
      refine seq_cut (fun σ' H' => ∃ (xs : List V) (cs : List Ordr) (v4 v5 : Option V), σ' = [some (.ref k), some (.ref p), some (.ref W), some (.ref Fd), v4, v5, none, none] ∧ Sack H' k (n + 100) ∧ H' Fd = some (.lst xs) ∧ OrdsAt H' xs cs ∧ (∀ c ∈ cs, OrdOk o c) ∧ xs.length ≤ 7 ∧ SameBut k H H') (fun nx imp => ?_) ?_
      · refine ⟨_, rfl, W, rfl, ⟨_, SqL.of hW4⟩, for_list (K := K) (a := W) (xs := ws.map V.str) (fun i σ H5 => ∃ (xs : List V) (cs : List Ordr) (v4 v5 : Option V), σ = [some (.ref k), some (.ref p), some (.ref W), some (.ref Fd), v4, v5, none, none] ∧ Sack H5 k (n + 6 + 10 * i) ∧ H5 W = some (.lst (ws.map V.str)) ∧ H5 Fd = some (.lst xs) ∧ OrdsAt H5 xs cs ∧ (∀ c ∈ cs, OrdOk o c) ∧ (∀ c ∈ cs, kindOf c = sStore → i = ws.length) ∧ xs.length ≤ i ∧ SameBut k H H5)
          ⟨[], [], none, none, rfl, S4, hW4, hF4, .nil, (fun c hc => nomatch hc), (fun c hc => nomatch hc), Nat.le_refl _, sb4⟩ (fun i σ H5 _ z => by obtain ⟨_, _, _, _, _, _, z, _⟩ := z; exact SqL.of z) ?_ ?_⟩
        · rintro i x σ H5 hx ⟨xs, cs, v4, v5, rfl, S5, hW5, hF5, hX5, hK5, hS5, hl5, sb5⟩
          have hi : i < ws.length := by have := (List.getElem?_eq_some_iff.mp hx).1; rw [List.length_map] at this; exact this
          rw [List.getElem?_map, List.getElem?_eq_getElem hi] at hx
          have hx : V.str ws[i] = x := Option.some.inj hx
          subst hx
          obtain ⟨wk, wl⟩ := hWs.ok i ws[i] (List.getElem?_eq_getElem hi)
          have i7 : i < 7 := by have := hWs.len; omega
          have hS5 : ∀ c ∈ cs, ¬ kindOf c = sStore := fun c hc z => by have := hS5 c hc z; omega
          refine seq_cut (fun σ' H' => ∃ (a : Addr) (c : Ordr), σ' = [some (.ref k), some (.ref p), some (.ref W), some (.ref Fd), some (.str ws[i]), some (.ref a), none, none] ∧ Sack H' k (n + 6 + 10 * i + 10) ∧ H' W = some (.lst (ws.map V.str)) ∧ H' Fd = some (.lst xs) ∧ OrdsAt H' xs cs ∧ Tp H' (.ref a) (ordD c) ∧ OrdOk o c ∧ kindOf c = ws[i] ∧ SameBut k H H') (fun nx2 imp2 => ?_) ?_
          · refine ⟨_, rfl, _, rfl, _, rfl, k, p, n + 6 + 10 * i, o, ws[i], rfl, S5, by omega, hT.keep (S0.keepT sb5), hO, wk, fun a c H6 sb6 S6 T6 O6 e6 => ?_⟩
            exact imp2 _ _ ⟨a, c, rfl, S6, sb6 _ _ hW5 nWk, sb6 _ _ hF5 nFk, hX5.keep (S5.keepT sb6), T6, O6, e6, sb5.trans sb6⟩
          rintro σ H6 ⟨a, c, rfl, S6, hW6, hF6, hX6, T6, O6, e6, sb6⟩
          have app : ∀ H7, Same H6 H7 → tBM K "list" rAppend (tVar 3) (tCons (tVar 5) tNil) [some (.ref k), some (.ref p), some (.ref W), some (.ref Fd), some (.str ws[i]), some (.ref a), none, none] H7 fun _ H8 => ∃ (xs : List V) (cs : List Ordr) (v4 v5 : Option V), [some (V.ref k), some (.ref p), some (.ref W), some (.ref Fd), some (.str ws[i]), some (.ref a), none, none] = [some (.ref k), some (.ref p), some (.ref W), some (.ref Fd), v4, v5, none, none] ∧ Sack H8 k (n + 6 + 10 * (i + 1)) ∧ H8 W = some (.lst (ws.map V.str)) ∧ H8 Fd = some (.lst xs) ∧ OrdsAt H8 xs cs ∧ (∀ c ∈ cs, OrdOk o c) ∧ (∀ c ∈ cs, kindOf c = sStore → i + 1 = ws.length) ∧ xs.length ≤ i + 1 ∧ SameBut k H H8 := by
            intro H7 s7
            have k7 := KeepT.of s7
            have hF7 := s7 _ _ hF6
            refine ⟨_, rfl, .inl ⟨rfl, _, SqL.of hF7⟩, _, rfl, Fd, _, _, rfl, rfl, hF7, small1000 (by omega), ?_⟩
            have kU : KeepT H7 (upd H7 Fd (.lst (xs ++ [V.ref a]))) := KeepT.upd hF7
            refine ⟨xs ++ [.ref a], cs ++ [c], _, _, rfl, ((S6.same s7).updK nFk).mono (by omega), ?_, upd_same, OrdsAt.snoc ((ordAt_of hO O6 (T6.keep k7)).keep kU) ((hX6.keep k7).keep kU), ?_, ?_, ?_, (sb6.trans s7.but).updNew hF0⟩
            · rw [upd_ne nWF]
              exact s7 _ _ hW6
            · intro c' hc'
              rcases List.mem_append.mp hc' with y | y
              · exact hK5 c' y
              · rw [List.mem_singleton.mp y]; exact O6
            · intro c' hc' z
              rcases List.mem_append.mp hc' with y | y
              · exact absurd z (hS5 c' y)
              · rw [List.mem_singleton.mp y, e6] at z
                exact wl z
            · rw [List.length_append]
              show xs.length + 1 ≤ i + 1
              omega
          refine ⟨_, rfl, a, c, o, rfl, T6, O6, fun v H7 s7 nn np => ⟨rfl, _, rfl, ?_⟩⟩
          refine ite2 (fun z => iteT (app H7 s7)) (fun z => ?_)
          have ns : ¬ kindOf c = sStore := fun y => z (decide_eq_true (nn y))
          have k7 := KeepT.of s7
          refine ⟨_, rfl, a, c, o, rfl, T6.keep k7, O6, fun v2 H8 s8 nn2 np2 => ?_⟩
          obtain ⟨tv, okv⟩ := np2 ns
          have s78 := s7.trans s8
          have hF8 := s78 _ _ hF6
          refine ⟨_, rfl, Fd, rfl, ⟨_, SqL.of hF8⟩, fun D2 hD2 => ?_⟩
          have hXl := hX6.length
          refine lc_list (K := K) (a := Fd) (xs := xs) (fun j H9 => ∃ vs : List V, H9 D2 = some (.lst vs) ∧ vs.length = j ∧ TpAll H9 vs ((cs.take j).map fun c => plcD (tgt c)) ∧ Same H8 H9)
            ⟨[], upd_same, rfl, .nil, same_new hD2 _⟩ (fun j H9 _ y => by obtain ⟨_, _, _, _, y⟩ := y; exact SqL.of (y _ _ hF8)) ?_ ?_
          · rintro j y H9 hy ⟨vs, f1, f2, f3, s9⟩
            obtain ⟨d, hd, od⟩ := hX6.get hy
            have hj := (List.getElem?_eq_some_iff.mp hy).1
            obtain ⟨ad, rfl⟩ := ord_ref od.tp
            have dm := List.mem_of_getElem? hd
            refine ⟨rfl, _, rfl, ad, d, o, rfl, od.tp.keep (KeepT.of (s78.trans s9)), hK5 d dm, fun v3 HA sA nA pA => ?_⟩
            obtain ⟨t3, _⟩ := pA (hS5 d dm)
            have f1' := sA _ _ f1
            have kU : KeepT HA (upd HA D2 (.lst (vs ++ [v3]))) := KeepT.upd f1'
            refine ⟨_, f1', small1000 (by omega), vs ++ [v3], upd_same, ?_, ?_, ?_⟩
            · rw [List.length_append, f2]; rfl
            · rw [List.take_add_one, hd, List.map_append]
              exact TpAll.snocK (t3.keep kU) (f3.keepK ((KeepT.of sA).trans kU))
            · intro b u e
              rw [upd_ne (ne_of_none e hD2)]
              exact sA _ _ (s9 b u e)
          · rintro H9 ⟨vs, f1, f2, f3, s9⟩
            refine ⟨D2, vs, _, _, rfl, SqL.of f1, f3, tv.keep (KeepT.of s9), ?_, shaped_plc hO okv, _, rfl, ?_⟩
            · intro e he
              obtain ⟨d, hd, rfl⟩ := List.mem_map.mp he
              have hd2 : d ∈ cs := List.mem_of_mem_take hd
              refine shaped_plc hO ?_
              have := toPl_ok (hK5 d hd2) (tgt d) (by unfold toPl; rw [if_neg (hS5 d hd2)]; exact List.mem_singleton.mpr rfl)
              exact this
            · have s6 := s78.trans s9
              refine iteB (fun _ => app H9 s6) (fun _ => ?_)
              exact ⟨xs, cs, _, _, rfl, (S6.same s6).mono (by omega), s6 _ _ hW6, s6 _ _ hF6, hX6.keep (KeepT.of s6), hK5, fun c' hc' z => absurd z (hS5 c' hc'), by omega, sb6.trans s6.but⟩
        · rintro σ H5 ⟨xs, cs, v4, v5, rfl, S5, hW5, hF5, hX5, hK5, hS5, hl5, sb5⟩
          have := hWs.len
          rw [List.length_map] at S5 hl5
          exact imp _ _ ⟨xs, cs, v4, v5, rfl, S5.mono (by omega), hF5, hX5, hK5, by omega, sb5⟩
      rintro σ H5 ⟨xs, cs, v4, v5, rfl, S5, hF5, hX5, hK5, hl5, sb5⟩
      refine ⟨_, rfl, Fd, xs, cs.map keyK, rfl, SqL.of hF5, by rw [List.length_map, hX5.length], ?_, ?_⟩
      · intro i x kv hx hkv H6 Q1 s6 kk
        obtain ⟨c, hc, oc⟩ := hX5.get hx
        rw [List.getElem?_map, hc] at hkv
        have hkv : keyK c = kv := Option.some.inj hkv
        subst hkv
        have oc2 := oc.keep (KeepT.of s6)
        obtain ⟨a, rfl⟩ := ord_ref oc.tp
        exact ⟨a, c, rfl, oc2.tp, oc.fit, oc.kind, fun t H7 _ s7 ht => kk t (ordT c) H7 s7 ht rfl⟩
      · intro D0 H6 ys s6 hD sr
        have sD := same_new hD (.lst ys)
        have per : ys.Perm xs := by
          obtain ⟨ps, hp, _, _, e⟩ := sr
          rw [e]
          have := hp.map Prod.snd
          rw [List.map_snd_zip (by rw [List.length_map, hX5.length]; exact Nat.le_refl _)] at this
          exact this
        refine ⟨D0, ys, rfl, .inl ⟨SqL.of upd_same, fun t ht => ?_⟩⟩
        have sT : Same _ (upd (upd H6 D0 (.lst ys)) t (.tup ys)) := same_new ht _
        have sAll := s6.trans (sD.trans sT)
        obtain ⟨cs', pc, pr⟩ := paired_permK per (OrdsM.ofK (o := o) hX5 hK5)
        exact q t ys cs' _ (sb5.trans sAll.but) (S5.same sAll) upd_same (OrdsM.keep (KeepT.of sAll) pr) (by rw [per.length_eq]; exact hl5)
end
end My
set_option Elab.async false
set_option linter.all false
set_option maxRecDepth 100000
set_option maxHeartbeats 1000000
namespace My
open PySem L2 TL Sx
/-- what a row says of the next one -/
inductive Onw where
  | fin
  | go (j : Int)
  | test (c : Plc) (i j : Int)
def onwD : Onw → PyData
  | .fin => .tuple [.str "end"]
  | .go j => .tuple [.str "go", .int j]
  | .test c i j => .tuple [.str "test", plcD c, .int i, .int j]
/-- the onward of row number k among m rows -/
def OnwOk (o : OwnD) (m k : Int) : Onw → Prop
  | .fin => True
  | .go j => k < j ∧ j < m
  | .test c i j => PlcOk o c ∧ (k < i ∧ i < m) ∧ k < j ∧ j < m
structure RowAt (o : OwnD) (H : Hp) (v : V) (r : List Ordr × Onw) : Prop where
  at_ : ∃ (a t b : Addr) (ys : List V), v = .ref a ∧ H a = some (.tup [.ref t, .ref b]) ∧ H t = some (.tup ys) ∧ OrdsM o H r.1 ys ∧ Tp H (.ref b) (onwD r.2)
theorem RowAt.keep {o : OwnD} {H H' : Hp} {v : V} {r : List Ordr × Onw} (h : RowAt o H v r) (k : KeepT H H') : RowAt o H' v r := by
  obtain ⟨a, t, b, ys, h1, h2, h3, h4, h5⟩ := h.at_
  exact ⟨a, t, b, ys, h1, k _ _ h2, k _ _ h3, h4.keep k, h5.keep k⟩
abbrev Prog := List (List Ordr × Onw)
/-- the rows of a program, in a list or a tuple -/
def RowsAt (o : OwnD) (H : Hp) (g : Prog) (vs : List V) : Prop := Paired (fun r v => RowAt o H v r) g vs
theorem RowsAt.keep {o : OwnD} {H H' : Hp} {g : Prog} {vs : List V} (h : RowsAt o H g vs) (k : KeepT H H') : RowsAt o H' g vs := Paired.mapP h fun _ _ z => z.keep k
theorem paired_snocK {α β : Type} {R : α → β → Prop} {x : α} {y : β} (h : R x y) : ∀ {xs : List α} {ys : List β}, Paired R xs ys → Paired R (xs ++ [x]) (ys ++ [y])
  | _, _, .nil => .cons h .nil
  | _, _, .cons a r => .cons a (paired_snocK h r)
theorem paired_getK {α β : Type} {R : α → β → Prop} : ∀ {xs : List α} {ys : List β} {i : Nat} {x : α}, Paired R xs ys → xs[i]? = some x → ∃ y, ys[i]? = some y ∧ R x y
  | _, _, _, _, .nil, e => by simp at e
  | _, _, 0, _, .cons h _, e => by
    simp at e
    subst e
    exact ⟨_, rfl, h⟩
  | _, _, i + 1, v, .cons _ t, e => by
    obtain ⟨c, h1, h2⟩ := paired_getK (i := i) (x := v) t (by simpa using e)
    exact ⟨c, by simpa using h1, h2⟩
def ProgOk (o : OwnD) (m : Int) (g : Prog) : Prop := ∀ i r, g[i]? = some r → OnwOk o m (i : Nat) r.2
end My
set_option Elab.async false
set_option linter.all false
set_option maxRecDepth 100000
set_option maxHeartbeats 4000000
namespace My
open PySem L2 TL Sx
theorem shaped_of {d : PyData} (h1 : PyData.canLay0 d = true) (h2 : PyData.depth d ≤ 60) : SeqAt.shaped d = true := by
  unfold SeqAt.shaped
  rw [h1, decide_eq_true (show PyData.depth d ≤ 64 by omega)]
  rfl
theorem TpAll.at2 {H : Hp} : ∀ {vs : List V} {ds : List PyData} {i : Nat} {v : V}, TpAll H vs ds → vs[i]? = some v → ∃ d, ds[i]? = some d ∧ Tp H v d
  | _, _, _, _, .nil, e => by simp at e
  | _, _, 0, _, .cons h _, e => by simp at e; subst e; exact ⟨_, rfl, h⟩
  | _, _, i + 1, v, .cons _ t, e => by
    obtain ⟨d, h1, h2⟩ := TpAll.at2 (i := i) (v := v) t (by simpa using e)
    exact ⟨d, by simpa using h1, h2⟩
theorem OrdsM.all {o : OwnD} {H : Hp} : ∀ {cs : List Ordr} {ys : List V}, OrdsM o H cs ys → ∀ c ∈ cs, OrdOk o c
  | _, _, .cons h t, c, hc => by
    rcases List.mem_cons.mp hc with e | hc
    · rw [e]; exact h.2
    · exact OrdsM.all t c hc
end My
set_option Elab.async false
set_option linter.all false
set_option maxRecDepth 100000
set_option maxHeartbeats 4000000
namespace My
open PySem L2 TL Sx
theorem go_end : ¬ Str.ofString "go" = Str.ofString "end" ∧ ¬ Str.ofString "test" = Str.ofString "end" ∧ ¬ Str.ofString "test" = Str.ofString "go" ∧ ¬ Str.ofString "end" = Str.ofString "go" ∧ ¬ Str.ofString "end" = Str.ofString "test" ∧ ¬ Str.ofString "go" = Str.ofString "test" := by decide +kernel
theorem onw_fin {H : Hp} {b : Addr} (h : Tp H (.ref b) (onwD .fin)) : H b = some (.tup [.str (Str.ofString "end")]) := by
  have h : Tp H (.ref b) (.tuple [.str "end"]) := h
  cases h with | tup e r => cases r with | cons h0 r => cases h0; cases r; exact e
theorem onw_go {H : Hp} {b : Addr} {j : Int} (h : Tp H (.ref b) (onwD (.go j))) : H b = some (.tup [.str (Str.ofString "go"), .int j]) := by
  have h : Tp H (.ref b) (.tuple [.str "go", .int j]) := h
  cases h with | tup e r => cases r with | cons h0 r => cases h0; cases r with | cons h1 r => cases h1; cases r; exact e
theorem onw_test {H : Hp} {b : Addr} {c : Plc} {i j : Int} (h : Tp H (.ref b) (onwD (.test c i j))) : ∃ a, H b = some (.tup [.str (Str.ofString "test"), .ref a, .int i, .int j]) ∧ Tp H (.ref a) (plcD c) := by
  have h : Tp H (.ref b) (.tuple [.str "test", plcD c, .int i, .int j]) := h
  cases h with | tup e r => cases r with | cons h0 r => cases h0; cases r with | cons h1 r => cases r with | cons h2 r => cases h2; cases r with | cons h3 r =>
    cases h3
    cases r
    obtain ⟨a, _, rfl, _⟩ := plc_ref h1
    exact ⟨a, e, h1⟩
theorem atThree {a b c d : V} {xs : List V} : atI (a :: b :: c :: d :: xs) 3 = some d := atI_nat (xs := a :: b :: c :: d :: xs) (j := 3) rfl
structure ProgAt (o : OwnD) (H : Hp) (gA : Addr) (g : Prog) : Prop where
  at_ : ∃ vs, H gA = some (.tup vs) ∧ RowsAt o H g vs
theorem ProgAt.keep {o : OwnD} {H H' : Hp} {gA : Addr} {g : Prog} (h : ProgAt o H gA g) (k : KeepT H H') : ProgAt o H' gA g := by
  obtain ⟨vs, h1, h2⟩ := h.at_
  exact ⟨vs, k _ _ h1, h2.keep k⟩
theorem ProgAt.row {o : OwnD} {H : Hp} {gA : Addr} {g : Prog} (h : ProgAt o H gA g) {a : Nat} {cs : List Ordr} {u : Onw} (e : g[a]? = some (cs, u)) :
    ∃ (vs : List V) (r t b : Addr) (ys : List V), H gA = some (.tup vs) ∧ atI vs (a : Nat) = some (.ref r) ∧ H r = some (.tup [.ref t, .ref b]) ∧ H t = some (.tup ys) ∧ OrdsM o H cs ys ∧ Tp H (.ref b) (onwD u) := by
  obtain ⟨vs, h1, h2⟩ := h.at_
  obtain ⟨v, hv, hr⟩ := paired_getK h2 e
  obtain ⟨r, t, b, ys, rfl, z1, z2, z3, z4⟩ := hr.at_
  exact ⟨vs, r, t, b, ys, h1, atI_nat hv, z1, z2, z3, z4⟩
end My
set_option Elab.async false
set_option linter.all false
set_option maxRecDepth 100000
set_option maxHeartbeats 1000000
namespace My
open PySem L2 TL Sx
def tgts : Onw → List Int
  | .fin => []
  | .go j => [j]
  | .test _ i j => [i, j]
def renO (f : Int → Int) : Onw → Onw
  | .fin => .fin
  | .go j => .go (f j)
  | .test c i j => .test c (f i) (f j)
theorem tgts_ren (f : Int → Int) (u : Onw) : tgts (renO f u) = (tgts u).map f := by cases u <;> rfl
def PlcT (o : OwnD) (u : Onw) : Prop := ∀ c i j, u = .test c i j → PlcOk o c
theorem PlcT.ren {o : OwnD} {u : Onw} (h : PlcT o u) (f : Int → Int) : PlcT o (renO f u) := by
  cases u with
  | fin => intro c i j e; cases e
  | go j => intro c i j e; cases e
  | test c i j =>
    intro c' i' j' e
    cases e
    exact h c i j rfl
theorem OnwOk.plcT {o : OwnD} {m k : Int} {u : Onw} (h : OnwOk o m k u) : PlcT o u := by
  intro c i j e
  subst e
  exact h.1
theorem OnwOk.tg {o : OwnD} {m k : Int} {u : Onw} (h : OnwOk o m k u) : ∀ t ∈ tgts u, k < t ∧ t < m := by
  intro t ht
  cases u with
  | fin => cases ht
  | go j =>
    rw [List.mem_singleton.mp ht]
    exact h
  | test c i j =>
    rcases List.mem_cons.mp ht with z | z
    · rw [z]; exact h.2.1
    · rw [List.mem_singleton.mp z]; exact h.2.2
/-- the rows of g that are come to, as rows of a store -/
structure InStore (g rs : Prog) (G : Int → Int) (S : Int → Prop) : Prop where
  row : ∀ (i : Nat) (cs : List Ordr) (u : Onw), S i → g[i]? = some (cs, u) → 0 ≤ G i ∧ rs[(G i).toNat]? = some (cs, renO G u) ∧ ∀ t ∈ tgts u, S t
/-- the rows of a program from lo on, as kinds -/
def Maps (g ks : Prog) (F : Int → Int) (lo : Nat) : Prop := ∀ (i : Nat) (cs : List Ordr) (u : Onw), lo ≤ i → g[i]? = some (cs, u) → 0 ≤ F i ∧ ks[(F i).toNat]? = some (cs, renO F u)
def KOk (ks : Prog) : Prop := ∀ (j : Nat) (r : List Ordr × Onw), ks[j]? = some r → ∀ t ∈ tgts r.2, 0 ≤ t ∧ t < j
theorem KOk.lt {ks : Prog} (h : KOk ks) {r : List Ordr × Onw} (hr : r ∈ ks) : ∀ t ∈ tgts r.2, 0 ≤ t ∧ t < ks.length := fun t ht => by
  obtain ⟨j, hj⟩ := List.getElem?_of_mem hr
  have := h j r hj t ht
  have := (List.getElem?_eq_some_iff.mp hj).1
  omega
theorem Maps.more {g ks : Prog} {F : Int → Int} {lo : Nat} (h : Maps g ks F lo) (l : Prog) : Maps g (ks ++ l) F lo := fun i cs u hi e => by
  obtain ⟨h1, h2⟩ := h i cs u hi e
  exact ⟨h1, by rw [List.getElem?_append_left (List.getElem?_eq_some_iff.mp h2).1]; exact h2⟩
theorem Maps.lt {g ks : Prog} {F : Int → Int} {lo : Nat} (h : Maps g ks F lo) {i : Nat} (hi : lo ≤ i) (hl : i < g.length) : 0 ≤ F i ∧ F i < ks.length := by
  obtain ⟨h1, h2⟩ := h i _ _ hi (List.getElem?_eq_getElem hl)
  have := (List.getElem?_eq_some_iff.mp h2).1
  exact ⟨h1, by omega⟩
theorem KOk.snoc {ks : Prog} (h : KOk ks) {r : List Ordr × Onw} (hr : ∀ t ∈ tgts r.2, 0 ≤ t ∧ t < ks.length) : KOk (ks ++ [r]) := by
  intro j q hq t ht
  by_cases c : j < ks.length
  · rw [List.getElem?_append_left c] at hq
    exact h j q hq t ht
  · rw [List.getElem?_append_right (by omega)] at hq
    have ej : j - ks.length = 0 := by
      have := (List.getElem?_eq_some_iff.mp hq).1
      simp at this
      omega
    rw [ej] at hq
    have hq : r = q := Option.some.inj hq
    rw [← hq] at ht
    have := hr t ht
    omega
def pos (N : List Int) (k : Int) : Int := ((N.idxOf k : Nat) : Int)
structure NOk (ks : Prog) (N : List Int) : Prop where
  nd : N.Nodup
  rng : ∀ k ∈ N, 0 ≤ k ∧ k < ks.length
/-- the rows that are laid -/
def laid (ks : Prog) (N : List Int) : Prog := N.map fun k => ((ks.getD k.toNat ([], .fin)).1, renO (pos N) (ks.getD k.toNat ([], .fin)).2)
end My
set_option Elab.async false
set_option linter.all false
set_option maxRecDepth 100000
set_option maxHeartbeats 4000000
namespace L2
open PySem PySem.Spec PyProof.Rows
namespace HW
open HT
section
variable {prog : Program} {w : World} {A : Around} {E : Value → Shared → Prop} {s : Shared}
theorem getItem_tuple_whole {t sl : Addr} {its : Array Value} {vl vu : Value} {lo hi : Option Int} {Q : Value → Shared → Prop} (ht : IsTup s.heap t its) (hs : s.heap.IsSliceOf sl vl vu .none) (pl : IsPart vl lo) (pu : IsPart vu hi)
    (hw : sIx its.size 0 lo = 0 ∧ sIx its.size its.size hi = its.size) (h : Q (.ref t) s) : wpAny (model prog w) A (getItem (.ref t) (.ref sl)) Q E s := by
  obtain ⟨os, hos, hcs, hds⟩ := id hs
  have hTs : s.TypeIs (.ref sl) "slice" := ⟨os, hos, hcs⟩
  unfold getItem
  try with_reducible refine wpAny_holding ?_
  first | refine wpAny_bind (wpAny_pure ?_) | skip
  refine wpAny_bind (wpAny_sequenceKey ht.typeIs (by decide) ?_)
  refine wpAny_bind (wpAny_callSpecial?_slot (name := Str.ofString "__getitem__") ht.typeIs PyProof.Rows.slot_tuple_getitem
    (wpAny_call_entry PyProof.Rows.slot_tuple_getitem ht.typeIs entry_tuple_getitem ?_ (args_tuple_getitem _ _)))
  show wpAny _ _ (Builtin.Tuple.tupleItemsOf (.ref t) >>= _) _ _ s
  refine wpAny_bind (tupleItemsOf_ ht ?_)
  refine wpAny_bind (wpAny_typeOf hTs ?_)
  rw [if_pos (by decide)]
  refine wpAny_bind (sliceApplied_gen hs pl pu ?_)
  have hyes : ((((sIx its.size 0 lo : Nat) : Int) == 0 && (1 : Int) == 1 && (sIx its.size its.size hi - sIx its.size 0 lo) == its.size) = true) := by
    rw [hw.1, hw.2]
    simp
  show wpAny _ _ (if (((sIx its.size 0 lo : Nat) : Int) == 0 && (1 : Int) == 1 && (sIx its.size its.size hi - sIx its.size 0 lo) == its.size) = true then _ else _) _ _ s
  rw [if_pos hyes]
  first
    | (refine wpAny_bind (m := Builtin.Tuple.tupleIsExact _) ?_
       unfold Builtin.Tuple.tupleIsExact
       refine wpAny_bind (wpAny_typeOf ht.typeIs (wpAny_pure ?_))
       simp only [beq_self_eq_true, if_true]
       first
         | exact wpAny_bind (wpAny_rule (wpAny_bind (wpAny_pure (wpAny_pure ⟨_, rfl, wpAny_pure h⟩))))
         | exact wpAny_bind (wpAny_rule (wpAny_pure ⟨_, rfl, wpAny_pure h⟩))
         | exact wpAny_bind (wpAny_rule (wpAny_bind (wpAny_pure ⟨_, rfl, wpAny_pure h⟩))))
end
end HW
section
variable {X : Cx}
/-- t[lo:hi] that is the whole of t: t itself -/
theorem sl_tupW : SlR X (fun x lo hi H Q => ∃ a xs, x = .ref a ∧ SqT X.K H a xs ∧ (HT.sIx xs.length 0 lo = 0 ∧ HT.sIx xs.length xs.length hi = xs.length) ∧ Q (.ref a) H) := by
  intro pins s σ H x v vl vu lo hi sl Q I rx hs pl pu h
  obtain ⟨a, xs, rfl, hx, hw, q⟩ := h
  cases rx
  obtain ⟨its, r, ht, hz⟩ := I.tuple hx
  have hlen : its.toArray.size = xs.length := by rw [List.size_toArray]; exact r.length.symm
  refine ⟨"tuple", _, PyProof.Rows.slot_tuple_getitem.lookup, ht.typeIs, ?_⟩
  exact HW.getItem_tuple_whole ht hs pl pu (by rw [hlen]; exact hw) ⟨.ref a, H, I, rfl, q⟩
end
end L2
set_option Elab.async false
set_option linter.all false
set_option maxRecDepth 100000
set_option maxHeartbeats 4000000
namespace L2
open PySem PySem.Spec PyProof.Rows
namespace HW
open HT
section
variable {prog : Program} {w : World} {A : Around} {E : Value → Shared → Prop} {s : Shared}
theorem tuple_addW0 (l b : Addr) (items items2 : Array Value) (n n2 : Nat) (dd dd2 : Option Addr) (sl sl2 : Array (Option Value)) (hc0 : items.isEmpty = true) :
    Meets (Builtin.«tuple.__add__» ⟨[.ref l, .ref b], []⟩) (fun _ R s => s.heap.get? l = some { cls := .type "tuple", dict := dd, data := .seq items n, slots := sl } ∧ s.heap.get? b = some { cls := .type "tuple", dict := dd2, data := .seq items2 n2, slots := sl2 } ∧ R (.ok (.ret (Value.ref b))) { s with heap := s.heap, toks := s.toks }) :=
  .of_wp fun prog w A R s h => by obtain ⟨hp, g, d, tk, os⟩ := s; obtain ⟨hl, hb, h⟩ := h; have f1 := AutoSeq1.idx_int; have f2 := AutoSeq1.sub_tuple_tuple; have f3 := AutoSeq1.sub_list_list; have f4 := AutoSeq1.sub_tuple_list; have f5 := AutoSeq1.sub_list_tuple; wp_walk using wpAny_loadPart' hl, wpAny_loadPart' hb; exact ⟨_, rfl, h⟩
theorem cat_tup0 {t b : Addr} {ws : List Value} {Q : Value → Shared → Prop} (ht : IsTup s.heap t ([] : List Value).toArray) (hb : IsTup s.heap b ws.toArray)
    (h1 : Q (.ref b) s) : wpAny (model prog w) A (binaryOp .Add (.ref t) (.ref b)) Q E s := by
  obtain ⟨⟨cls, dd, data, sl⟩, ho, hc, n, hd⟩ := id ht
  obtain ⟨⟨cls2, dd2, data2, sl2⟩, ho2, hc2, n2, hd2⟩ := id hb
  simp only at hc hd hc2 hd2
  subst hc hd hc2 hd2
  exact concat_meets ⟨_, ho, rfl⟩ ⟨_, ho2, rfl⟩ noFill_tuple_add seq_tuple_add PySem.F.slot_tuple_add PySem.F.entry_tuple_add (PySem.F.args_tuple_add_2 _ _)
      (tuple_addW0 t b #[] ws.toArray n n2 dd dd2 sl sl2 rfl) ⟨ho, ho2, h1⟩
end
end HW
section
variable {X : Cx}
theorem vals_reverse : ∀ {xs : List V} {us : List Value}, Vals xs us → Vals xs.reverse us.reverse
  | _, _, .nil => .nil
  | _, _, .cons r t => by
    rw [List.reverse_cons, List.reverse_cons]
    exact (vals_reverse t).append (.cons r .nil)
end
end L2
set_option Elab.async false
set_option linter.all false
set_option maxRecDepth 100000
set_option maxHeartbeats 4000000
namespace L2
open PySem PySem.Spec PyProof.Rows
section
variable {X : Cx}
def rCatH : R2 := fun x y H Q => ∃ a b xs ys, x = .ref a ∧ y = .ref b ∧ H a = some (.tup xs) ∧ H b = some (.tup ys) ∧ xs.length + ys.length ≤ 2000 ∧ ∀ c H', Same H H' → H' c = some (.tup (xs ++ ys)) → Q (.ref c) H'
theorem op_catH : OpR X (binaryOp .Add) rCatH := by
  intro pins s σ H x y v u Q I rx ry h
  obtain ⟨a, b, xs, ys, rfl, rfl, ha, hb, hz, q⟩ := h
  have hz' : xs.length + ys.length ≤ sizeLine := Nat.le_trans hz (by decide)
  by_cases hx : xs = []
  · subst hx
    cases rx
    cases ry
    obtain ⟨its, r1, p1, _⟩ := I.tuple (SqT.of ha)
    obtain ⟨its2, r2, p2, _⟩ := I.tuple (SqT.of hb)
    cases r1
    exact HW.cat_tup0 p1 p2 ⟨.ref b, H, I, rfl, q b H (fun _ _ e => e) hb⟩
  · refine op_catT s σ H _ _ v u Q I rx ry ⟨a, b, xs, ys, rfl, rfl, SqT.of ha, SqT.of hb, hx, hz', fun e => ?_, fun _ p hp => ?_⟩
    · subst e
      exact q a H (fun _ _ e => e) (by rw [List.append_nil]; exact ha)
    · exact q p _ (fun b o e => by rw [upd_ne (ne_of_none e hp)]; exact e) upd_same
def rSlH : V → Option Int → Option Int → Hp → VK → Prop := fun x lo hi H Q => ∃ a xs, x = .ref a ∧ H a = some (.tup xs) ∧ ∀ c H', Same H H' → H' c = some (.tup (cutV xs lo hi)) → Q (.ref c) H'
theorem sl_tupH : SlR X rSlH := by
  intro pins s σ H x v vl vu lo hi sl Q I rx hs pl pu h
  obtain ⟨a, xs, rfl, hx, q⟩ := h
  by_cases hw : HT.sIx xs.length 0 lo = 0 ∧ HT.sIx xs.length xs.length hi = xs.length
  · refine sl_tupW s σ H _ v vl vu lo hi sl Q I rx hs pl pu ⟨a, xs, rfl, SqT.of hx, hw, q a H (fun _ _ e => e) ?_⟩
    unfold cutV
    rw [hw.1, hw.2, List.drop_zero, Nat.sub_zero, List.take_length]
    exact hx
  · exact sl_tup s σ H _ v vl vu lo hi sl Q I rx hs pl pu ⟨a, xs, rfl, SqT.of hx, hw, fun p hp => q p _ (fun b o e => by rw [upd_ne (ne_of_none e hp)]; exact e) upd_same⟩
end
end L2
set_option Elab.async false
set_option linter.all false
set_option maxRecDepth 100000
set_option maxHeartbeats 2000000
namespace Sx
open PySem L2
theorem paired_at {α β : Type} {R : α → β → Prop} : ∀ {xs : List α} {ys : List β} {j : Nat} {y : β}, Paired R xs ys → ys[j]? = some y → ∃ x, xs[j]? = some x ∧ R x y
  | _, _, _, _, .nil, e => by simp at e
  | _, _, 0, _, .cons r _, e => by simp at e; subst e; exact ⟨_, rfl, r⟩
  | _, _, j + 1, y, .cons _ t, e => by
    obtain ⟨x, h1, h2⟩ := paired_at (j := j) (y := y) t (by simpa using e)
    exact ⟨x, by simpa using h1, h2⟩
section
variable {prog : Program} {w : World} {A : Around} {E : Value → Shared → Prop} {s : Shared}
theorem nodup_at {α : Type} {l : List α} (h : l.Nodup) {i j : Nat} {x : α} (hi : l[i]? = some x) (hj : l[j]? = some x) : i = j :=
  (List.getElem?_inj (List.getElem?_eq_some_iff.mp hi).1 h).mp (hi.trans hj.symm)
end
end Sx
set_option Elab.async false
set_option linter.all false
set_option maxRecDepth 100000
set_option maxHeartbeats 2000000
namespace Sx
open PySem L2
section
variable {prog : Program} {w : World} {A : Around} {E : Value → Shared → Prop} {s : Shared} {d : Addr} {key : Value} {o : Obj} {es : Array DictEntry} {ep n : Nat} {ds : List PyData} {k : PyData}
end
end Sx
set_option Elab.async false
set_option linter.all false
set_option maxRecDepth 100000
set_option maxHeartbeats 2000000
namespace Sx
open PySem L2 TL My
/-- a dict by the data of its keys: the data, the key, the value -/
abbrev KVD := PyData × V × V
def DicE (w : World) (n : Nat) (p : KVD) (e : DictEntry) : Prop := RelV p.2.1 e.key ∧ e.hash = tH w n p.1 ∧ RelV p.2.2 e.val
def DicO (w : World) (n : Nat) (a : Addr) (kvs : List KVD) (h : Heap) : Prop := (a == sysModules) = false ∧ ∃ o es ep, h.get? a = some o ∧ o.ExactDict ∧ o.data = .dict es ep ∧ Paired (DicE w n) kvs es.toList
def dicO (w : World) (n : Nat) (a : Addr) (kvs : List KVD) : HO := .ext (DicO w n a kvs)
structure DKs (H : Hp) (n : Nat) (kvs : List KVD) : Prop where
  tp : ∀ p ∈ kvs, Tp H p.2.1 p.1 ∧ deepB n p.1 = true ∧ SeqAt.shaped p.1 = true
  nd : (kvs.map (·.1)).Nodup
theorem DKs.keep {H H' : Hp} {n : Nat} {kvs : List KVD} (x : DKs H n kvs) (k : KeepT H H') : DKs H' n kvs := ⟨fun p hp => ⟨(x.tp p hp).1.keep k, (x.tp p hp).2⟩, x.nd⟩
theorem DicO.obj {P : Program} {w : World} {H : Hp} {h : Heap} {n : Nat} {a : Addr} {kvs : List KVD} (x : DicO w n a kvs h) : ObjOk P w H h a (dicO w n a kvs) := by
  refine ⟨x, ?_, fun h1 h2 y g => ?_⟩
  · obtain ⟨_, o, _, _, ho, _⟩ := x
    exact ⟨o, ho⟩
  · obtain ⟨e0, o, es, ep, ho, z⟩ := y
    exact ⟨e0, o, es, ep, g o ho, z⟩
section
variable {X : Cx} {pins : List (Addr × Obj)} {σ : St} {H : Hp} {s : Shared} {n : Nat} {a : Addr} {kvs : List KVD}
end
section
variable {X : Cx} {o i value : Expr} {pos pos' : Pos} {td ty tv : TE} {n : Nat}
end
end Sx
set_option Elab.async false
set_option linter.all false
set_option maxRecDepth 100000
set_option maxHeartbeats 4000000
namespace Sx
open PySem PySem.W PyProof.Rows L2 TL My
section
variable {prog : Program} {w : World} {A : Around} {E : Value → Shared → Prop} {s : Shared} {d : Addr} {o : Obj} {es : Array DictEntry} {ep : Nat}
end
end Sx
set_option Elab.async false
set_option linter.all false
set_option maxRecDepth 100000
set_option maxHeartbeats 4000000
namespace Sx
open PySem PySem.W PyProof.Rows L2 TL My
section
variable {prog : Program} {w : World} {A : Around} {E : Value → Shared → Prop} {s : Shared} {d : Addr} {key : Value} {o : Obj} {es : Array DictEntry} {ep n : Nat} {ds : List PyData} {k : PyData}
end
section
variable {X : Cx} {n : Nat}
end
end Sx
set_option Elab.async false
set_option linter.all false
set_option maxRecDepth 100000
set_option maxHeartbeats 4000000
namespace L2
open PySem PySem.Spec PyProof.Rows
section
variable {prog : Program} {w : World} {A : Around} {E : Value → Shared → Prop} {s : Shared}
end
/-- range(n) as a thing -/
def tRng (ta : TA) : TE := fun σ H Q => ta σ H fun vs H1 => ∃ n : Nat, vs = [.int (n : Nat)] ∧ ∀ p, H1 p = none → Q (.ref p) (upd H1 p (.rng 0 n))
section
variable {X : Cx} {tg : Expr}
theorem pe_rng {a : Expr} {ta : TA} {p pos : Pos} (hg : Gl X "range") (hm : X.mg "range" = none) (ha : PA X [a] ta) (hs : starEach [a] X.env = [(false, eval a X.env)] := by rfl) : PE X (.Call (.Name "range" p) [a] [] pos) (tRng ta) := by
  intro pins s σ H Q I h
  refine wpAny_Call_Name_kw (ld_blt I hg hm boot_range ?_ (by decide) (by decide))
  refine PyProof.Rows.callWith_type1 (thn (ha pos s σ H _ I h) fun us s1 ⟨vs, H1, I1, r1, q1⟩ => ?_) hs rfl
  obtain ⟨n, rfl, q⟩ := q1
  cases r1 with
  | cons r rr =>
    cases rr
    obtain ⟨t, rfl⟩ := r
    refine call_range_1 ?_
    exact ⟨.ref s1.heap.objs.size, _, I1.laid (a := s1.heap.objs.size) (o := .rng 0 n) (t' := s1.toks + 1 + 1) (fun _ _ e => Heap.get?_push_of_some _ e) (Nat.le_refl _) ⟨_, _, _, Heap.get?_push_size _ rfl⟩, rfl, q _ (I1.hok.fresh (Nat.le_refl _))⟩
end
end L2
set_option Elab.async false
set_option linter.all false
set_option maxRecDepth 100000
set_option maxHeartbeats 4000000
namespace L2
open PySem PySem.Spec PyProof.Rows
abbrev IsZipH (h : Heap) (z TI TO T : Addr) (f1 : Bool) : Prop :=
  h.get? z = some { cls := .type "zip", dict := none, data := .fields #[rawInt T, .bool f1, .bool false, .ref TI, .ref TO], slots := #[] }
section
variable {prog : Program} {w : World} {A : Around} {E : Value → Shared → Prop} {s : Shared}
theorem held_free {z TI TO T : Addr} {f1 : Bool} {oT : Obj} {Q : Bool → Shared → Prop} (hz : IsZipH s.heap z TI TO T f1) (hT : s.heap.get? T = some oT)
    (hQ : ∀ h', IsZipH h' z TI TO T true → Heap.SameBut z s.heap h' → Q false { s with heap := h' }) : wpAny (model prog w) A (Builtin.SmallTypes.ownedTupleIsFree (.ref z)) Q E s := by
  unfold Builtin.SmallTypes.ownedTupleIsFree
  refine wpAny_bind (wpAny_field hz rfl (x := rawInt T) rfl ?_)
  show wpAny _ _ (loadIfAlive (T : Int).toNat >>= _) _ _ s
  rw [show ((T : Nat) : Int).toNat = T from rfl]
  refine wpAny_bind (PySem.W.kdx_alive hT ?_)
  show wpAny _ _ (field (.ref z) 1 >>= _) _ _ s
  refine wpAny_bind (wpAny_field hz rfl (x := .bool f1) rfl ?_)
  cases f1 with
  | true =>
    have e : ((Value.bool true) != Value.bool true) = false := by decide
    rw [e]
    simp only [Bool.false_eq_true, if_false]
    exact wpAny_pure (hQ s.heap hz (Heap.SameBut.refl z s.heap))
  | false =>
    have e : ((Value.bool false) != Value.bool true) = true := by decide
    rw [e]
    simp only [if_true]
    refine wpAny_bind (wpAny_setField_rec hz (by simp) fun h₁ hz₁ hs₁ => ?_)
    exact wpAny_pure (hQ h₁ hz₁ hs₁)
/-- where a zip stands behind k turns, its pairs held -/
def ZSt (h : Heap) (z TI TO i1 i2 l1 l2 : Addr) (k : Nat) : Prop := ((k = 0 ∧ IsZip h z TI TO .none) ∨ ∃ T f1 oT, IsZipH h z TI TO T f1 ∧ h.get? T = some oT ∧ T ≠ z ∧ T ≠ TI ∧ T ≠ TO ∧ T ≠ i1 ∧ T ≠ i2) ∧ IsPair h TI (.ref i1) (.ref i2) ∧ (∃ a b, IsPair h TO a b) ∧ h.IsListIter i1 l1 k ∧ h.IsListIter i2 l2 k
theorem ZSt.keep {h h' : Heap} {z TI TO i1 i2 l1 l2 : Addr} {k : Nat} {S : Addr} (x : ZSt h z TI TO i1 i2 l1 l2 k) (hS : S ≠ z ∧ S ≠ TI ∧ S ≠ TO ∧ S ≠ i1 ∧ S ≠ i2) (hk : ∀ b o, b ≠ S → h.get? b = some o → h'.get? b = some o) (hST : ∀ o, h.get? S = some o → ∃ o', h'.get? S = some o') : ZSt h' z TI TO i1 i2 l1 l2 k := by
  obtain ⟨h1, h2, ⟨a, b, h3⟩, h4, h5⟩ := x
  refine ⟨?_, hk _ _ hS.2.1.symm h2, ⟨a, b, hk _ _ hS.2.2.1.symm h3⟩, h4.at fun o e => hk _ o hS.2.2.2.1.symm e, h5.at fun o e => hk _ o hS.2.2.2.2.symm e⟩
  rcases h1 with ⟨e, h1⟩ | ⟨T, f1, oT, h1, hT, n⟩
  · exact .inl ⟨e, hk _ _ hS.1.symm h1⟩
  · by_cases c : T = S
    · subst c
      obtain ⟨o', e'⟩ := hST _ hT
      exact .inr ⟨_, f1, o', hk _ _ hS.1.symm h1, e', n⟩
    · exact .inr ⟨T, f1, oT, hk _ _ hS.1.symm h1, hk _ _ c hT, n⟩
def PairsAt (h : Heap) (xs ys : List Value) (k : Nat) (vs : List Value) : Prop := vs.length = k ∧ ∀ (j : Nat) (v : Value), vs[j]? = some v → ∃ t x y, v = .ref t ∧ xs[j]? = some x ∧ ys[j]? = some y ∧ IsPair h t x y
theorem ne_big {N0 : Nat} {a t : Addr} (h1 : a < N0) (h2 : N0 ≤ t) : t ≠ a := fun e => by
  subst e
  exact Nat.lt_irrefl _ (Nat.lt_of_lt_of_le h1 h2)
end
end L2
set_option Elab.async false
set_option linter.all false
set_option maxRecDepth 100000
set_option maxHeartbeats 4000000
namespace L2
open PySem PySem.Spec PyProof.Rows
theorem zip_no_len : typeLookup (.type "zip") "__len__" = pure none := by rw [typeLookup_type, builtinLookup_eq_fast]; kernel_rfl
theorem zip_no_hint : typeLookup (.type "zip") "__length_hint__" = pure none := by rw [typeLookup_type, builtinLookup_eq_fast]; kernel_rfl
section
variable {prog : Program} {w : World} {A : Around} {E : Value → Shared → Prop} {s : Shared}
/-- what is needed of a zip just made -/
structure ZNew (h : Heap) (z TI TO i1 i2 l1 l2 : Addr) : Prop where
  D : ZipApart z TI TO i1 i2 l1 l2
  hz : IsZip h z TI TO .none
  hTI : IsPair h TI (.ref i1) (.ref i2)
  hTO : IsPair h TO .none .none
  h1 : h.IsListIter i1 l1 0
  h2 : h.IsListIter i2 l2 0
end
end L2
set_option Elab.async false
set_option linter.all false
set_option maxRecDepth 100000
set_option maxHeartbeats 4000000
namespace PySem
open Sem (wp)
open AutoSeq1 (wpAny_loadPart')
section
variable {prog : Program} {w : World} {A : Around} {E : Value → Shared → Prop} {s : Shared}
end
end PySem
set_option Elab.async false
set_option linter.all false
set_option maxRecDepth 100000
set_option maxHeartbeats 4000000
namespace L2
open PySem PySem.Spec PyProof.Rows
/-- what stands at new addresses, laid over -/
def ovr (H G : Hp) : Hp := fun a => match G a with
  | some o => some o
  | none => H a
section
variable {X : Cx} {pins : List (Addr × Obj)} {σ : St} {H : Hp} {s : Shared} {h' : Heap}
theorem Inv.laidAll {G : Hp} {t' : Nat} (I : Inv X pins σ H s) (k : ∀ b u, s.heap.get? b = some u → h'.get? b = some u) (hG : ∀ a o, G a = some o → s.heap.objs.size ≤ a ∧ ObjOk X.prog X.w (ovr H G) h' a o) :
    Inv X pins σ (ovr H G) { s with heap := h', toks := t' } := by
  have old : ∀ b o, H b = some o → ovr H G b = some o := fun b o e => by
    unfold ovr
    cases g : G b with
    | none => exact e
    | some u => exact absurd (I.hok.lt e) (Nat.not_lt.mpr (hG b u g).1)
  refine I.un (t' := t') ⟨fun b o q _ _ _ => k b o q, fun b o q _ _ _ => ⟨o.slots, k b o q⟩, fun b o q n _ => ?_, fun b o q _ => ⟨o, k b o q⟩, fun b xs q => old b _ q, fun b o u q => old b _ q, fun b ps q => ⟨#[], by rw [old b _ q]; simp⟩⟩ fun b u e => ?_
  · unfold ovr
    cases g : G b with
    | none => exact n
    | some u => exact absurd (Heap.lt_size q) (Nat.not_lt.mpr (hG b u g).1)
  · unfold ovr at e
    cases g : G b with
    | none =>
      rw [g] at e
      exact (I.hok b u e).stay (fun c v _ q => k c v q) (fun c q => old c _ q) fun c xs q => old c _ q
    | some o =>
      rw [g] at e
      have e : o = u := Option.some.inj e
      subst e
      exact (hG b o g).2
end
def PairV (H : Hp) (q : V × V) (v : V) : Prop := ∃ t, v = .ref t ∧ H t = some (.tup [q.1, q.2])
section
variable {X : Cx}
end
end L2
set_option Elab.async false
set_option linter.all false
set_option maxRecDepth 100000
set_option maxHeartbeats 4000000
namespace PySem
open PySem.Spec PyProof.Rows
end PySem
namespace L2
open PySem PySem.Spec PyProof.Rows
section
variable {X : Cx}
end
end L2
set_option Elab.async false
set_option linter.all false
set_option maxRecDepth 100000
set_option maxHeartbeats 2000000
namespace My
open PySem L2 TL Sx
abbrev sNamed : Stmt := top 7
theorem _root_.L2.Room.u100 {k : Nat} {A : Around} (r : Room k A) : A.units + 100 < cLine := by have := r.un; omega
theorem _root_.L2.Room.u1 {k : Nat} {A : Around} (r : Room k A) : A.units + 1 < cLine := by have := r.un; omega
def spNamed : Sp := fun vs H Q _ => ∃ (b : Addr) (u : Onw), vs = [.ref b] ∧ Tp H (.ref b) (onwD u) ∧ ∀ c H', Same H H' → H' c = some (.tup ((tgts u).map V.int)) → Q (.ref c) H'
theorem Rd.same {H H' : Hp} {a : Addr} {u : HO} (r : Rd H a u) (s : Same H H') : Rd H' a u := by
  rcases r with r | ⟨o, r⟩
  · exact .inl (s _ _ r)
  · exact .inr ⟨o, s _ _ r⟩
section
variable {P : Program} {w : World} {K : PySem.W.Frag} {mg : Str → Option Value} {base : Heap}
theorem scNamed : FnScope ["onward"] ["onward"] (defScope sNamed) := ⟨rfl, rfl, rfl, by decide +kernel, rfl, by decide +kernel, by decide +kernel⟩
theorem ok_named {f : Addr} {fd : FuncData} (F : Fun K "rows_named" "rows_named" sNamed f fd) : FnOk P w K mg base CX0 1 f fd ["onward"] spNamed := by
  refine F.ok scNamed (fun vs H Q E h => ?_) (fun cdv A outer s H vs Q E hr1 h => ?_)
  · obtain ⟨b, u, rfl, _⟩ := h
    rfl
  · obtain ⟨b, u, rfl, hB, q⟩ := h
    refine ⟨_, pss_one (ps_ret (pe_ifExp (pt_cmpR op_eq (pe_ix ix_tup (pv 0) pe_int (fun _ _ => rfl)) pe_str (nomark _)) (pe_slice sl_tupH (pv 0) (po_some pe_int) po_none) (pe_slice sl_tupH (pv 0) (po_some pe_int) po_none))), ?read⟩
    case read =>
      cases u with
      | fin =>
        have hb := onw_fin hB
        refine ⟨_, rfl, b, _, _, _, rfl, rfl, SqT.of hb, at0, rfl, _, rfl, ?_⟩
        refine ite2 (fun z => absurd (V.str.inj (of_decide_eq_true z)) go_end.2.2.2.2.1) (fun _ => ?_)
        refine ⟨_, rfl, _, rfl, b, _, rfl, hb, fun c H' s' hc => q c H' s' ?_⟩
        exact hc
      | go j =>
        have hb := onw_go hB
        refine ⟨_, rfl, b, _, _, _, rfl, rfl, SqT.of hb, at0, rfl, _, rfl, ?_⟩
        refine ite2 (fun z => absurd (V.str.inj (of_decide_eq_true z)) go_end.2.2.2.2.2) (fun _ => ?_)
        refine ⟨_, rfl, _, rfl, b, _, rfl, hb, fun c H' s' hc => q c H' s' ?_⟩
        exact hc
      | test c i j =>
        obtain ⟨a, hb, ta⟩ := onw_test hB
        refine ⟨_, rfl, b, _, _, _, rfl, rfl, SqT.of hb, at0, rfl, _, rfl, ?_⟩
        refine ite2 (fun _ => ?_) (fun z => absurd (decide_eq_true rfl) z)
        refine ⟨_, rfl, _, rfl, b, _, rfl, hb, fun c H' s' hc => q c H' s' ?_⟩
        exact hc
end
end My
set_option Elab.async false
set_option linter.all false
set_option maxRecDepth 100000
set_option maxHeartbeats 2000000
namespace My
open PySem L2 TL Sx
theorem plcD_inj {a b : Plc} (h : plcD a = plcD b) : a = b := by
  cases a with
  | reg x =>
    cases b with
    | reg y =>
      injection h with h
      injection h with _ h
      injection h with h _
      injection h with h
      rw [h]
    | hid j =>
      injection h with h
      injection h with _ h
      injection h with h _
      cases h
  | hid i =>
    cases b with
    | reg y =>
      injection h with h
      injection h with _ h
      injection h with h _
      cases h
    | hid j =>
      injection h with h
      injection h with _ h
      injection h with h _
      injection h with h
      rw [h]
theorem plcD_tup (c : Plc) : ∃ ds, plcD c = .tuple ds := by cases c <;> exact ⟨_, rfl⟩
theorem ordD_inj5 {a b : Ordr} (h : ordD a = ordD b) : a = b := by
  cases a with
  | alu op t x y =>
    cases b with
    | alu op2 t2 x2 y2 =>
      injection h with h
      injection h with _ h
      injection h with h1 h
      injection h with h2 h
      injection h with h3 h
      injection h with h4 _
      injection h1 with h1
      rw [h1, plcD_inj h2, plcD_inj h3, plcD_inj h4]
    | put t2 n => 
      injection h with h
      exact absurd (congrArg List.length h) (by simp)
    | two kd t2 x2 =>
      injection h with h
      exact absurd (congrArg List.length h) (by simp)
  | put t n =>
    cases b with
    | alu op2 t2 x2 y2 =>
      injection h with h
      exact absurd (congrArg List.length h) (by simp)
    | put t2 n2 =>
      injection h with h
      injection h with _ h
      injection h with h1 h
      injection h with h2 _
      injection h2 with h2
      rw [plcD_inj h1, h2]
    | two kd t2 x2 =>
      injection h with h
      injection h with _ h
      injection h with h1 h
      injection h with h2 _
      obtain ⟨ds, e⟩ := plcD_tup x2
      rw [e] at h2
      cases h2
  | two kd t x =>
    cases b with
    | alu op2 t2 x2 y2 =>
      injection h with h
      exact absurd (congrArg List.length h) (by simp)
    | put t2 n2 =>
      injection h with h
      injection h with _ h
      injection h with h1 h
      injection h with h2 _
      obtain ⟨ds, e⟩ := plcD_tup x
      rw [e] at h2
      cases h2
    | two kd2 t2 x2 =>
      injection h with h
      injection h with h0 h
      injection h with h1 h
      injection h with h2 _
      injection h0 with h0
      rw [h0, plcD_inj h1, plcD_inj h2]
theorem map_inj {α β : Type} {f : α → β} (hf : ∀ a b, f a = f b → a = b) : ∀ {xs ys : List α}, xs.map f = ys.map f → xs = ys
  | [], [], _ => rfl
  | [], _ :: _, h => by cases h
  | _ :: _, [], h => by cases h
  | x :: xs, y :: ys, h => by
    injection h with h1 h2
    rw [hf _ _ h1, map_inj hf h2]
def rowD (r : List Ordr × Onw) : PyData := .tuple [.tuple (r.1.map ordD), onwD r.2]
theorem RowAt.tp {o : OwnD} {H : Hp} {v : V} {r : List Ordr × Onw} (h : RowAt o H v r) : Tp H v (rowD r) := by
  obtain ⟨a, t, b, ys, rfl, h1, h2, h3, h4⟩ := h.at_
  have all : ∀ {cs : List Ordr} {ys : List V}, OrdsM o H cs ys → TpAll H ys (cs.map ordD) := by
    intro cs ys m
    induction m with
    | nil => exact .nil
    | cons r _ ih => exact .cons r.1 ih
  exact .tup h1 (.cons (.tup h2 (all h3)) (.cons h4 .nil))
theorem deep_s (n : Nat) (x : Str) : deepB n (.str x) = true := by cases n <;> rfl
theorem deep_i (n : Nat) (i : Int) : deepB n (.int i) = true := by cases n <;> rfl
theorem deep_t {n : Nat} {ds : List PyData} (h : ∀ d ∈ ds, deepB n d = true) : deepB (n + 1) (.tuple ds) = true := by
  show ds.all (deepB n) = true
  exact List.all_eq_true.mpr h
theorem deep_plc5 (n : Nat) (c : Plc) : deepB (n + 1) (plcD c) = true := by
  cases c with
  | reg x =>
      refine deep_t fun d hd => ?_
      rcases List.mem_cons.mp hd with z | z
      · rw [z]; exact deep_s _ _
      · rw [List.mem_singleton.mp z]; exact deep_s _ _
  | hid j =>
      refine deep_t fun d hd => ?_
      rcases List.mem_cons.mp hd with z | z
      · rw [z]; exact deep_s _ _
      · rw [List.mem_singleton.mp z]; exact deep_i _ _
theorem deep_ord5 (n : Nat) (c : Ordr) : deepB (n + 2) (ordD c) = true := by
  rw [ordD_eq]
  refine deep_t fun d hd => ?_
  obtain ⟨p, _, rfl⟩ := List.mem_map.mp hd
  cases p with
  | plc c => exact deep_plc5 n c
  | txt x => exact deep_s _ _
  | num m => exact deep_i _ _
theorem deep_onw (n : Nat) (u : Onw) : deepB (n + 2) (onwD u) = true := by
  cases u with
  | fin => exact deep_t fun d hd => by rw [List.mem_singleton.mp hd]; exact deep_s _ _
  | go j =>
      refine deep_t fun d hd => ?_
      rcases List.mem_cons.mp hd with z | z
      · rw [z]; exact deep_s _ _
      · rw [List.mem_singleton.mp z]; exact deep_i _ _
  | test c i j =>
      refine deep_t fun d hd => ?_
      rcases List.mem_cons.mp hd with z | z
      · rw [z]; exact deep_s _ _
      rcases List.mem_cons.mp z with z | z
      · rw [z]; exact deep_plc5 n c
      rcases List.mem_cons.mp z with z | z
      · rw [z]; exact deep_i _ _
      · rw [List.mem_singleton.mp z]; exact deep_i _ _
theorem deep_row (r : List Ordr × Onw) : deepB 4 (rowD r) = true := by
  show ((r.1.map ordD).all (deepB 2) && (deepB 3 (onwD r.2) && true)) = true
  rw [deep_onw 1, Bool.and_true, Bool.and_true, List.all_eq_true]
  intro d hd
  obtain ⟨c, _, rfl⟩ := List.mem_map.mp hd
  exact deep_ord5 0 c
theorem strOk_w : PyData.strOk (Str.ofString "end") = true ∧ PyData.strOk (Str.ofString "go") = true ∧ PyData.strOk (Str.ofString "test") = true := by decide +kernel
theorem lay_ords {o : OwnD} (hO : OwnOk o) : ∀ {cs : List Ordr}, (∀ c ∈ cs, OrdOk o c) → PyData.canLayAll0 (cs.map ordD) = true ∧ PyData.depthAll (cs.map ordD) ≤ 2
  | [], _ => ⟨rfl, by show 0 ≤ 2; decide⟩
  | c :: cs, h => by
    obtain ⟨a1, a2⟩ := lay_ord hO (h c List.mem_cons_self)
    obtain ⟨b1, b2⟩ := lay_ords hO (cs := cs) fun d hd => h d (List.mem_cons_of_mem _ hd)
    refine ⟨?_, ?_⟩
    · show (PyData.canLay0 (ordD c) && PyData.canLayAll0 (cs.map ordD)) = true
      rw [a1, b1]
      rfl
    · show max (PyData.depth (ordD c)) (PyData.depthAll (cs.map ordD)) ≤ 2
      omega
/-- the kinds found so far, in their dict -/
structure KndAt (w : World) (o : OwnD) (H : Hp) (kA : Addr) (ks : Prog) : Prop where
  at_ : ∃ kvs : List KVD, H kA = some (dicO w 4 kA kvs) ∧ DKs H 4 kvs ∧ kvs.length = ks.length ∧ ∀ (j : Nat) (p : KVD), kvs[j]? = some p → ∃ r, ks[j]? = some r ∧ p.1 = rowD r ∧ p.2.2 = .int (j : Nat) ∧ RowAt o H p.2.1 r
theorem KndAt.keep {w : World} {o : OwnD} {H H' : Hp} {kA : Addr} {ks : Prog} (h : KndAt w o H kA ks) (k : KeepT H H') (e : ∀ x, H kA = some x → H' kA = some x) : KndAt w o H' kA ks := by
  obtain ⟨kvs, h1, h2, h3, h4⟩ := h.at_
  refine ⟨kvs, e _ h1, h2.keep k, h3, fun j p hp => ?_⟩
  obtain ⟨r, e1, e2, e3, e4⟩ := h4 j p hp
  exact ⟨r, e1, e2, e3, e4.keep k⟩
end My
set_option Elab.async false
set_option linter.all false
set_option maxRecDepth 100000
set_option maxHeartbeats 2000000
namespace My
open PySem L2 TL Sx
theorem KeepT.updD {H : Hp} {a : Addr} {o o' : HO} (h : H a = some o) (hn : ∀ xs, o ≠ .tup xs) : KeepT H (L2.upd H a o') := fun b xs e => by
  have : b ≠ a := fun z => by
    rw [z, h] at e
    exact hn xs (Option.some.inj e)
  rw [upd_ne this]
  exact e
theorem dic_ntup {w : World} {n : Nat} {a : Addr} {kvs : List KVD} : ∀ xs, dicO w n a kvs ≠ .tup xs := fun xs z => by
  have z : HO.ext (DicO w n a kvs) = .tup xs := z
  cases z
theorem nodup_snoc5 {α : Type} {l : List α} {x : α} (h : l.Nodup) (hx : x ∉ l) : (l ++ [x]).Nodup := by
  refine List.nodup_append.mpr ⟨h, List.nodup_cons.mpr ⟨by simp, .nil⟩, fun a ha b hb e => ?_⟩
  rw [e, List.mem_singleton.mp hb] at ha
  exact hx ha
theorem KndAt.add {w : World} {o : OwnD} {H : Hp} {kA : Addr} {ks : Prog} {kvs : List KVD} (k1 : H kA = some (dicO w 4 kA kvs)) (k2 : DKs H 4 kvs) (k3 : kvs.length = ks.length)
    (k4 : ∀ (j : Nat) (p : KVD), kvs[j]? = some p → ∃ r, ks[j]? = some r ∧ p.1 = rowD r ∧ p.2.2 = .int (j : Nat) ∧ RowAt o H p.2.1 r) {y : V} {r : List Ordr × Onw} (hy : RowAt o H y r) (hs : SeqAt.shaped (rowD r) = true) (hn : rowD r ∉ kvs.map (·.1)) :
    KndAt w o (upd H kA (dicO w 4 kA (kvs ++ [(rowD r, y, .int (kvs.length : Nat))]))) kA (ks ++ [r]) := by
  have kk : KeepT H (upd H kA (dicO w 4 kA (kvs ++ [(rowD r, y, .int (kvs.length : Nat))]))) := KeepT.updD k1 dic_ntup
  refine ⟨_, upd_same, ⟨fun p hp => ?_, ?_⟩, by simp [k3], fun j p hp => ?_⟩
  · rcases List.mem_append.mp hp with z | z
    · exact (k2.keep kk).tp p z
    · rw [List.mem_singleton.mp z]
      exact ⟨(hy.keep kk).tp, deep_row r, hs⟩
  · rw [List.map_append]
    exact nodup_snoc5 k2.nd hn
  · by_cases c : j < kvs.length
    · rw [List.getElem?_append_left c] at hp
      obtain ⟨q, e1, e2, e3, e4⟩ := k4 j p hp
      exact ⟨q, by rw [List.getElem?_append_left (by omega)]; exact e1, e2, e3, e4.keep kk⟩
    · rw [List.getElem?_append_right (by omega)] at hp
      have ej : j - kvs.length = 0 := by
        have := (List.getElem?_eq_some_iff.mp hp).1
        simp at this
        omega
      have ej2 : j = kvs.length := by omega
      rw [ej] at hp
      have hp : (rowD r, y, V.int (kvs.length : Nat)) = p := Option.some.inj hp
      subst hp
      refine ⟨r, ?_, rfl, by rw [ej2], hy.keep kk⟩
      rw [List.getElem?_append_right (by omega), ej2, k3, Nat.sub_self]
      rfl
end My
set_option Elab.async false
set_option linter.all false
set_option maxRecDepth 100000
set_option maxHeartbeats 1000000
namespace My
open PySem L2 TL Sx
inductive Tr where
  | fin (cs : List Ordr)
  | go (cs : List Ordr) (t : Tr)
  | test (cs : List Ordr) (c : Plc) (t u : Tr)
abbrev rowN (g : Prog) (i : Int) : Option (List Ordr × Onw) := if 0 ≤ i then g[i.toNat]? else none
inductive IsTr (g : Prog) : Int → Tr → Prop
  | fin {i : Int} {cs : List Ordr} : rowN g i = some (cs, .fin) → IsTr g i (.fin cs)
  | go {i j : Int} {cs : List Ordr} {t : Tr} : rowN g i = some (cs, .go j) → IsTr g j t → IsTr g i (.go cs t)
  | test {i j k : Int} {cs : List Ordr} {c : Plc} {t u : Tr} : rowN g i = some (cs, .test c j k) → IsTr g j t → IsTr g k u → IsTr g i (.test cs c t u)
theorem IsTr.det {g : Prog} {i : Int} {t : Tr} (h : IsTr g i t) : ∀ {t' : Tr}, IsTr g i t' → t = t' := by
  induction h with
  | fin e =>
    intro t' h'
    cases h' with
    | fin e' => rw [e] at e'; cases e'; rfl
    | go e' _ => rw [e] at e'; cases e'
    | test e' _ _ => rw [e] at e'; cases e'
  | go e _ ih =>
    intro t' h'
    cases h' with
    | fin e' => rw [e] at e'; cases e'
    | go e' h2 => rw [e] at e'; cases e'; rw [ih h2]
    | test e' _ _ => rw [e] at e'; cases e'
  | test e _ _ ih1 ih2 =>
    intro t' h'
    cases h' with
    | fin e' => rw [e] at e'; cases e'
    | go e' _ => rw [e] at e'; cases e'
    | test e' h1 h2 => rw [e] at e'; cases e'; rw [ih1 h1, ih2 h2]
theorem rowN_of {g : Prog} {i : Int} (h0 : 0 ≤ i) : rowN g i = g[i.toNat]? := if_pos h0
theorem rowN_rng {g : Prog} {i : Int} {r : List Ordr × Onw} (h : rowN g i = some r) : 0 ≤ i ∧ i.toNat < g.length ∧ g[i.toNat]? = some r := by
  by_cases h0 : 0 ≤ i
  · rw [rowN_of h0] at h
    exact ⟨h0, (List.getElem?_eq_some_iff.mp h).1, h⟩
  · unfold rowN at h
    rw [if_neg h0] at h
    cases h
/-- rows that rest on lower ranks, all within -/
theorem IsTr.ex {g : Prog} {rk : Int → Nat} (h : ∀ (i : Nat) r, g[i]? = some r → ∀ t ∈ tgts r.2, 0 ≤ t ∧ t < g.length ∧ rk t < rk (i : Nat)) : ∀ (n : Nat) (i : Int), rk i < n → 0 ≤ i → i < g.length → ∃ t, IsTr g i t
  | 0, i, hn, _, _ => absurd hn (Nat.not_lt_zero _)
  | n + 1, i, hn, h0, h1 => by
    obtain ⟨cs, u, e⟩ : ∃ cs u, g[i.toNat]? = some (cs, u) := ⟨_, _, List.getElem?_eq_getElem (by omega)⟩
    have ei : ((i.toNat : Nat) : Int) = i := by omega
    have hr := h i.toNat _ e
    rw [ei] at hr
    have er : rowN g i = some (cs, u) := by rw [rowN_of h0]; exact e
    cases u with
    | fin => exact ⟨_, .fin er⟩
    | go j =>
      obtain ⟨a, b, c⟩ := hr j List.mem_cons_self
      obtain ⟨t, ht⟩ := IsTr.ex h n j (by omega) a b
      exact ⟨_, .go er ht⟩
    | test c j k =>
      obtain ⟨a, b, d⟩ := hr j List.mem_cons_self
      obtain ⟨a2, b2, d2⟩ := hr k (List.mem_cons_of_mem _ List.mem_cons_self)
      obtain ⟨t, ht⟩ := IsTr.ex h n j (by omega) a b
      obtain ⟨t2, ht2⟩ := IsTr.ex h n k (by omega) a2 b2
      exact ⟨_, .test er ht ht2⟩
/-- rows without a double: unlike rows unfold otherwise -/
theorem IsTr.inj {ks : Prog} (nd : ks.Nodup) {i : Int} {t : Tr} (h : IsTr ks i t) : ∀ {j : Int}, IsTr ks j t → i = j := by
  have key : ∀ {i j : Int} {r : List Ordr × Onw}, rowN ks i = some r → rowN ks j = some r → i = j := fun {i j r} a b => by
    obtain ⟨a0, _, a⟩ := rowN_rng a
    obtain ⟨b0, _, b⟩ := rowN_rng b
    obtain ⟨la, ea⟩ := List.getElem?_eq_some_iff.mp a
    obtain ⟨lb, eb⟩ := List.getElem?_eq_some_iff.mp b
    have ap := List.pairwise_iff_getElem.mp nd
    by_cases c1 : i.toNat < j.toNat
    · exact absurd (ea.trans eb.symm) (ap _ _ la lb c1)
    · by_cases c2 : j.toNat < i.toNat
      · exact absurd (eb.trans ea.symm) (ap _ _ lb la c2)
      · omega
  induction h with
  | fin e => intro j h'; cases h' with | fin e' => exact key e e'
  | go e _ ih => intro j h'; cases h' with | go e' h2 => rw [ih h2] at e; exact key e e'
  | test e _ _ ih1 ih2 => intro j h'; cases h' with | test e' h1 h2 => rw [ih1 h1, ih2 h2] at e; exact key e e'
inductive Gone (tg : Int → List Int) : List Int → List Int → List Int → Prop
  | nil {N : List Int} : Gone tg [] N N
  | seen {a : Int} {T N R : List Int} : a ∈ N → Gone tg T N R → Gone tg (a :: T) N R
  | new {a : Int} {T N R : List Int} : a ∉ N → Gone tg (tg a ++ T) (N ++ [a]) R → Gone tg (a :: T) N R
inductive GoneAll (tg : Int → List Int) : List Int → List Int → List Int → Prop
  | nil {N : List Int} : GoneAll tg [] N N
  | cons {h : Int} {hs N M R : List Int} : Gone tg [h] N M → GoneAll tg hs M R → GoneAll tg (h :: hs) N R
theorem Gone.det {tg : Int → List Int} {T N R : List Int} (h : Gone tg T N R) : ∀ {R' : List Int}, Gone tg T N R' → R = R' := by
  induction h with
  | nil => intro R' h'; cases h'; rfl
  | seen m _ ih =>
    intro R' h'
    cases h' with
    | seen _ h2 => exact ih h2
    | new n _ => exact absurd m n
  | new n _ ih =>
    intro R' h'
    cases h' with
    | seen m _ => exact absurd m n
    | new _ h2 => exact ih h2
theorem GoneAll.det {tg : Int → List Int} {hs N R : List Int} (h : GoneAll tg hs N R) : ∀ {R' : List Int}, GoneAll tg hs N R' → R = R' := by
  induction h with
  | nil => intro R' h'; cases h'; rfl
  | cons a _ ih =>
    intro R' h'
    cases h' with
    | cons a' b' => rw [a.det a'] at ih; exact ih b'
theorem Gone.map {tg tg' : Int → List Int} {f : Int → Int} {P : Int → Prop} (inj : ∀ a b, P a → P b → f a = f b → a = b) (cl : ∀ a, P a → ∀ b ∈ tg a, P b) (et : ∀ a, P a → tg' (f a) = (tg a).map f) {T N R : List Int} (h : Gone tg T N R) :
    (∀ a ∈ T, P a) → (∀ a ∈ N, P a) → Gone tg' (T.map f) (N.map f) (R.map f) ∧ ∀ a ∈ R, P a := by
  have mem : ∀ {a : Int} {N : List Int}, P a → (∀ b ∈ N, P b) → (f a ∈ N.map f ↔ a ∈ N) := fun {a N} pa pN => by
    constructor
    · intro h
      obtain ⟨b, hb, e⟩ := List.mem_map.mp h
      rw [inj a b pa (pN b hb) e.symm]
      exact hb
    · exact fun h => List.mem_map_of_mem h
  induction h with
  | nil => intro _ hN; exact ⟨.nil, hN⟩
  | @seen a T N R m _ ih =>
    intro hT hN
    have pa := hT a List.mem_cons_self
    obtain ⟨i1, i2⟩ := ih (fun b hb => hT b (List.mem_cons_of_mem _ hb)) hN
    exact ⟨.seen ((mem pa hN).mpr m) i1, i2⟩
  | @new a T N R n _ ih =>
    intro hT hN
    have pa := hT a List.mem_cons_self
    obtain ⟨i1, i2⟩ := ih (fun b hb => Or.elim (List.mem_append.mp hb) (cl a pa b) fun z => hT b (List.mem_cons_of_mem _ z)) (fun b hb => Or.elim (List.mem_append.mp hb) (hN b) fun z => by rw [List.mem_singleton.mp z]; exact pa)
    refine ⟨.new (fun z => n ((mem pa hN).mp z)) ?_, i2⟩
    rw [et a pa, ← List.map_append]
    rw [List.map_append (l₁ := N)] at i1
    exact i1
theorem GoneAll.map {tg tg' : Int → List Int} {f : Int → Int} {P : Int → Prop} (inj : ∀ a b, P a → P b → f a = f b → a = b) (cl : ∀ a, P a → ∀ b ∈ tg a, P b) (et : ∀ a, P a → tg' (f a) = (tg a).map f) {hs N R : List Int} (h : GoneAll tg hs N R) :
    (∀ a ∈ hs, P a) → (∀ a ∈ N, P a) → GoneAll tg' (hs.map f) (N.map f) (R.map f) := by
  induction h with
  | nil => intro _ _; exact .nil
  | @cons a hs N M R d _ ih =>
    intro hT hN
    obtain ⟨d1, d2⟩ := d.map inj cl et (fun b hb => by rw [List.mem_singleton.mp hb]; exact hT a List.mem_cons_self) hN
    exact .cons d1 (ih (fun b hb => hT b (List.mem_cons_of_mem _ hb)) d2)
def tgF (g : Prog) (i : Int) : List Int := tgts (g.getD i.toNat ([], .fin)).2
def face (r : List Ordr × Onw) : List Ordr × Onw := (r.1, renO (fun _ => 0) r.2)
inductive Parts (g : Prog) : Int → Int → List Bool → Prop
  | here {p q : Int} {r s : List Ordr × Onw} : rowN g p = some r → rowN g q = some s → face r ≠ face s → Parts g p q []
  | go {p q j k : Int} {cs : List Ordr} {w : List Bool} : rowN g p = some (cs, .go j) → rowN g q = some (cs, .go k) → Parts g j k w → Parts g p q w
  | tt {p q j k j' k' : Int} {cs : List Ordr} {c : Plc} {w : List Bool} : rowN g p = some (cs, .test c j k) → rowN g q = some (cs, .test c j' k') → Parts g j j' w → Parts g p q (true :: w)
  | ff {p q j k j' k' : Int} {cs : List Ordr} {c : Plc} {w : List Bool} : rowN g p = some (cs, .test c j k) → rowN g q = some (cs, .test c j' k') → Parts g k k' w → Parts g p q (false :: w)
theorem face_cases {r s : List Ordr × Onw} (h : face r = face s) : (∃ cs, r = (cs, .fin) ∧ s = (cs, .fin)) ∨ (∃ cs j k, r = (cs, .go j) ∧ s = (cs, .go k)) ∨ ∃ cs c j k j' k', r = (cs, .test c j k) ∧ s = (cs, .test c j' k') := by
  obtain ⟨cs, u⟩ := r
  obtain ⟨ds, v⟩ := s
  have h1 : cs = ds := congrArg Prod.fst h
  have h2 : renO (fun _ => 0) u = renO (fun _ => 0) v := congrArg Prod.snd h
  subst h1
  cases u with
  | fin => cases v with
    | fin => exact .inl ⟨_, rfl, rfl⟩
    | go k => cases h2
    | test c k k' => cases h2
  | go j => cases v with
    | fin => cases h2
    | go k => exact .inr (.inl ⟨_, _, _, rfl, rfl⟩)
    | test c k k' => cases h2
  | test c j k => cases v with
    | fin => cases h2
    | go k => cases h2
    | test c' j' k' =>
      have : c = c' := by injection h2
      subst this
      exact .inr (.inr ⟨_, _, _, _, _, _, rfl, rfl⟩)
structure It where
  p : Int
  q : Int
  w : List Bool
inductive PB (g : Prog) : List It → List It → List (Int × Int) → Option (List Bool) → Prop
  | out {S : List (Int × Int)} : PB g [] [] S none
  | next {lo : List It} {S : List (Int × Int)} {r : Option (List Bool)} : lo ≠ [] → PB g lo [] S r → PB g [] lo S r
  | seen {p q : Int} {w : List Bool} {lv lo : List It} {S : List (Int × Int)} {r : Option (List Bool)} : (p, q) ∈ S → PB g lv lo S r → PB g (⟨p, q, w⟩ :: lv) lo S r
  | found {p q : Int} {w : List Bool} {lv lo : List It} {S : List (Int × Int)} {a b : List Ordr × Onw} : (p, q) ∉ S → rowN g p = some a → rowN g q = some b → face a ≠ face b → PB g (⟨p, q, w⟩ :: lv) lo S (some w)
  | fin {p q : Int} {w : List Bool} {lv lo : List It} {S : List (Int × Int)} {r : Option (List Bool)} {cs : List Ordr} : (p, q) ∉ S → rowN g p = some (cs, .fin) → rowN g q = some (cs, .fin) → PB g lv lo ((p, q) :: S) r → PB g (⟨p, q, w⟩ :: lv) lo S r
  | go {p q j k : Int} {w : List Bool} {lv lo : List It} {S : List (Int × Int)} {r : Option (List Bool)} {cs : List Ordr} : (p, q) ∉ S → rowN g p = some (cs, .go j) → rowN g q = some (cs, .go k) → PB g (⟨j, k, w⟩ :: lv) lo ((p, q) :: S) r → PB g (⟨p, q, w⟩ :: lv) lo S r
  | test {p q j k j' k' : Int} {w : List Bool} {lv lo : List It} {S : List (Int × Int)} {r : Option (List Bool)} {cs : List Ordr} {c : Plc} : (p, q) ∉ S → rowN g p = some (cs, .test c j k) → rowN g q = some (cs, .test c j' k') →
      PB g lv (lo ++ [⟨k, k', w ++ [false]⟩, ⟨j, j', w ++ [true]⟩]) ((p, q) :: S) r → PB g (⟨p, q, w⟩ :: lv) lo S r
theorem PB.det {g : Prog} {lv lo : List It} {S : List (Int × Int)} {r : Option (List Bool)} (h : PB g lv lo S r) : ∀ {r' : Option (List Bool)}, PB g lv lo S r' → r = r' := by
  induction h with
  | out => intro r' h'; cases h' with
    | out => rfl
    | next n _ => exact absurd rfl n
  | next n _ ih => intro r' h'; cases h' with
    | out => exact absurd rfl n
    | next _ h2 => exact ih h2
  | seen m _ ih => intro r' h'; cases h' with
    | seen _ h2 => exact ih h2
    | found n _ _ _ => exact absurd m n
    | fin n _ _ _ => exact absurd m n
    | go n _ _ _ => exact absurd m n
    | test n _ _ _ => exact absurd m n
  | found n e1 e2 d => intro r' h'; cases h' with
    | seen m _ => exact absurd m n
    | found _ _ _ _ => rfl
    | fin _ f1 f2 _ => rw [e1] at f1; rw [e2] at f2; cases f1; cases f2; exact absurd rfl d
    | go _ f1 f2 _ => rw [e1] at f1; rw [e2] at f2; cases f1; cases f2; exact absurd rfl d
    | test _ f1 f2 _ => rw [e1] at f1; rw [e2] at f2; cases f1; cases f2; exact absurd rfl d
  | fin n e1 e2 _ ih => intro r' h'; cases h' with
    | seen m _ => exact absurd m n
    | found _ f1 f2 d => rw [e1] at f1; rw [e2] at f2; cases f1; cases f2; exact absurd rfl d
    | fin _ f1 f2 h2 => exact ih h2
    | go _ f1 _ _ => rw [e1] at f1; cases f1
    | test _ f1 _ _ => rw [e1] at f1; cases f1
  | go n e1 e2 _ ih => intro r' h'; cases h' with
    | seen m _ => exact absurd m n
    | found _ f1 f2 d => rw [e1] at f1; rw [e2] at f2; cases f1; cases f2; exact absurd rfl d
    | fin _ f1 _ _ => rw [e1] at f1; cases f1
    | go _ f1 f2 h2 => rw [e1] at f1; rw [e2] at f2; cases f1; cases f2; exact ih h2
    | test _ f1 _ _ => rw [e1] at f1; cases f1
  | test n e1 e2 _ ih => intro r' h'; cases h' with
    | seen m _ => exact absurd m n
    | found _ f1 f2 d => rw [e1] at f1; rw [e2] at f2; cases f1; cases f2; exact absurd rfl d
    | fin _ f1 _ _ => rw [e1] at f1; cases f1
    | go _ f1 _ _ => rw [e1] at f1; cases f1
    | test _ f1 f2 h2 => rw [e1] at f1; rw [e2] at f2; cases f1; cases f2; exact ih h2
def swI (t : It) : It := ⟨t.q, t.p, t.w⟩
def swP (x : Int × Int) : Int × Int := (x.2, x.1)
theorem mem_swP {p q : Int} {S : List (Int × Int)} : (q, p) ∈ S.map swP ↔ (p, q) ∈ S := by
  constructor
  · intro h
    obtain ⟨x, hx, e⟩ := List.mem_map.mp h
    obtain ⟨a, b⟩ := x
    cases e
    exact hx
  · exact fun h => List.mem_map_of_mem (f := swP) h
theorem PB.swap {g : Prog} {lv lo : List It} {S : List (Int × Int)} {r : Option (List Bool)} (h : PB g lv lo S r) : PB g (lv.map swI) (lo.map swI) (S.map swP) r := by
  induction h with
  | out => exact .out
  | next n _ ih => exact .next (fun z => n (List.map_eq_nil_iff.mp z)) ih
  | seen m _ ih => exact .seen (mem_swP.mpr m) ih
  | found n e1 e2 d => exact .found (fun z => n (mem_swP.mp z)) e2 e1 (fun z => d z.symm)
  | fin n e1 e2 _ ih => exact .fin (fun z => n (mem_swP.mp z)) e2 e1 ih
  | go n e1 e2 _ ih => exact .go (fun z => n (mem_swP.mp z)) e2 e1 ih
  | test n e1 e2 _ ih =>
    refine .test (fun z => n (mem_swP.mp z)) e2 e1 ?_
    rw [List.map_append] at ih
    exact ih
theorem PB.sound {g : Prog} {lv lo : List It} {S : List (Int × Int)} {r : Option (List Bool)} (h : PB g lv lo S r) : ∀ {w : List Bool}, r = some w → ∃ t ∈ lv ++ lo, ∃ v, w = t.w ++ v ∧ Parts g t.p t.q v := by
  induction h with
  | out => intro w e; cases e
  | next _ _ ih =>
    intro w e
    obtain ⟨t, ht, z⟩ := ih e
    rw [List.append_nil] at ht
    exact ⟨t, ht, z⟩
  | seen _ _ ih =>
    intro w e
    obtain ⟨t, ht, z⟩ := ih e
    exact ⟨t, List.mem_cons_of_mem _ ht, z⟩
  | found _ e1 e2 d =>
    intro w e
    cases e
    exact ⟨_, List.mem_cons_self, [], by rw [List.append_nil], .here e1 e2 d⟩
  | fin _ _ _ _ ih =>
    intro w e
    obtain ⟨t, ht, z⟩ := ih e
    exact ⟨t, List.mem_cons_of_mem _ ht, z⟩
  | go _ e1 e2 _ ih =>
    intro w e
    obtain ⟨t, ht, v, z1, z2⟩ := ih e
    rcases List.mem_cons.mp ht with rfl | ht
    · exact ⟨_, List.mem_cons_self, v, z1, .go e1 e2 z2⟩
    · exact ⟨t, List.mem_cons_of_mem _ ht, v, z1, z2⟩
  | test _ e1 e2 _ ih =>
    intro w e
    obtain ⟨t, ht, v, z1, z2⟩ := ih e
    rw [← List.append_assoc] at ht
    rcases List.mem_append.mp ht with ht | ht
    · exact ⟨t, List.mem_cons_of_mem _ ht, v, z1, z2⟩
    · rcases List.mem_cons.mp ht with rfl | ht
      · refine ⟨_, List.mem_cons_self, false :: v, ?_, .ff e1 e2 z2⟩
        rw [z1]
        simp
      · rw [List.mem_singleton] at ht
        subst ht
        refine ⟨_, List.mem_cons_self, true :: v, ?_, .tt e1 e2 z2⟩
        rw [z1]
        simp
/-- pairs that are alike at once, with all that comes behind them among T -/
def Clo (g : Prog) (S : List (Int × Int)) (T : Int × Int → Prop) : Prop := ∀ p q, (p, q) ∈ S → (∃ cs, rowN g p = some (cs, .fin) ∧ rowN g q = some (cs, .fin)) ∨ (∃ cs j k, rowN g p = some (cs, .go j) ∧ rowN g q = some (cs, .go k) ∧ T (j, k)) ∨
  ∃ cs c j k j' k', rowN g p = some (cs, .test c j k) ∧ rowN g q = some (cs, .test c j' k') ∧ T (j, j') ∧ T (k, k')
theorem Clo.mono {g : Prog} {S : List (Int × Int)} {T T' : Int × Int → Prop} (h : Clo g S T) (m : ∀ x, T x → T' x) : Clo g S T' := fun p q hm => by
  rcases h p q hm with z | ⟨cs, j, k, a, b, c⟩ | ⟨cs, c, j, k, j', k', a, b, d, e⟩
  · exact .inl z
  · exact .inr (.inl ⟨cs, j, k, a, b, m _ c⟩)
  · exact .inr (.inr ⟨cs, c, j, k, j', k', a, b, m _ d, m _ e⟩)
abbrev isIn (S : List (Int × Int)) (l : List It) : Int × Int → Prop := fun x => x ∈ S ∨ ∃ t ∈ l, (t.p, t.q) = x
theorem PB.none_clo {g : Prog} {lv lo : List It} {S : List (Int × Int)} {r : Option (List Bool)} (h : PB g lv lo S r) : r = none → Clo g S (isIn S (lv ++ lo)) → ∃ S', (∀ x, isIn S (lv ++ lo) x → x ∈ S') ∧ Clo g S' (· ∈ S') := by
  induction h with
  | @out S =>
    intro _ c
    have mv : ∀ x, isIn S ([] ++ []) x → x ∈ S := fun x hx => Or.elim hx id fun ⟨t, ht, _⟩ => nomatch ht
    exact ⟨S, mv, c.mono mv⟩
  | next _ _ ih =>
    intro e c
    obtain ⟨S', h1, h2⟩ := ih e (c.mono fun x hx => hx.imp id fun ⟨t, ht, z⟩ => ⟨t, by rw [List.append_nil]; exact ht, z⟩)
    exact ⟨S', fun x hx => h1 x (hx.imp id fun ⟨t, ht, z⟩ => ⟨t, by rw [List.append_nil]; exact ht, z⟩), h2⟩
  | @seen p q w lv lo S r m _ ih =>
    intro e c
    have mv : ∀ x, isIn S (⟨p, q, w⟩ :: lv ++ lo) x → isIn S (lv ++ lo) x := fun x hx => Or.elim hx .inl fun ⟨t, ht, z⟩ => by
      rcases List.mem_cons.mp ht with rfl | ht
      · rw [← z]; exact .inl m
      · exact .inr ⟨t, ht, z⟩
    obtain ⟨S', h1, h2⟩ := ih e (c.mono mv)
    exact ⟨S', fun x hx => h1 x (mv x hx), h2⟩
  | found => intro e; cases e
  | @fin p q w lv lo S r cs n e1 e2 _ ih =>
    intro e c
    have mv : ∀ x, isIn S (⟨p, q, w⟩ :: lv ++ lo) x → isIn ((p, q) :: S) (lv ++ lo) x := fun x hx => Or.elim hx (fun z => .inl (List.mem_cons_of_mem _ z)) fun ⟨t, ht, z⟩ => by
      rcases List.mem_cons.mp ht with rfl | ht
      · rw [← z]; exact .inl List.mem_cons_self
      · exact .inr ⟨t, ht, z⟩
    obtain ⟨S', h1, h2⟩ := ih e fun p' q' hm => by
      rcases List.mem_cons.mp hm with z | z
      · cases z; exact .inl ⟨cs, e1, e2⟩
      · exact (c.mono mv) p' q' z
    exact ⟨S', fun x hx => h1 x (mv x hx), h2⟩
  | @go p q j k w lv lo S r cs n e1 e2 _ ih =>
    intro e c
    have mv : ∀ x, isIn S (⟨p, q, w⟩ :: lv ++ lo) x → isIn ((p, q) :: S) (⟨j, k, w⟩ :: lv ++ lo) x := fun x hx => Or.elim hx (fun z => .inl (List.mem_cons_of_mem _ z)) fun ⟨t, ht, z⟩ => by
      rcases List.mem_cons.mp ht with rfl | ht
      · rw [← z]; exact .inl List.mem_cons_self
      · exact .inr ⟨t, List.mem_cons_of_mem _ ht, z⟩
    obtain ⟨S', h1, h2⟩ := ih e fun p' q' hm => by
      rcases List.mem_cons.mp hm with z | z
      · cases z; exact .inr (.inl ⟨cs, j, k, e1, e2, .inr ⟨⟨j, k, w⟩, List.mem_cons_self, rfl⟩⟩)
      · exact (c.mono mv) p' q' z
    exact ⟨S', fun x hx => h1 x (mv x hx), h2⟩
  | @test p q j k j' k' w lv lo S r cs c0 n e1 e2 _ ih =>
    intro e c
    have mv : ∀ x, isIn S (⟨p, q, w⟩ :: lv ++ lo) x → isIn ((p, q) :: S) (lv ++ (lo ++ [⟨k, k', w ++ [false]⟩, ⟨j, j', w ++ [true]⟩])) x := fun x hx => Or.elim hx (fun z => .inl (List.mem_cons_of_mem _ z)) fun ⟨t, ht, z⟩ => by
      rcases List.mem_cons.mp ht with rfl | ht
      · rw [← z]; exact .inl List.mem_cons_self
      · refine .inr ⟨t, ?_, z⟩
        rw [← List.append_assoc]
        exact List.mem_append.mpr (.inl ht)
    obtain ⟨S', h1, h2⟩ := ih e fun p' q' hm => by
      rcases List.mem_cons.mp hm with z | z
      · cases z
        refine .inr (.inr ⟨cs, c0, j, k, j', k', e1, e2, .inr ⟨⟨j, j', w ++ [true]⟩, ?_, rfl⟩, .inr ⟨⟨k, k', w ++ [false]⟩, ?_, rfl⟩⟩) <;> simp
      · exact (c.mono mv) p' q' z
    exact ⟨S', fun x hx => h1 x (mv x hx), h2⟩
theorem clo_no {g : Prog} {S : List (Int × Int)} (c : Clo g S (· ∈ S)) {p q : Int} {w : List Bool} (h : Parts g p q w) : ¬ (p, q) ∈ S := by
  induction h with
  | @here p q r s e1 e2 d =>
    intro m
    rcases c p q m with ⟨cs, a, b⟩ | ⟨cs, j, k, a, b, _⟩ | ⟨cs, c, j, k, j', k', a, b, _⟩ <;> (rw [e1] at a; rw [e2] at b; cases a; cases b; exact d rfl)
  | go e1 e2 _ ih =>
    intro m
    rcases c _ _ m with ⟨cs, a, b⟩ | ⟨cs, j, k, a, b, z⟩ | ⟨cs, c, j, k, j', k', a, b, _⟩
    · rw [e1] at a; cases a
    · rw [e1] at a; rw [e2] at b; cases a; cases b; exact ih z
    · rw [e1] at a; cases a
  | tt e1 e2 _ ih =>
    intro m
    rcases c _ _ m with ⟨cs, a, b⟩ | ⟨cs, j, k, a, b, z⟩ | ⟨cs, c, j, k, j', k', a, b, z, _⟩
    · rw [e1] at a; cases a
    · rw [e1] at a; cases a
    · rw [e1] at a; rw [e2] at b; cases a; cases b; exact ih z
  | ff e1 e2 _ ih =>
    intro m
    rcases c _ _ m with ⟨cs, a, b⟩ | ⟨cs, j, k, a, b, z⟩ | ⟨cs, c, j, k, j', k', a, b, _, z⟩
    · rw [e1] at a; cases a
    · rw [e1] at a; cases a
    · rw [e1] at a; rw [e2] at b; cases a; cases b; exact ih z
/-- unlike rows are told apart, by a word that parts them; the same word the other way round -/
theorem PB.told {g : Prog} {p q : Int} {r : Option (List Bool)} (h : PB g [⟨p, q, []⟩] [] [] r) (hp : ∃ w, Parts g p q w) : ∃ w, r = some w ∧ Parts g p q w := by
  cases r with
  | none =>
    obtain ⟨w, hw⟩ := hp
    obtain ⟨S', h1, h2⟩ := h.none_clo rfl fun p q hm => nomatch hm
    exact absurd (h1 (p, q) (.inr ⟨⟨p, q, []⟩, List.mem_cons_self, rfl⟩)) (clo_no h2 hw)
  | some w =>
    obtain ⟨t, ht, v, z1, z2⟩ := h.sound rfl
    rw [List.append_nil, List.mem_singleton] at ht
    subst ht
    exact ⟨w, rfl, by rw [z1]; exact z2⟩
theorem PB.turned {g : Prog} {p q : Int} {r r' : Option (List Bool)} (h : PB g [⟨p, q, []⟩] [] [] r) (h' : PB g [⟨q, p, []⟩] [] [] r') : r' = r := (PB.swap h : PB g [⟨q, p, []⟩] [] [] r).det h' |>.symm
/-- a row is not told from itself -/
theorem PB.same {g : Prog} {lv lo : List It} {S : List (Int × Int)} {r : Option (List Bool)} (h : PB g lv lo S r) : (∀ t ∈ lv ++ lo, t.p = t.q) → r = none := by
  induction h with
  | out => intro _; rfl
  | next _ _ ih => intro a; exact ih fun t ht => a t (by rw [List.append_nil] at ht; exact ht)
  | seen _ _ ih => intro a; exact ih fun t ht => a t (List.mem_cons_of_mem _ ht)
  | found _ e1 e2 d =>
    intro a
    have := a _ List.mem_cons_self
    dsimp only at this
    rw [this, e2] at e1
    cases e1
    exact absurd rfl d
  | fin _ _ _ _ ih => intro a; exact ih fun t ht => a t (List.mem_cons_of_mem _ ht)
  | go _ e1 e2 _ ih =>
    intro a
    have := a _ List.mem_cons_self
    dsimp only at this
    rw [this, e2] at e1
    cases e1
    exact ih fun t ht => by
      rcases List.mem_cons.mp ht with rfl | ht
      · rfl
      · exact a t (List.mem_cons_of_mem _ ht)
  | test _ e1 e2 _ ih =>
    intro a
    have := a _ List.mem_cons_self
    dsimp only at this
    rw [this, e2] at e1
    cases e1
    exact ih fun t ht => by
      rw [← List.append_assoc] at ht
      rcases List.mem_append.mp ht with ht | ht
      · exact a t (List.mem_cons_of_mem _ ht)
      · rcases List.mem_cons.mp ht with rfl | ht
        · rfl
        · rw [List.mem_singleton.mp ht]
end My
set_option Elab.async false
set_option linter.all false
set_option maxRecDepth 100000
set_option maxHeartbeats 2000000
namespace My
open PySem L2 TL Sx
abbrev sFew : Stmt := top 24
abbrev sNamesL : Stmt := top 26
def fewL : List Str := ["a", "ab", "go", "end", "start", "h"]
theorem few_names : ∀ x ∈ fewL, IsName x := by
  have h : fewL.all isNameB = true := by decide +kernel
  exact fun x hx => List.all_eq_true.mp h x hx
theorem few_nodup : fewL.Nodup := by decide +kernel
theorem cut_take {xs : List V} {t : Nat} (h : t ≤ xs.length) : cutV xs none (some (t : Nat)) = xs.take t := by
  unfold cutV
  rw [HT.sIx_none, HT.sIx_nat, Nat.min_eq_left h]
  rfl
def spNm5 : Sp := fun vs H Q _ => ∃ (k : Addr) (many : Nat) (n : Nat), vs = [.ref k, .int many] ∧ Sack H k n ∧ n < 50000 ∧ many ≤ 20 ∧
  ∀ (l : Addr) (ns : List Str) (H' : Hp), H l = none → SameBut k H H' → Sack H' k (n + 16 * many) → H' l = some (.lst (ns.map V.str)) → ns.Nodup → (∀ x ∈ ns, IsName x) → ns.length ≤ many → (1 ≤ many → 1 ≤ ns.length) → Q (.ref l) H'
def nmsL : List Str := ["go", "end", "start", "test", "nop", "zzzzzzzz", "a", "ab"]
theorem nms_names : ∀ x ∈ nmsL, IsName x := by
  have h : nmsL.all isNameB = true := by decide +kernel
  exact fun x hx => List.all_eq_true.mp h x hx
abbrev sg5 (c : Nat) : Str := ⟨#[c]⟩
theorem sum_sg5 : ∀ cs : List Nat, ((cs.map sg5).map (·.length)).sum = cs.length
  | [] => rfl
  | c :: r => by
    rw [List.map_cons, List.map_cons, List.sum_cons, sum_sg5 r, List.length_cons]
    show 1 + r.length = r.length + 1
    omega
theorem last_of5 {ns : List Str} (h : ns ≠ []) : ∃ y ∈ ns, atI (ns.map V.str) (-1) = some (.str y) := by
  refine ⟨ns.getLast h, List.getLast_mem h, ?_⟩
  have e : ns.map V.str = ns.dropLast.map V.str ++ [.str (ns.getLast h)] := by
    conv => lhs; rw [← List.dropLast_concat_getLast h, List.map_append]
    rfl
  rw [e]
  exact atI_last _ _
theorem cut7_name {x : Str} (h : IsName x) {c : Nat} (h1 : 97 ≤ c) (h2 : c ≤ 122) : IsName (cutS x none (some 7) ++ ⟨#[c]⟩) := by
  have hl := h.len
  have hx : x.cps.toList.length = x.length := Array.length_toList ..
  have e : (cutS x none (some 7) ++ (⟨#[c]⟩ : Str)).cps.toList = x.cps.toList.take (min 7 x.length) ++ [c] := by
    show tl (cutS x none (some 7) ++ (⟨#[c]⟩ : Str)) = _
    rw [tl_append]
    congr 1
  have el : (cutS x none (some 7) ++ (⟨#[c]⟩ : Str)).length = min 7 x.length + 1 := by
    have : (cutS x none (some 7) ++ (⟨#[c]⟩ : Str)).cps.toList.length = min 7 x.length + 1 := by
      rw [e, List.length_append, List.length_take, hx]
      show min (min 7 x.length) x.length + 1 = _
      omega
    rw [← this]
    exact (Array.length_toList ..).symm
  refine IsName.mk (by omega) (by omega) fun d hd => ?_
  rw [e] at hd
  rcases List.mem_append.mp hd with z | z
  · exact h.cps d (List.mem_of_mem_take z)
  · have := List.mem_singleton.mp z
    omega
structure NSt5 (H0 : Hp) (k l : Addr) (ns : List Str) (H : Hp) (m : Nat) : Prop where
  sack : Sack H k m
  fd : H l = some (.lst (ns.map V.str))
  keep : SameBut k H0 H
theorem NSt5.pull {H0 : Hp} {k l : Addr} {ns : List Str} {H H' : Hp} {m : Nat} (h : NSt5 H0 k l ns H m) (hl : l ≠ k) (s : SameBut k H H') (S : Sack H' k (m + 1)) : NSt5 H0 k l ns H' (m + 1) :=
  ⟨S, s _ _ h.fd hl, h.keep.trans s⟩
theorem NSt5.same {H0 : Hp} {k l : Addr} {ns : List Str} {H H' : Hp} {m : Nat} (h : NSt5 H0 k l ns H m) (s : Same H H') : NSt5 H0 k l ns H' m :=
  ⟨h.sack.same s, s _ _ h.fd, h.keep.trans s.but⟩
theorem NSt5.mono {H0 : Hp} {k l : Addr} {ns : List Str} {H : Hp} {m m' : Nat} (h : NSt5 H0 k l ns H m) (e : m ≤ m') : NSt5 H0 k l ns H m' := ⟨h.sack.mono e, h.fd, h.keep⟩
abbrev NNm : List Str := ["bag", "many", "letters", "found", "k", "size", "this", "way", "j"]
section
variable {P : Program} {w : World} {K : PySem.W.Frag} {mg : Str → Option Value} {base : Heap}
theorem scFew : FnScope ["bag", "names"] ["bag"] (defScope sFew) := ⟨rfl, rfl, rfl, by decide +kernel, rfl, by decide +kernel, by decide +kernel⟩
theorem ok_few {f : Addr} {fd : FuncData} (F : Fun K "_law_few" "_law_few" sFew f fd) (dP : Df K mg "_law_draw" sPull ["bag", "many"]) (B : Bl mg) : FnOk P w K mg base CX0 2 f fd ["bag"] spOwn := by
  have GP : FnOk P w K mg base CX0 1 dP.f dP.fd ["bag", "many"] spPull := ok_pull dP.F
  refine F.ok scFew (fun vs H Q E h => ?_) (fun cdv A outer s H vs Q E hr h => ?_)
  · obtain ⟨k, n, rfl, _⟩ := h
    rfl
  · obtain ⟨k, n, rfl, S0, hn, q⟩ := h
    refine ⟨_, pss_cons (ps_set (i := 1) scFew.nd rfl (Or.inl rfl) (pe_slice sl_list (pe_lst (pa_cons pe_str (pa_cons pe_str (pa_cons pe_str (pa_cons pe_str (pa_cons pe_str (pa_cons pe_str pa_nil))))))) po_none (po_some (pe_op op_add pe_int (pe_call GP hr rfl dP.m dP.F.kp dP.b .nil pass0 (pa_cons (pv 0) (pa_cons pe_int pa_nil)))))))
      (pss_one (ps_ret (pe_tup (pa_cons (pe_op op_add pe_int (pe_call GP hr rfl dP.m dP.F.kp dP.b .nil pass0 (pa_cons (pv 0) (pa_cons pe_int pa_nil)))) (pa_cons (pe_callTy call_tuple_of (by rfl) B.tup (by decide +kernel) (pa_cons (pv 1) pa_nil)) (pa_cons (pe_call GP hr rfl dP.m dP.F.kp dP.b .nil pass0 (pa_cons (pv 0) (pa_cons pe_int pa_nil))) (pa_cons (pe_op op_add pe_int (pe_call GP hr rfl dP.m dP.F.kp dP.b .nil pass0 (pa_cons (pv 0) (pa_cons pe_int pa_nil)))) (pa_cons (pe_op op_add pe_int (pe_call GP hr rfl dP.m dP.F.kp dP.b .nil pass0 (pa_cons (pv 0) (pa_cons pe_int pa_nil)))) (pa_cons pe_int pa_nil))))))))), ?read⟩
    case read =>
      have nek : ∀ {H1 : Hp} {m : Nat} {b : Addr}, Sack H1 k m → H1 b = none → b ≠ k := fun S hb => by
        obtain ⟨_, _, _, z, _⟩ := S
        exact (ne_of_none z hb).symm
      refine seq_cut (fun σ' H' => ∃ (l : Addr) (ns : List Str), σ' = [some (.ref k), some (.ref l)] ∧ Sack H' k (n + 1) ∧ H' l = some (.lst (ns.map V.str)) ∧ l ≠ k ∧ (∃ m, NamesOk m ns ∧ 1 ≤ m ∧ m ≤ 6) ∧ SameBut k H H') (fun nx imp => ?_) ?_
      · refine ⟨(by show 6 ≤ sizeLine; decide), fun b hb => ?_⟩
        have nbk := nek S0 hb
        have sb0 := same_new hb (.lst (fewL.map V.str))
        refine ⟨_, rfl, k, 4, n, rfl, S0.same sb0, by omega, by decide, by decide, fun r H2 a2 b2 sb2 S2 => ⟨_, _, rfl, rfl, _, rfl, ?_⟩⟩
        have h2 : H2 b = some (.lst (fewL.map V.str)) := sb2 _ _ upd_same nbk
        refine ⟨b, _, rfl, SqL.of h2, fun l hl => ?_⟩
        have e1 : (1 : Int) + r = (((1 + r).toNat : Nat) : Int) := by omega
        have e2 : cutV (fewL.map V.str) none (some (1 + r)) = (fewL.take (1 + r).toNat).map V.str := by
          rw [e1, cut_take (by show (1 + r).toNat ≤ 6; omega), List.map_take]
          rfl
        have sub : ∀ x ∈ fewL.take (1 + r).toNat, x ∈ fewL := fun x hx => List.mem_of_mem_take hx
        refine imp _ _ ⟨l, fewL.take (1 + r).toNat, rfl, S2.same (same_new hl _), (by rw [← e2]; exact upd_same), nek S2 hl, ⟨(1 + r).toNat, ⟨?_, few_nodup.sublist (List.take_sublist _ _), fun x hx => few_names x (sub x hx)⟩, by omega, by omega⟩, sb0.but.trans (sb2.trans (SameBut.new hl))⟩
        rw [List.length_take]
        show min (1 + r).toNat 6 = _
        omega
      rintro σ H1 ⟨l, ns, rfl, S1, hl1, nlk, hNm, sb1⟩
      refine ⟨_, rfl, k, 2, n + 1, rfl, S1, by omega, by decide, by decide, fun r2 H2 a2 b2 sb2 S2 => ⟨_, _, rfl, rfl, _, rfl, l, _, rfl, .inl ⟨SqL.of (sb2 _ _ hl1 nlk), fun t ht => ?_⟩⟩⟩
      have ntk := nek S2 ht
      refine ⟨_, rfl, k, 3, n + 2, rfl, S2.same (same_new ht _), by omega, by decide, by decide, fun r6 H6 a6 b6 sb6 S6 => ?_⟩
      refine ⟨_, rfl, k, 2, n + 3, rfl, S6, by omega, by decide, by decide, fun r7 H7 a7 b7 sb7 S7 => ⟨_, _, rfl, rfl, ?_⟩⟩
      refine ⟨_, rfl, k, 2, n + 4, rfl, S7, by omega, by decide, by decide, fun r8 H8 a8 b8 sb8 S8 => ⟨_, _, rfl, rfl, (by show 6 ≤ sizeLine; decide), fun p hp => ?_⟩⟩
      have all : SameBut k H H8 := sb1.trans (sb2.trans ((SameBut.new ht).trans (sb6.trans (sb7.trans sb8))))
      have npk := nek S8 hp
      have ht8 : H8 t = some (.tup (ns.map V.str)) := sb8 _ _ (sb7 _ _ (sb6 _ _ upd_same ntk) ntk) ntk
      have two : (2 : Int) ≤ 2 ^ (1 + r2).toNat := by
        have := (pow_rng (1 + r2).toNat (by omega) (by omega)).1
        rw [Int.one_mul] at this
        exact this
      refine q p ⟨1 + r2, ns, r6, 1 + r7, 1 + r8, 2⟩ _ (all.free hp npk) (all.trans (SameBut.new hp)) ((S8.same (same_new hp _)).mono (by omega)) ?_ ?_
      · exact .tup upd_same (.cons (.int _) (.cons (.tup (same_new hp _ _ _ ht8) (TpAll.strs ns)) (.cons (.int _) (.cons (.int _) (.cons (.int _) (.cons (.int _) .nil))))))
      · exact ⟨⟨by show 1 ≤ 1 + r2; omega, by show 1 + r2 ≤ 8; omega⟩, hNm, ⟨a6, by show r6 ≤ 12; omega⟩, ⟨by show 1 ≤ 1 + r7; omega, by show 1 + r7 ≤ 3; omega⟩, ⟨by show 1 ≤ 1 + r8; omega, by show 1 + r8 ≤ 3; omega⟩, ⟨by show (0 : Int) ≤ 2; decide, two⟩⟩
theorem scNamesL : FnScope NNm ["bag", "many"] (defScope sNamesL) := ⟨rfl, rfl, rfl, by decide +kernel, rfl, by decide +kernel, by decide +kernel⟩
theorem ok_namesL {f : Addr} {fd : FuncData} (F : Fun K "_law_names" "_law_names" sNamesL f fd) (dP : Df K mg "_law_draw" sPull ["bag", "many"]) (B : Bl mg) : FnOk P w K mg base CX0 2 f fd ["bag", "many"] spNm5 := by
  have GP : FnOk P w K mg base CX0 1 dP.f dP.fd ["bag", "many"] spPull := ok_pull dP.F
  refine F.ok scNamesL (fun vs H Q E h => ?_) (fun cdv A outer s H vs Q E hr h => ?_)
  · obtain ⟨k, many, n, rfl, _⟩ := h
    rfl
  · obtain ⟨k, many, n, rfl, S0, hn, hm1, q⟩ := h
    refine ⟨_, pss_cons (ps_set (i := 2) scNamesL.nd rfl (Or.inr rfl) pe_str)
      (pss_cons (ps_set (i := 3) scNamesL.nd rfl (Or.inl rfl) (pe_lst pa_nil))
      (pss_cons (ps_for PassesOwn.never rfl (pi_range1 rfl B.range (pa_cons (pv 1) pa_nil)) (pg_name (i := 4) scNamesL.nd rfl (Or.inl rfl))
        (pss_cons (ps_set (i := 5) scNamesL.nd rfl (Or.inl rfl) (pe_ix ix_list (pe_lst (pa_cons pe_int (pa_cons pe_int (pa_cons pe_int (pa_cons (pe_op op_add pe_int (pe_call GP hr rfl dP.m dP.F.kp dP.b .nil pass0 (pa_cons (pv 0) (pa_cons pe_int pa_nil)))) pa_nil))))) (pe_call GP hr rfl dP.m dP.F.kp dP.b .nil pass0 (pa_cons (pv 0) (pa_cons pe_int pa_nil))) (fun _ _ => rfl)))
        (pss_cons (ps_set (i := 6) scNamesL.nd rfl (Or.inl rfl) (pe_join pe_str (pe_lc (own := [("j", 8)]) (g := gName 8) (by rfl) scNamesL.nd
            (pi_range1 rfl B.range (pa_cons (pv 5) pa_nil))
            (blkOk_by (own := [("j", 8)]) (N := NNm) (sc := defScope sNamesL) (by decide +kernel)) (fun _ _ _ _ _ => pg_name (i := 8) scNamesL.nd rfl (Or.inl rfl)) (fun _ _ _ _ _ => pts_nil)
            (fun _ _ _ _ _ => pe_ix ix_str (pv 2) (pe_call GP hr rfl dP.m dP.F.kp dP.b .nil pass0 (pa_cons (pv 0) (pa_cons pe_int pa_nil))) (fun _ _ => rfl)))))
        (pss_cons (ps_set (i := 7) scNamesL.nd rfl (Or.inl rfl) (pe_call GP hr rfl dP.m dP.F.kp dP.b .nil pass0 (pa_cons (pv 0) (pa_cons pe_int pa_nil))))
        (pss_cons (ps_if (pt_cmpR op_eq (pv 7) pe_int (nomark _))
          (pss_one (ps_set (i := 6) scNamesL.nd rfl (Or.inl rfl) (pe_ix ix_list (pe_lst (pa_cons pe_str (pa_cons pe_str (pa_cons pe_str (pa_cons pe_str (pa_cons pe_str (pa_cons pe_str (pa_cons pe_str (pa_cons pe_str pa_nil))))))))) (pe_call GP hr rfl dP.m dP.F.kp dP.b .nil pass0 (pa_cons (pv 0) (pa_cons pe_int pa_nil))) (fun _ _ => rfl)))) pss_nil)
        (pss_cons (ps_if (PW.pt (pw_and (pt_cmpR op_eq (pv 7) pe_int (nomark _)) (pw_and1 (pt_cmpR (op_neD hr.units) (pv 3) (pe_lst pa_nil) (nomark _)))))
          (pss_one (ps_set (i := 6) scNamesL.nd rfl (Or.inl rfl) (pe_op op_add_str (pe_slice sl_str (pe_ix ix_list (pv 3) (pe_un un_neg pe_int) (fun _ _ => rfl)) po_none (po_some pe_int)) (pe_ix ix_str (pv 2) (pe_call GP hr rfl dP.m dP.F.kp dP.b .nil pass0 (pa_cons (pv 0) (pa_cons pe_int pa_nil))) (fun _ _ => rfl))))) pss_nil)
        (pss_one (ps_if (pt_cmpR op_notIn_seq (pv 6) (pv 3) (by rfl)) (pss_one (ps_expr (pe_bm PySem.F.plainAttrs_list PySem.F.slot_list_append PySem.F.type_list_append mt_append (pv 3) (pa_cons (pv 6) pa_nil)))) pss_nil))))))))
      (pss_one (ps_ret (pv 3))))), ?read⟩
    case read =>
      have nek : ∀ {H1 : Hp} {m : Nat} {b : Addr}, Sack H1 k m → H1 b = none → b ≠ k := fun S hb => by
        obtain ⟨_, _, _, z, _⟩ := S
        exact (ne_of_none z hb).symm
      refine seq_cut (fun σ' H' => σ' = [some (.ref k), some (.int many), some (.str letters), none, none, none, none, none, none] ∧ H' = H) (fun nx imp => imp _ _ ⟨rfl, rfl⟩) ?_
      rintro σ H0 ⟨rfl, eH⟩
      subst eH
      refine seq_cut (fun σ' H' => ∃ l : Addr, σ' = [some (.ref k), some (.int many), some (.str letters), some (.ref l), none, none, none, none, none] ∧ NSt5 H0 k l [] H' n ∧ H0 l = none ∧ l ≠ k) (fun nx imp => ?_) ?_
      · exact ⟨(by show 0 ≤ sizeLine; decide), fun l hl => imp _ _ ⟨l, rfl, ⟨S0.same (same_new hl _), upd_same, SameBut.new hl⟩, hl, nek S0 hl⟩⟩
      rintro σ H1 ⟨l, rfl, N1, hl0, nlk⟩
      refine seq_cut (fun σ' H' => ∃ (ns : List Str) (v4 v5 v6 v7 : Option V), σ' = [some (.ref k), some (.int many), some (.str letters), some (.ref l), v4, v5, v6, v7, none] ∧ NSt5 H0 k l ns H' (n + 16 * many) ∧ ns.Nodup ∧ (∀ x ∈ ns, IsName x) ∧ ns.length ≤ many ∧ (1 ≤ many → 1 ≤ ns.length)) (fun nx imp => ?_) ?_
      · refine ⟨_, rfl, (many : Int), rfl, by omega, by omega, for_range (lo := 0) (n := (many : Int).toNat) (fun i σ H5 => ∃ (ns : List Str) (v4 v5 v6 v7 : Option V), σ = [some (.ref k), some (.int many), some (.str letters), some (.ref l), v4, v5, v6, v7, none] ∧ NSt5 H0 k l ns H5 (n + 16 * i) ∧ ns.Nodup ∧ (∀ x ∈ ns, IsName x) ∧ ns.length ≤ i ∧ (1 ≤ i → 1 ≤ ns.length))
          ⟨[], none, none, none, none, rfl, N1, List.nodup_nil, (fun x hx => nomatch hx), Nat.le_refl _, fun z => absurd z (by decide)⟩ ?_ ?_⟩
        · rintro i σ H5 hi ⟨ns, v4, v5, v6, v7, rfl, N5, nd, hAll, hnl, hn1⟩
          have hi : i < many := by omega
          -- size
          refine seq_cut (fun σ' H' => ∃ (z : Int), σ' = [some (.ref k), some (.int many), some (.str letters), some (.ref l), some (.int (0 + i)), some (.int z), v6, v7, none] ∧ 1 ≤ z ∧ z ≤ 8 ∧ NSt5 H0 k l ns H' (n + 16 * i + 2)) (fun nx2 imp2 => ?_) ?_
          · refine ⟨_, rfl, k, 8, n + 16 * i, rfl, N5.sack, by omega, by decide, by decide, fun r1 H6 a1 b1 sb1 S6 => ⟨_, _, rfl, rfl, (by show 4 ≤ sizeLine; decide), fun b hb => ?_⟩⟩
            have N6 := N5.pull nlk sb1 S6
            have nbk := nek S6 hb
            have N6b := N6.same (same_new hb (.lst [V.int 1, V.int 2, V.int 8, V.int (1 + r1)]))
            refine ⟨_, rfl, k, 4, n + 16 * i + 1, rfl, N6b.sack, by omega, by decide, by decide, fun r2 H7 a2 b2 sb2 S7 => ?_⟩
            have N7 := N6b.pull nlk sb2 S7
            obtain ⟨v, hv, hat⟩ := at_lt (xs := [V.int 1, V.int 2, V.int 8, V.int (1 + r1)]) a2 (by show r2 < (4 : Int); exact b2)
            obtain ⟨z, rfl, z0, z1⟩ : ∃ c : Int, v = .int c ∧ 1 ≤ c ∧ c ≤ 8 := by
              rcases List.mem_cons.mp hv with z | z
              · exact ⟨1, z, by omega, by omega⟩
              rcases List.mem_cons.mp z with z | z
              · exact ⟨2, z, by omega, by omega⟩
              rcases List.mem_cons.mp z with z | z
              · exact ⟨8, z, by omega, by omega⟩
              · exact ⟨_, List.mem_singleton.mp z, by omega, by omega⟩
            exact ⟨b, _, _, _, rfl, rfl, SqL.of (sb2 _ _ upd_same nbk), hat, imp2 _ _ ⟨z, rfl, z0, z1, N7⟩⟩
          rintro σ H6 ⟨z, rfl, z0, z1, N6⟩
          -- one
          refine seq_cut (fun σ' H' => ∃ (x : Str), σ' = [some (.ref k), some (.int many), some (.str letters), some (.ref l), some (.int (0 + i)), some (.int z), some (.str x), v7, none] ∧ IsName x ∧ NSt5 H0 k l ns H' (n + 16 * i + 10)) (fun nx2 imp2 => ?_) ?_
          · refine ⟨⟨_, rfl⟩, _, rfl, z, rfl, by omega, by omega, fun D hD => ?_⟩
            have nDk := nek N6.sack hD
            have nDl : D ≠ l := (ne_of_none N6.fd hD).symm
            refine lc_range (lo := 0) (n := z.toNat) (fun j H9 => ∃ cs : List Nat, H9 D = some (.lst ((cs.map sg5).map V.str)) ∧ cs.length = j ∧ (∀ c ∈ cs, 97 ≤ c ∧ c ≤ 122) ∧ NSt5 H0 k l ns H9 (n + 16 * i + 2 + j))
              ⟨[], upd_same, rfl, fun c hc => absurd hc (by simp), N6.same (same_new hD _)⟩ ?_ ?_
            · rintro j H9 hj ⟨cs, hD9, hcl, hcs, N9⟩
              refine ⟨rfl, _, rfl, _, rfl, k, 26, n + 16 * i + 2 + j, rfl, N9.sack, by omega, by decide, by decide, fun r3 H10 a3 b3 sb3 S10 => ?_⟩
              have N10 := N9.pull nlk sb3 S10
              refine ⟨letters, r3, 97 + r3.toNat, rfl, rfl, (by rw [letters_len]; decide), letter_at a3 b3, _, sb3 _ _ hD9 nDk, ?_, cs ++ [97 + r3.toNat], ?_, ?_, ?_, ?_⟩
              · rw [List.length_map, List.length_map]
                exact small1000 (by omega)
              · rw [upd_same, List.map_append, List.map_append]
                rfl
              · rw [List.length_append, hcl]
                rfl
              · intro c hc
                rcases List.mem_append.mp hc with z | z
                · exact hcs c z
                · have := List.mem_singleton.mp z
                  omega
              · have hD0 : H0 D = none := N6.keep.free hD nDk
                exact ⟨N10.sack.updK nDk, by rw [upd_ne nDl.symm]; exact N10.fd, N10.keep.updNew hD0⟩
            · rintro H9 ⟨cs, hD9, hcl, hcs, N9⟩
              refine ⟨_, D, cs.map sg5, rfl, rfl, .inl (SqL.of hD9), ?_, imp2 _ _ ⟨_, rfl, join_name (cs := cs) (by omega) (by omega) hcs, N9.mono (by omega)⟩⟩
              rw [sum_sg5, List.length_map]
              show cs.length + cs.length * 0 ≤ _
              omega
          rintro σ H7 ⟨x, rfl, hx, N7⟩
          -- way
          refine seq_cut (fun σ' H' => ∃ (wy : Int), σ' = [some (.ref k), some (.int many), some (.str letters), some (.ref l), some (.int (0 + i)), some (.int z), some (.str x), some (.int wy), none] ∧ NSt5 H0 k l ns H' (n + 16 * i + 11)) (fun nx2 imp2 => ?_) ?_
          · exact ⟨_, rfl, k, 4, n + 16 * i + 10, rfl, N7.sack, by omega, by decide, by decide, fun r H8 _ _ sb S8 => imp2 _ _ ⟨r, rfl, N7.pull nlk sb S8⟩⟩
          rintro σ H8 ⟨wy, rfl, N8⟩
          refine seq_cut (fun σ' H' => ∃ (x : Str), σ' = [some (.ref k), some (.int many), some (.str letters), some (.ref l), some (.int (0 + i)), some (.int z), some (.str x), some (.int wy), none] ∧ IsName x ∧ NSt5 H0 k l ns H' (n + 16 * i + 12)) (fun nx2 imp2 => ?_) ?_
          · refine ⟨_, rfl, rfl, _, rfl, ?_⟩
            refine ite2 (fun _ => ?_) (fun _ => imp2 _ _ ⟨x, rfl, hx, N8.mono (by omega)⟩)
            refine ⟨(by show 8 ≤ sizeLine; decide), fun b hb => ?_⟩
            have nbk := nek N8.sack hb
            have N8b := N8.same (same_new hb (.lst (nmsL.map V.str)))
            refine ⟨_, rfl, k, 8, n + 16 * i + 11, rfl, N8b.sack, by omega, by decide, by decide, fun r2 H9 a2 b2 sb2 S9 => ?_⟩
            obtain ⟨v, hv, hat⟩ := at_lt (xs := nmsL.map V.str) a2 (by show r2 < (8 : Int); exact b2)
            obtain ⟨y, hy, rfl⟩ := List.mem_map.mp hv
            exact ⟨b, _, _, _, rfl, rfl, SqL.of (sb2 _ _ upd_same nbk), hat, imp2 _ _ ⟨y, rfl, nms_names y hy, N8b.pull nlk sb2 S9⟩⟩
          rintro σ H9 ⟨x, rfl, hx, N9⟩
          -- like the last one
          refine seq_cut (fun σ' H' => ∃ (x : Str), σ' = [some (.ref k), some (.int many), some (.str letters), some (.ref l), some (.int (0 + i)), some (.int z), some (.str x), some (.int wy), none] ∧ IsName x ∧ NSt5 H0 k l ns H' (n + 16 * i + 13)) (fun nx2 imp2 => ?_) ?_
          · refine ⟨_, rfl, rfl, _, rfl, ?_⟩
            refine iteB (fun _ => ?_) (fun _ => iteF (imp2 _ _ ⟨x, rfl, hx, N9.mono (by omega)⟩))
            refine ⟨_, rfl, (by show 0 ≤ sizeLine; decide), fun e he => ⟨.list (ns.map PyData.str), .list [], .lst (SqL.of (by rw [upd_ne (ne_of_none N9.fd he)]; exact N9.fd)) (dp_strs ns), .lst (SqL.of upd_same) .nil, shaped_strs hAll, (by decide), _, rfl, ?_⟩⟩
            have N9e := N9.same (same_new he (.lst []))
            refine ite2 (fun c => ?_) (fun _ => imp2 _ _ ⟨x, rfl, hx, N9e.mono (by omega)⟩)
            have hne : ns ≠ [] := by
              intro z
              subst z
              exact absurd c (by decide)
            obtain ⟨y, hy, hat⟩ := last_of5 hne
            have hyn := hAll y hy
            have hyl := hyn.len
            refine ⟨_, rfl, _, rfl, l, _, _, _, rfl, rfl, SqL.of N9e.fd, hat, _, rfl, _, rfl, (Nat.le_of_lt (small1000 (by omega))), _, rfl, _, rfl, k, 26, n + 16 * i + 12, rfl, N9e.sack, by omega, by decide, by decide, fun r3 H10 a3 b3 sb3 S10 => ?_⟩
            have N10 := N9e.pull nlk sb3 S10
            refine ⟨letters, r3, 97 + r3.toNat, rfl, rfl, (by rw [letters_len]; decide), letter_at a3 b3, _, _, rfl, rfl, ?_, imp2 _ _ ⟨_, rfl, cut7_name hyn (by omega) (by omega), N10⟩⟩
            have := cutS_length y none (some 7)
            exact Nat.le_of_lt (small1000 (by show (cutS y none (some 7)).length + 1 ≤ 1000; omega))
          rintro σ H10 ⟨x, rfl, hx, N10⟩
          refine ⟨_, rfl, _, rfl, l, _, rfl, .inl (SqL.of N10.fd), rfl, flat_strs ns, _, rfl, ?_⟩
          refine iteB (fun c => ?_) (fun c => ⟨ns, _, _, _, _, rfl, N10.mono (by omega), nd, hAll, by omega, fun _ => ?_⟩)
          rotate_left
          · cases ns with
            | nil => exact absurd c (by show ¬ (!inV (.str x) []) = false; simp [inV])
            | cons a r => exact Nat.succ_le_succ (Nat.zero_le _)
          have c' : (!inV (.str x) (ns.map V.str)) = true := c
          rw [inV_str] at c'
          have hni : x ∉ ns := by simpa using c'
          refine ⟨_, rfl, .inl ⟨rfl, _, SqL.of N10.fd⟩, _, rfl, l, _, _, rfl, rfl, N10.fd, (by rw [List.length_map]; exact small1000 (by omega)), ?_⟩
          refine ⟨ns ++ [x], _, _, _, _, rfl, ⟨(N10.sack.updK nlk).mono (by omega), ?_, N10.keep.updNew hl0⟩, ?_, ?_, ?_, fun _ => by rw [List.length_append]; exact Nat.le_add_left _ _⟩
          · rw [upd_same, List.map_append]; rfl
          · refine List.nodup_append.mpr ⟨nd, List.nodup_cons.mpr ⟨by simp, .nil⟩, fun a ha b hb e => ?_⟩
            rw [e, List.mem_singleton.mp hb] at ha
            exact hni ha
          · intro y hy
            rcases List.mem_append.mp hy with z | z
            · exact hAll y z
            · rw [List.mem_singleton.mp z]; exact hx
          · rw [List.length_append, List.length_singleton]
            omega
        · rintro σ H5 ⟨ns, v4, v5, v6, v7, rfl, N5, nd, hAll, hnl, hn1⟩
          exact imp _ _ ⟨ns, v4, v5, v6, v7, rfl, N5.mono (by omega), nd, hAll, by omega, fun z => hn1 (by omega)⟩
      rintro σ H5 ⟨ns, v4, v5, v6, v7, rfl, N5, nd, hAll, hnl, hn1⟩
      exact ⟨_, rfl, q l ns H5 hl0 N5.keep N5.sack N5.fd nd hAll hnl hn1⟩
end
end My
set_option Elab.async false
set_option linter.all false
set_option maxRecDepth 100000
set_option maxHeartbeats 1000000
namespace My
open PySem L2 TL Sx
theorem GoneAll.snoc {tg : Int → List Int} {hs N M R : List Int} {h : Int} (a : GoneAll tg hs N M) : Gone tg [h] M R → GoneAll tg (hs ++ [h]) N R := by
  induction a with
  | nil => intro b; exact .cons b .nil
  | cons d _ ih => intro b; exact .cons d (ih b)
abbrev rowsI (n : Nat) : List Int := (List.range n).map fun (i : Nat) => (i : Int)
structure Least (names : List Str) (pg : Str → Prog) (rs : Prog) (gs : List Int) : Prop where
  dst : ∀ p q t, IsTr rs p t → IsTr rs q t → p = q
  dfs : GoneAll (tgF rs) gs [] (rowsI rs.length)
  sum : rs.length ≤ (names.map fun x => (pg x).length).sum
end My
set_option Elab.async false
set_option linter.all false
set_option maxRecDepth 100000
set_option maxHeartbeats 1000000
namespace My
open PySem L2 TL Sx
abbrev sChain : Stmt := top 25
theorem paired_at5 {α β : Type} {R : α → β → Prop} : ∀ {xs : List α} {ys : List β} {j : Nat} {y : β}, Paired R xs ys → ys[j]? = some y → ∃ x, xs[j]? = some x ∧ R x y
  | _, _, _, _, .nil, e => by simp at e
  | _, _, 0, _, .cons r _, e => by simp at e; subst e; exact ⟨_, rfl, r⟩
  | _, _, j + 1, y, .cons _ t, e => by
    obtain ⟨x, h1, h2⟩ := paired_at5 (j := j) (y := y) t (by simpa using e)
    exact ⟨x, by simpa using h1, h2⟩
/-- rows' orders, one of which each row has -/
def PoolAt (o : OwnD) (H : Hp) (pool : List (List Ordr)) (pvs : List V) : Prop := Paired (fun cs v => ∃ (t : Addr) (ys : List V), v = .ref t ∧ H t = some (.tup ys) ∧ OrdsM o H cs ys) pool pvs
theorem PoolAt.keep {o : OwnD} {H H' : Hp} (k : KeepT H H') {pool : List (List Ordr)} {pvs : List V} (h : PoolAt o H pool pvs) : PoolAt o H' pool pvs := Paired.mapP h fun _ _ ⟨t, ys, e1, e2, e3⟩ => ⟨t, ys, e1, k _ _ e2, e3.keep k⟩
theorem pool_mem {o : OwnD} {H : Hp} {pool : List (List Ordr)} {pvs : List V} (h : PoolAt o H pool pvs) {v : V} (hv : v ∈ pvs) : ∃ (cs : List Ordr) (t : Addr) (ys : List V), v = .ref t ∧ H t = some (.tup ys) ∧ OrdsM o H cs ys := by
  obtain ⟨j, hj⟩ := List.getElem?_of_mem hv
  obtain ⟨cs, _, r⟩ := paired_at5 h hj
  exact ⟨cs, r⟩
def spChain : Sp := fun vs H Q _ => ∃ (k p pl : Addr) (n : Nat) (o : OwnD) (m : Nat) (pvs : List V) (pool : List (List Ordr)), vs = [.ref k, .ref p, .int m, .ref pl] ∧ Sack H k n ∧ n < 50000 ∧ Tp H (.ref p) (ownD o) ∧ OwnOk o ∧ m ≤ 300 ∧ H pl = some (.lst pvs) ∧ pl ≠ k ∧ PoolAt o H pool pvs ∧ 0 < pvs.length ∧ pvs.length ≤ 1000 ∧
  ∀ (a : Addr) (vs : List V) (g : Prog) (H' : Hp), SameBut k H H' → Sack H' k (n + 120 * m) → H' a = some (.tup vs) → RowsAt o H' g vs → g.length = m → ProgOk o m g → Q (.ref a) H'
abbrev NCh : List Str := ["bag", "kit", "many", "pool", "rows", "k", "left", "way", "ahead", "onward", "j"]
abbrev rMaxK : List V → Hp → VK → Prop := fun xs H Q => ∃ i j, xs = [.int i, .int j] ∧ Q (.int (if j > i then j else i)) H
section
variable {P : Program} {w : World} {K : PySem.W.Frag} {mg : Str → Option Value} {base : Heap}
theorem scChain : FnScope NCh ["bag", "kit", "many", "pool"] (defScope sChain) := ⟨rfl, rfl, rfl, by decide +kernel, rfl, by decide +kernel, by decide +kernel⟩
theorem ok_chain {f : Addr} {fd : FuncData} (F : Fun K "_law_chain" "_law_chain" sChain f fd) (dP : Df K mg "_law_draw" sPull ["bag", "many"]) (dC : Df K mg "_law_place" sPlace ["bag", "kit"]) (B : Bl mg) : FnOk P w K mg base CX0 3 f fd ["bag", "kit", "many", "pool"] spChain := by
  have GP : FnOk P w K mg base CX0 1 dP.f dP.fd ["bag", "many"] spPull := ok_pull dP.F
  have GC : FnOk P w K mg base CX0 2 dC.f dC.fd ["bag", "kit"] spSpot := ok_place dC.F dP B
  refine F.ok scChain (fun vs H Q E h => ?_) (fun cdv A outer s H vs Q E hr h => ?_)
  · obtain ⟨k, p, pl, n, o, m, pvs, pool, rfl, _⟩ := h
    rfl
  · obtain ⟨k, p, pl, n, o, m, pvs, pool, rfl, S0, hn, hT, hO, hm, hL, nlk, hPl, hp0, hp1, q⟩ := h
    have hr1 : Room 1 _ := hr.mono (by decide)
    have hr2 : Room 2 _ := hr.mono (by decide)
    refine ⟨_, pss_cons (ps_set (i := 4) scChain.nd rfl (Or.inl rfl) (pe_lst pa_nil))
      (pss_cons (ps_for PassesOwn.never rfl (pi_range1 rfl B.range (pa_cons (pv 2) pa_nil)) (pg_name (i := 5) scChain.nd rfl (Or.inr rfl))
        (pss_cons (ps_set (i := 6) scChain.nd rfl (Or.inr rfl) (pe_op op_sub (pe_op op_sub (pv 2) pe_int) (pv 5)))
        (pss_cons (ps_set (i := 7) scChain.nd rfl (Or.inl rfl) (pe_call GP hr1 rfl dP.m dP.F.kp dP.b .nil pass0 (pa_cons (pv 0) (pa_cons pe_int pa_nil))))
        (pss_cons (ps_setLc (i := 8) (own := [("j", 10)]) (g := gName 10) (te := tOp (rI0 fun i j => V.int (i + j)) (tOp (rI0 fun i j => V.int (i + j)) (tVar 5) (tC (.int 1))) (tCall spPull [] E0 (tCons (tVar 0) (tCons (tOp (rIxL K) (tLst (tCons (tC (.int 1)) (tCons (tC (.int 1)) (tCons (tCB rMaxK (tCons (tC (.int 1)) (tCons (tVar 6) tNil))) tNil)))) (tCall spPull [] E0 (tCons (tVar 0) (tCons (tC (.int 3)) tNil)))) tNil)))) (by rfl) scChain.nd rfl rfl (sw_true (by rfl) (by rfl) (by rfl) (by rfl))
          (pi_range1 rfl B.range (pa_cons pe_int pa_nil)) (blkOk_by (own := [("j", 10)]) (N := NCh) (sc := defScope sChain) (by decide +kernel))
          (fun _ _ _ _ _ => pg_name (i := 10) scChain.nd rfl (Or.inl rfl)) (fun _ _ _ _ _ => pts_nil)
          (fun _ _ _ _ _ => pe_op op_add (pe_op op_add (pv 5) pe_int) (pe_call GP hr1 rfl dP.m dP.F.kp dP.b .nil pass0 (pa_cons (pv 0) (pa_cons (pe_ix ix_list (pe_lst (pa_cons pe_int (pa_cons pe_int (pa_cons (pe_callB (call_max2 rfl) (by rfl) B.max (by decide +kernel) (pa_cons pe_int (pa_cons (pv 6) pa_nil))) pa_nil)))) (pe_call GP hr1 rfl dP.m dP.F.kp dP.b .nil pass0 (pa_cons (pv 0) (pa_cons pe_int pa_nil))) (fun _ _ => rfl)) pa_nil)))))
        (pss_cons (ps_set (i := 9) scChain.nd rfl (Or.inl rfl) (pe_tup (pa_cons pe_str pa_nil)))
        (pss_cons (ps_if (PW.pt (pw_and (pt_cmpR op_gt (pv 6) pe_int (nomark _)) (pw_and1 (pt_cmpR op_gt (pv 7) pe_int (nomark _)))))
          (pss_one (ps_set (i := 9) scChain.nd rfl (Or.inl rfl) (pe_ix ix_list (pe_lst (pa_cons (pe_tup (pa_cons pe_str (pa_cons (pe_ix ix_list (pv 8) pe_int (fun _ _ => rfl)) pa_nil))) (pa_cons (pe_tup (pa_cons pe_str (pa_cons (pe_call GC hr2 rfl dC.m dC.F.kp dC.b .nil pass0 (pa_cons (pv 0) (pa_cons (pv 1) pa_nil))) (pa_cons (pe_ix ix_list (pv 8) pe_int (fun _ _ => rfl)) (pa_cons (pe_ix ix_list (pv 8) pe_int (fun _ _ => rfl)) pa_nil))))) pa_nil))) (pe_callTy call_int1 (by rfl) B.int (by decide +kernel) (pa_cons (pe_cmpR op_gt (pv 7) pe_int (nomark _)) pa_nil)) (fun _ _ => rfl)))) pss_nil)
        (pss_one (ps_expr (pe_bm PySem.F.plainAttrs_list PySem.F.slot_list_append PySem.F.type_list_append mt_append (pv 4) (pa_cons (pe_tup (pa_cons (pe_ix ix_list (pv 3) (pe_call GP hr1 rfl dP.m dP.F.kp dP.b .nil pass0 (pa_cons (pv 0) (pa_cons (pe_callB call_len_seq (by rfl) B.len PySem.boot_len (pa_cons (pv 3) pa_nil)) pa_nil))) (fun _ _ => rfl)) (pa_cons (pv 9) pa_nil))) pa_nil))))))))))
      (pss_one (ps_ret (pe_callTy call_tuple_of (by rfl) B.tup (by decide +kernel) (pa_cons (pv 4) pa_nil))))), ?read⟩
    case read =>
      have nek : ∀ {H1 : Hp} {m : Nat} {b : Addr}, Sack H1 k m → H1 b = none → b ≠ k := fun S hb => by
        obtain ⟨_, _, _, z, _⟩ := S
        exact (ne_of_none z hb).symm
      refine seq_cut (fun σ' H' => ∃ R : Addr, σ' = [some (.ref k), some (.ref p), some (.int m), some (.ref pl), some (.ref R), none, none, none, none, none, none] ∧ Sack H' k n ∧ H' R = some (.lst []) ∧ R ≠ k ∧ H R = none ∧ SameBut k H H') (fun nx imp => ?_) ?_
      · refine ⟨(by show 0 ≤ sizeLine; decide), fun R hR => ?_⟩
        exact imp _ _ ⟨R, rfl, S0.same (same_new hR _), upd_same, nek S0 hR, hR, SameBut.new hR⟩
      rintro σ H1 ⟨R, rfl, S1, hR1, nRk, hR0, sb1⟩
      refine seq_cut (fun σ' H' => ∃ (vs : List V) (g : Prog) (v4 v5 v6 v7 v8 : Option V), σ' = [some (.ref k), some (.ref p), some (.int m), some (.ref pl), some (.ref R), v4, v5, v6, v7, v8, none] ∧ Sack H' k (n + 120 * m) ∧ H' R = some (.lst vs) ∧ RowsAt o H' g vs ∧ g.length = m ∧ ProgOk o m g ∧ SameBut k H H') (fun nx imp => ?_) ?_
      · refine ⟨_, rfl, (m : Int), rfl, by omega, by omega, ?_⟩
        refine for_range (lo := 0) (n := (m : Int).toNat) (fun i σ H2 => ∃ (vs : List V) (g : Prog) (v4 v5 v6 v7 v8 : Option V), σ = [some (.ref k), some (.ref p), some (.int m), some (.ref pl), some (.ref R), v4, v5, v6, v7, v8, none] ∧ Sack H2 k (n + 120 * i) ∧ H2 R = some (.lst vs) ∧ RowsAt o H2 g vs ∧ g.length = i ∧ vs.length = i ∧ ProgOk o m g ∧ SameBut k H H2)
          ⟨[], [], none, none, none, none, none, rfl, S1, hR1, .nil, rfl, rfl, (fun i r e => by simp at e), sb1⟩ ?_ ?_
        · rintro i σ H2 hi ⟨vs, g, v4, v5, v6, v7, v8, rfl, S2, hR2, hG2, hg2, hv2, hP2, sb2⟩
          have him : i < m := by omega
          -- left
          refine seq_cut (fun σ' H' => σ' = [some (.ref k), some (.ref p), some (.int m), some (.ref pl), some (.ref R), some (.int (0 + i)), some (.int ((m : Int) - 1 - (0 + i))), v6, v7, v8, none] ∧ H' = H2) (fun nx2 imp2 => ?_) ?_
          · exact ⟨_, rfl, _, _, rfl, rfl, _, rfl, _, _, rfl, rfl, imp2 _ _ ⟨rfl, rfl⟩⟩
          rintro σ H2' ⟨rfl, eH⟩
          subst eH
          -- way
          refine seq_cut (fun σ' H' => ∃ wy : Int, σ' = [some (.ref k), some (.ref p), some (.int m), some (.ref pl), some (.ref R), some (.int (0 + i)), some (.int ((m : Int) - 1 - (0 + i))), some (.int wy), v7, v8, none] ∧ Sack H' k (n + 120 * i + 1) ∧ SameBut k H2' H') (fun nx2 imp2 => ?_) ?_
          · exact ⟨_, rfl, k, 8, _, rfl, S2, by omega, by decide, by decide, fun r H3 _ _ sb3 S3 => imp2 _ _ ⟨r, rfl, S3, sb3⟩⟩
          rintro σ H3 ⟨wy, rfl, S3, sb3⟩
          -- ahead
          refine seq_cut (fun σ' H' => ∃ (A : Addr) (x y : Int), σ' = [some (.ref k), some (.ref p), some (.int m), some (.ref pl), some (.ref R), some (.int (0 + i)), some (.int ((m : Int) - 1 - (0 + i))), some (.int wy), some (.ref A), v8, none] ∧ Sack H' k (n + 120 * i + 5) ∧ H' A = some (.lst [.int x, .int y]) ∧ A ≠ k ∧ (0 < (m : Int) - 1 - (0 + i) → ((i : Int) < x ∧ x < m) ∧ (i : Int) < y ∧ y < m) ∧ SameBut k H2' H') (fun nx2 imp2 => ?_) ?_
          · refine ⟨2, rfl, by decide, by decide, fun D0 hD => ?_⟩
            have nDk := nek S3 hD
            refine lc_range (lo := 0) (n := (2 : Int).toNat) (fun j H4 => ∃ ns : List Int, H4 D0 = some (.lst (ns.map V.int)) ∧ ns.length = j ∧ (∀ x ∈ ns, 0 < (m : Int) - 1 - (0 + i) → (i : Int) < x ∧ x < m) ∧ Sack H4 k (n + 120 * i + 1 + 2 * j) ∧ SameBut k H3 H4)
              ⟨[], upd_same, rfl, (fun x hx => nomatch hx), S3.same (same_new hD _), SameBut.new hD⟩ ?_ ?_
            · rintro j H4 hj ⟨ns, d1, d2, d3, S4, sb4⟩
              have hj : j < 2 := hj
              refine ⟨rfl, _, rfl, _, _, rfl, rfl, _, rfl, _, rfl, _, _, rfl, (by show 3 ≤ sizeLine; decide), fun b hb => ?_⟩
              have nbk := nek S4 hb
              have sB := same_new hb (.lst [V.int 1, V.int 1, V.int (if (m : Int) - 1 - (0 + i) > 1 then (m : Int) - 1 - (0 + i) else 1)])
              refine ⟨_, rfl, k, 3, _, rfl, S4.same sB, by omega, by decide, by decide, fun r5 H5 a5 b5 sb5 S5 => ?_⟩
              obtain ⟨v, hv, hat⟩ := at_lt (xs := [V.int 1, V.int 1, V.int (if (m : Int) - 1 - (0 + i) > 1 then (m : Int) - 1 - (0 + i) else 1)]) a5 (by show r5 < (3 : Int); exact b5)
              obtain ⟨c, rfl, c0, c1, c2⟩ : ∃ c : Int, v = .int c ∧ 1 ≤ c ∧ c ≤ 300 ∧ (0 < (m : Int) - 1 - (0 + i) → c ≤ (m : Int) - 1 - (0 + i)) := by
                rcases List.mem_cons.mp hv with z | z
                · exact ⟨1, z, by omega, by omega, by omega⟩
                rcases List.mem_cons.mp z with z | z
                · exact ⟨1, z, by omega, by omega, by omega⟩
                · exact ⟨_, List.mem_singleton.mp z, by split <;> omega, by split <;> omega, by split <;> omega⟩
              refine ⟨b, _, _, _, rfl, rfl, SqL.of (sb5 _ _ upd_same nbk), hat, k, c, _, rfl, S5, by omega, by omega, by omega, fun r6 H6 a6 b6 sb6 S6 => ⟨_, _, rfl, rfl, ?_⟩⟩
              have d16 := sb6 _ _ (sb5 _ _ (sB _ _ d1) nDk) nDk
              refine ⟨_, d16, ?_, ns ++ [(0 : Int) + i + 1 + r6], ?_, ?_, ?_, ?_, ?_⟩
              · rw [List.length_map]
                exact small1000 (by omega)
              · rw [upd_same, List.map_append]; rfl
              · rw [List.length_append, d2]; rfl
              · intro x hx hl
                rcases List.mem_append.mp hx with z | z
                · exact d3 x z hl
                · rw [List.mem_singleton.mp z]
                  have := c2 hl
                  omega
              · exact (S6.updK nDk).mono (by omega)
              · exact (sb4.trans (sB.but.trans (sb5.trans sb6))).updNew hD
            · rintro H4 ⟨ns, d1, d2, d3, S4, sb4⟩
              have d2 : ns.length = 2 := d2
              obtain ⟨x, y, rfl⟩ : ∃ x y, ns = [x, y] := by
                match ns, d2 with
                | [x, y], _ => exact ⟨x, y, rfl⟩
              have S4' : Sack H4 k (n + 120 * i + 1 + 2 * 2) := S4
              exact imp2 _ _ ⟨D0, x, y, rfl, S4'.mono (by omega), d1, nDk, fun hl => ⟨d3 x List.mem_cons_self hl, d3 y (List.mem_cons_of_mem _ List.mem_cons_self) hl⟩, sb3.trans sb4⟩
          rintro σ H4 ⟨A, x, y, rfl, S4, hA4, nAk, hxy, sb4⟩
          -- end
          refine seq_cut (fun σ' H' => ∃ (b : Addr), σ' = [some (.ref k), some (.ref p), some (.int m), some (.ref pl), some (.ref R), some (.int (0 + i)), some (.int ((m : Int) - 1 - (0 + i))), some (.int wy), some (.ref A), some (.ref b), none] ∧ Sack H' k (n + 120 * i + 5) ∧ H' A = some (.lst [.int x, .int y]) ∧ Tp H' (.ref b) (onwD .fin) ∧ SameBut k H2' H') (fun nx2 imp2 => ?_) ?_
          · refine ⟨(by show 1 ≤ sizeLine; decide), fun b hb => ?_⟩
            have sB := same_new hb (.tup [V.str (Str.ofString "end")])
            exact imp2 _ _ ⟨b, rfl, S4.same sB, sB _ _ hA4, .tup upd_same (.cons (.str _) .nil), sb4.trans sB.but⟩
          rintro σ H5 ⟨b0, rfl, S5, hA5, t0, sb5⟩
          -- onward
          refine seq_cut (fun σ' H' => ∃ (b : Addr) (u : Onw), σ' = [some (.ref k), some (.ref p), some (.int m), some (.ref pl), some (.ref R), some (.int (0 + i)), some (.int ((m : Int) - 1 - (0 + i))), some (.int wy), some (.ref A), some (.ref b), none] ∧ Sack H' k (n + 120 * i + 8) ∧ Tp H' (.ref b) (onwD u) ∧ OnwOk o m (i : Nat) u ∧ SameBut k H2' H') (fun nx2 imp2 => ?_) ?_
          · have els : nx2 [some (.ref k), some (.ref p), some (.int m), some (.ref pl), some (.ref R), some (.int (0 + i)), some (.int ((m : Int) - 1 - (0 + i))), some (.int wy), some (.ref A), some (.ref b0), none] H5 := imp2 _ _ ⟨b0, .fin, rfl, S5.mono (by omega), t0, trivial, sb5⟩
            refine ⟨_, rfl, _, _, rfl, rfl, _, rfl, ?_⟩
            refine iteB (fun c => ?_) (fun c => iteF els)
            have c : decide (0 < (m : Int) - 1 - (0 + i)) = true := c
            obtain ⟨hx, hy⟩ := hxy (of_decide_eq_true c)
            refine ⟨_, rfl, _, _, rfl, rfl, _, rfl, ?_⟩
            refine ite2 (fun _ => ?_) (fun _ => els)
            refine ⟨_, rfl, A, _, _, _, rfl, rfl, SqL.of hA5, at0, (by show 2 ≤ sizeLine; decide), fun g1 hg1 => ?_⟩
            have z1 := same_new hg1 (.tup [V.str (Str.ofString "go"), V.int x])
            have S6 := S5.same z1
            have T6 := hT.keep ((S0.keepT sb2).trans ((S2.keepT sb5).trans (KeepT.of z1)))
            refine ⟨_, rfl, _, rfl, k, p, _, o, rfl, S6, by omega, T6, hO, fun a7 c7 H7 sb7 S7 t7 o7 => ?_⟩
            have hA7 := sb7 _ _ (z1 _ _ hA5) nAk
            refine ⟨_, rfl, A, _, _, _, rfl, rfl, SqL.of hA7, at0, _, rfl, A, _, _, _, rfl, rfl, SqL.of hA7, atOne, (by show 4 ≤ sizeLine; decide), fun g2 hg2 => ⟨(by show 2 ≤ sizeLine; decide), fun L hL => ?_⟩⟩
            have z2 := same_new hg2 (.tup [V.str (Str.ofString "test"), V.ref a7, V.int x, V.int y])
            have z3 := same_new hL (.lst [V.ref g1, V.ref g2])
            have z23 := z2.trans z3
            refine ⟨_, rfl, _, _, rfl, rfl, .inr ⟨_, rfl, ?_⟩⟩
            have ng1 : g1 ≠ k := nek S5 hg1
            have k67 := S6.keepT sb7
            have tg : Tp (upd (upd H7 g2 (.tup [V.str (Str.ofString "test"), V.ref a7, V.int x, V.int y])) L (.lst [V.ref g1, V.ref g2])) (.ref g1) (onwD (.go x)) := .tup (z23 _ _ (k67 _ _ upd_same)) (.cons (.str _) (.cons (.int _) .nil))
            have tt : Tp (upd (upd H7 g2 (.tup [V.str (Str.ofString "test"), V.ref a7, V.int x, V.int y])) L (.lst [V.ref g1, V.ref g2])) (.ref g2) (onwD (.test c7 x y)) := .tup (z3 _ _ upd_same) (.cons (.str _) (.cons (t7.keep (KeepT.of z23)) (.cons (.int _) (.cons (.int _) .nil))))
            have sbF := sb5.trans (z1.but.trans (sb7.trans z23.but))
            have SF := (S7.same z23).mono (show n + 120 * i + 5 + 2 ≤ n + 120 * i + 8 by omega)
            cases dw : decide ((3 : Int) < wy) with
            | true => exact ⟨L, _, _, _, rfl, rfl, SqL.of upd_same, atOne, imp2 _ _ ⟨g2, .test c7 x y, rfl, SF, tt, ⟨o7, hx, hy⟩, sbF⟩⟩
            | false => exact ⟨L, _, _, _, rfl, rfl, SqL.of upd_same, at0, imp2 _ _ ⟨g1, .go x, rfl, SF, tg, hx, sbF⟩⟩
          rintro σ H6 ⟨b, u, rfl, S6, tu, ou, sb6⟩
          -- the row
          have k6 := S2.keepT sb6
          have hR6 := sb6 _ _ hR2 nRk
          have hL6 := sb6 _ _ (sb2 _ _ hL nlk) nlk
          refine ⟨_, rfl, .inl ⟨rfl, _, SqL.of hR6⟩, _, rfl, _, rfl, _, rfl, pl, _, rfl, .inl (SqL.of hL6), k, _, _, rfl, S6, by omega, by omega, by omega, fun r7 H7 a7 b7 sb7 S7 => ?_⟩
          obtain ⟨v7, hv7, hat7⟩ := at_lt a7 b7
          obtain ⟨cs, t, ys, rfl, hY0, oM0⟩ := pool_mem hPl hv7
          have hY := ((S0.keepT sb2).trans ((S2.keepT sb6).trans (S6.keepT sb7))) _ _ hY0
          have oM := oM0.keep ((S0.keepT sb2).trans ((S2.keepT sb6).trans (S6.keepT sb7)))
          refine ⟨pl, _, _, _, rfl, rfl, SqL.of (sb7 _ _ hL6 nlk), hat7, _, rfl, (by show 2 ≤ sizeLine; decide), fun a ha => ?_⟩
          have k7 := S6.keepT sb7
          have sA := same_new ha (.tup [V.ref t, V.ref b])
          have hR8 := sA _ _ (sb7 _ _ hR6 nRk)
          refine ⟨R, _, _, rfl, rfl, hR8, small1000 (by omega), ?_⟩
          have kU : KeepT _ (upd (upd H7 a (.tup [V.ref t, V.ref b])) R (.lst (vs ++ [V.ref a]))) := KeepT.upd hR8
          have kA := (KeepT.of sA).trans kU
          refine ⟨vs ++ [.ref a], g ++ [(cs, u)], _, _, _, _, _, rfl, (((S7.same sA).updK nRk).mono (by omega)), upd_same, ?_, ?_, ?_, ?_, (sb2.trans (sb6.trans (sb7.trans sA.but))).updNew hR0⟩
          · exact paired_snocK ⟨a, t, b, ys, rfl, kU _ _ upd_same, kA _ _ hY, oM.keep kA, (tu.keep k7).keep kA⟩ (hG2.keep (k6.trans (k7.trans kA)))
          · rw [List.length_append, hg2]; rfl
          · rw [List.length_append, hv2]; rfl
          · intro j r e
            by_cases c : j < g.length
            · rw [List.getElem?_append_left c] at e
              exact hP2 j r e
            · rw [List.getElem?_append_right (by omega)] at e
              have ej : j - g.length = 0 := by
                have := (List.getElem?_eq_some_iff.mp e).1
                simp at this
                omega
              rw [ej] at e
              have e : (cs, u) = r := Option.some.inj e
              subst e
              have : j = i := by omega
              rw [this]
              exact ou
        · rintro σ H2 ⟨vs, g, v4, v5, v6, v7, v8, rfl, S2, hR2, hG2, hg2, hv2, hP2, sb2⟩
          exact imp _ _ ⟨vs, g, v4, v5, v6, v7, v8, rfl, S2.mono (by omega), hR2, hG2, by omega, hP2, sb2⟩
      rintro σ H2 ⟨vs, g, v4, v5, v6, v7, v8, rfl, S2, hR2, hG2, hg2, hP2, sb2⟩
      refine ⟨_, rfl, R, _, rfl, .inl ⟨SqL.of hR2, fun t ht => ?_⟩⟩
      have sT := same_new ht (.tup vs)
      exact q t vs g _ (sb2.trans sT.but) (S2.same sT) upd_same (hG2.keep (KeepT.of sT)) hg2 hP2
end
end My
set_option Elab.async false
set_option linter.all false
set_option maxRecDepth 100000
set_option maxHeartbeats 1000000
namespace My
open PySem L2 TL Sx
theorem eqv_deep : ∀ (n : Nat) (d e : PyData), deepB n d = true → deepB n e = true → (PyData.eqv d e = true ↔ d = e)
  | 0, d, e, hd, he => by
    cases d <;> first
      | (exact absurd hd Bool.false_ne_true)
      | (cases e <;> first
          | (exact absurd he Bool.false_ne_true)
          | (simp [PyData.eqv]))
  | n + 1, d, e, hd, he => by
    have all : ∀ (l1 l2 : List PyData), l1.all (deepB n) = true → l2.all (deepB n) = true → (PyData.eqvAll l1 l2 = true ↔ l1 = l2) := by
      intro l1
      induction l1 with
      | nil =>
        intro l2 _ _
        cases l2 with
        | nil => simp [PyData.eqvAll]
        | cons y l2 => simp [PyData.eqvAll]
      | cons x l1 ih =>
        intro l2 h1 h2
        cases l2 with
        | nil => simp [PyData.eqvAll]
        | cons y l2 =>
          rw [List.all_cons, Bool.and_eq_true] at h1 h2
          simp only [PyData.eqvAll, Bool.and_eq_true]
          rw [eqv_deep n x y h1.1 h2.1, ih l2 h1.2 h2.2]
          constructor
          · rintro ⟨a, b⟩; rw [a, b]
          · intro z; cases z; exact ⟨rfl, rfl⟩
    cases d <;> first
      | (exact absurd hd Bool.false_ne_true)
      | (cases e <;> first
          | (exact absurd he Bool.false_ne_true)
          | (simp [PyData.eqv]; done)
          | (have z := all _ _ hd he
             show PyData.eqvAll _ _ = true ↔ _
             rw [z]
             constructor
             · intro h; rw [h]
             · intro h; injection h))
theorem eqvAll_deep {n : Nat} {l1 l2 : List PyData} (h1 : l1.all (deepB n) = true) (h2 : l2.all (deepB n) = true) : PyData.eqvAll l1 l2 = true ↔ l1 = l2 := by
  have := eqv_deep (n + 1) (.tuple l1) (.tuple l2) h1 h2
  constructor
  · intro h
    have := this.mp h
    injection this
  · intro h
    exact this.mpr (by rw [h])
def partsD : Onw → List PyData
  | .fin => [.str "end"]
  | .go _ => [.str "go"]
  | .test c _ _ => [.str "test", plcD c]
def faceD (L : List PyData → PyData) (r : List Ordr × Onw) : PyData := .tuple [.tuple (r.1.map ordD), L (partsD r.2)]
theorem parts_ren (f : Int → Int) (u : Onw) : partsD (renO f u) = partsD u := by cases u <;> rfl
theorem parts_inj {u v : Onw} (h : partsD u = partsD v) : renO (fun _ => 0) u = renO (fun _ => 0) v := by
  have g1 : (Str.ofString "end") ≠ Str.ofString "go" := by decide +kernel
  cases u with
  | fin => cases v with
    | fin => rfl
    | go j => injection h with h _; injection h with h; exact absurd h g1
    | test c i j => injection h with _ h; cases h
  | go i => cases v with
    | fin => injection h with h _; injection h with h; exact absurd h.symm g1
    | go j => rfl
    | test c i j => injection h with _ h; cases h
  | test c i j => cases v with
    | fin => injection h with _ h; cases h
    | go j => injection h with _ h; cases h
    | test c2 i2 j2 =>
      injection h with _ h
      injection h with h _
      show Onw.test c 0 0 = Onw.test c2 0 0
      rw [plcD_inj h]
theorem deep_parts (u : Onw) : (partsD u).all (deepB 2) = true := by
  cases u with
  | fin => show (deepB 2 (.str _) && true) = true; rw [deep_s]; rfl
  | go j => show (deepB 2 (.str _) && true) = true; rw [deep_s]; rfl
  | test c i j => show (deepB 2 (.str _) && (deepB 2 (plcD c) && true)) = true; rw [deep_s, deep_plc5]; rfl
theorem deep_ords (cs : List Ordr) : (cs.map ordD).all (deepB 2) = true := by
  rw [List.all_eq_true]
  intro d hd
  obtain ⟨c, _, rfl⟩ := List.mem_map.mp hd
  exact deep_ord5 0 c
def faceB (r s : List Ordr × Onw) : Bool := PyData.eqvAll (r.1.map ordD) (s.1.map ordD) && PyData.eqvAll (partsD r.2) (partsD s.2)
theorem faceB_iff {r s : List Ordr × Onw} : faceB r s = true ↔ face r = face s := by
  unfold faceB
  rw [Bool.and_eq_true, eqvAll_deep (deep_ords _) (deep_ords _), eqvAll_deep (deep_parts _) (deep_parts _)]
  unfold face
  constructor
  · rintro ⟨a, b⟩
    rw [map_inj (fun _ _ => ordD_inj5) a, parts_inj b]
  · intro h
    injection h with h1 h2
    refine ⟨by rw [h1], ?_⟩
    rw [← parts_ren (fun _ => 0) r.2, h2, parts_ren]
theorem faceB_tup (r s : List Ordr × Onw) : PyData.eqv (faceD .tuple r) (faceD .tuple s) = faceB r s := by
  show (PyData.eqvAll (r.1.map ordD) (s.1.map ordD) && (PyData.eqvAll (partsD r.2) (partsD s.2) && true)) = _
  rw [Bool.and_true]
  rfl
theorem faceB_lst (r s : List Ordr × Onw) : PyData.eqv (faceD .list r) (faceD .list s) = faceB r s := by
  show (PyData.eqvAll (r.1.map ordD) (s.1.map ordD) && (PyData.eqvAll (partsD r.2) (partsD s.2) && true)) = _
  rw [Bool.and_true]
  rfl
theorem lay_parts {o : OwnD} (hO : OwnOk o) {u : Onw} (h : PlcT o u) : PyData.canLayAll0 (partsD u) = true ∧ PyData.depthAll (partsD u) ≤ 1 := by
  cases u with
  | fin =>
    refine ⟨?_, by show max 0 0 ≤ 1; decide⟩
    show (PyData.strOk (Str.ofString "end") && true) = true
    rw [strOk_w.1]
    rfl
  | go j =>
    refine ⟨?_, by show max 0 0 ≤ 1; decide⟩
    show (PyData.strOk (Str.ofString "go") && true) = true
    rw [strOk_w.2.1]
    rfl
  | test c i j =>
    obtain ⟨l1, l2⟩ := lay_plc hO (h c i j rfl)
    refine ⟨?_, ?_⟩
    · show (PyData.strOk (Str.ofString "test") && (PyData.canLay0 (plcD c) && true)) = true
      rw [strOk_w.2.2, l1]
      rfl
    · show max 0 (max (PyData.depth (plcD c)) 0) ≤ 1
      rw [l2]
      decide
theorem shaped_face {o : OwnD} (hO : OwnOk o) {r : List Ordr × Onw} (h1 : ∀ c ∈ r.1, OrdOk o c) (h2 : PlcT o r.2) : SeqAt.shaped (faceD .tuple r) = true ∧ SeqAt.shaped (faceD .list r) = true := by
  obtain ⟨a1, a2⟩ := lay_ords hO h1
  obtain ⟨b1, b2⟩ := lay_parts hO h2
  refine ⟨shaped_of ?_ ?_, shaped_of ?_ ?_⟩
  · show (PyData.canLayAll0 (r.1.map ordD) && (PyData.canLayAll0 (partsD r.2) && true)) = true
    rw [a1, b1]
    rfl
  · show max (PyData.depthAll (r.1.map ordD) + 1) (max (PyData.depthAll (partsD r.2) + 1) 0) + 1 ≤ 60
    omega
  · show (PyData.canLayAll0 (r.1.map ordD) && (PyData.canLayAll0 (partsD r.2) && true)) = true
    rw [a1, b1]
    rfl
  · show max (PyData.depthAll (r.1.map ordD) + 1) (max (PyData.depthAll (partsD r.2) + 1) 0) + 1 ≤ 60
    omega
end My
set_option Elab.async false
set_option linter.all false
set_option maxRecDepth 100000
set_option maxHeartbeats 2000000
namespace My
open PySem L2 TL Sx
abbrev sWhole : Stmt := top 4
abbrev sBetween : Stmt := top 5
abbrev sFace : Stmt := top 10
theorem kitII {K : PySem.W.Frag} : PySem.W.kitOne K (.type "int") (.type "int") = some true := by rfl
theorem kitSI {K : PySem.W.Frag} : PySem.W.kitOne K (.type "str") (.type "int") = some false := by rfl
theorem kitTI {K : PySem.W.Frag} : PySem.W.kitOne K (.type "tuple") (.type "int") = some false := by rfl
theorem kitIB {K : PySem.W.Frag} : PySem.W.kitOne K (.type "int") (.type "bool") = some false := by rfl
def spWholeI : Sp := fun vs H Q _ => ∃ i : Int, vs = [.int i] ∧ Q (.bl true) H
def spBetwI : Sp := fun vs H Q _ => ∃ i a b : Int, vs = [.int i, .int a, .int b] ∧ a ≤ i ∧ i ≤ b ∧ Q (.bl true) H
def spFace : Sp := fun vs H Q _ => ∃ (a : Addr) (o : OwnD) (r : List Ordr × Onw), vs = [.ref a] ∧ RowAt o H (.ref a) r ∧ ∀ (t : Addr) (H' : Hp), Same H H' → Tp H' (.ref t) (faceD .tuple r) → Q (.ref t) H'
/-- the parts of a next: numbers or not -/
theorem onw_parts {H : Hp} {b : Addr} {u : Onw} (hB : Tp H (.ref b) (onwD u)) : ∃ xs : List V, H b = some (.tup xs) ∧ xs.length ≤ 4 ∧ (∀ x ∈ xs, (∃ i, x = .int i) ∨ (∃ z, x = .str z) ∨ ∃ a zs, x = .ref a ∧ H a = some (.tup zs)) ∧
    xs.filter (fun x => match x with | .int _ => true | _ => false) = (tgts u).map V.int ∧ TpAll H (xs.filter (fun x => match x with | .int _ => false | _ => true)) (partsD u) := by
  cases u with
  | fin =>
    refine ⟨_, onw_fin hB, (by show 1 ≤ 4; decide), fun x hx => ?_, rfl, .cons (.str _) .nil⟩
    rw [List.mem_singleton.mp hx]
    exact .inr (.inl ⟨_, rfl⟩)
  | go j =>
    refine ⟨_, onw_go hB, (by show 2 ≤ 4; decide), fun x hx => ?_, rfl, .cons (.str _) .nil⟩
    rcases List.mem_cons.mp hx with z | z
    · rw [z]; exact .inr (.inl ⟨_, rfl⟩)
    · rw [List.mem_singleton.mp z]; exact .inl ⟨_, rfl⟩
  | test c i j =>
    obtain ⟨a, e, ta⟩ := onw_test hB
    obtain ⟨a', zs, ea, ez⟩ := plc_ref ta
    cases ea
    refine ⟨_, e, (by show 4 ≤ 4; decide), fun x hx => ?_, rfl, .cons (.str _) (.cons ta .nil)⟩
    rcases List.mem_cons.mp hx with z | z
    · rw [z]; exact .inr (.inl ⟨_, rfl⟩)
    rcases List.mem_cons.mp z with z | z
    · rw [z]; exact .inr (.inr ⟨_, _, rfl, ez⟩)
    rcases List.mem_cons.mp z with z | z
    · rw [z]; exact .inl ⟨_, rfl⟩
    · rw [List.mem_singleton.mp z]; exact .inl ⟨_, rfl⟩
theorem ordsM_tpA {o : OwnD} {H : Hp} : ∀ {cs : List Ordr} {ys : List V}, OrdsM o H cs ys → TpAll H ys (cs.map ordD)
  | _, _, .nil => .nil
  | _, _, .cons r t => .cons r.1 (ordsM_tpA t)
section
variable {P : Program} {w : World} {K : PySem.W.Frag} {mg : Str → Option Value} {base : Heap}
theorem scWhole : FnScope ["thing"] ["thing"] (defScope sWhole) := ⟨rfl, rfl, rfl, by decide +kernel, rfl, by decide +kernel, by decide +kernel⟩
theorem scBetween : FnScope ["thing", "low", "high"] ["thing", "low", "high"] (defScope sBetween) := ⟨rfl, rfl, rfl, by decide +kernel, rfl, by decide +kernel, by decide +kernel⟩
abbrev NFa : List Str := ["row", "orders", "onward"]
theorem scFace : FnScope NFa ["row"] (defScope sFace) := ⟨rfl, rfl, rfl, by decide +kernel, rfl, by decide +kernel, by decide +kernel⟩
theorem ok_wholeI {f : Addr} {fd : FuncData} (F : Fun K "is_whole" "is_whole" sWhole f fd) (B : Bl mg) : FnOk P w K mg base CX0 1 f fd ["thing"] spWholeI := by
  refine F.ok scWhole (fun vs H Q E h => ?_) (fun cdv A outer s H vs Q E hr h => ?_)
  · obtain ⟨i, rfl, _⟩ := h
    rfl
  · obtain ⟨i, rfl, q⟩ := h
    refine ⟨_, pss_one (ps_ret (pe_and (pe_callB call_isi (by rfl) B.isi (by decide +kernel) (pa_cons (pv 0) (pa_cons (pe_bltn (v := .ty "int") (by rfl) B.int (by decide +kernel) rfl) pa_nil))) (pe_one (pe_not (pe_callB call_isi (by rfl) B.isi (by decide +kernel) (pa_cons (pv 0) (pa_cons (pe_bltn (v := .ty "bool") (by rfl) B.bool (by decide +kernel) rfl) pa_nil))))))), ?read⟩
    case read =>
      exact ⟨_, rfl, _, _, _, true, rfl, .int _, kitII, _, rfl, iteT ⟨_, rfl, _, _, _, false, rfl, .int _, kitIB, _, rfl, q⟩⟩
theorem ok_betwI {f : Addr} {fd : FuncData} (F : Fun K "is_between" "is_between" sBetween f fd) (dW : Df K mg "is_whole" sWhole ["thing"]) (B : Bl mg) : FnOk P w K mg base CX0 2 f fd ["thing", "low", "high"] spBetwI := by
  have GW : FnOk P w K mg base CX0 1 dW.f dW.fd ["thing"] spWholeI := ok_wholeI dW.F B
  refine F.ok scBetween (fun vs H Q E h => ?_) (fun cdv A outer s H vs Q E hr1 h => ?_)
  · obtain ⟨i, a, b, rfl, _⟩ := h
    rfl
  · obtain ⟨i, a, b, rfl, h1, h2, q⟩ := h
    refine ⟨_, pss_one (ps_ret (pe_and (pe_call GW hr1 rfl dW.m dW.F.kp dW.b .nil pass0 (pa_cons (pv 0) pa_nil)) (pe_one (pe_chain op_le op_le (pv 1) (pv 0) (pv 2))))), ?read⟩
    case read =>
      refine ⟨_, rfl, i, rfl, _, rfl, iteT ?_⟩
      refine ⟨_, rfl, _, rfl, a, i, rfl, rfl, _, rfl, ?_⟩
      rw [decide_eq_true h1]
      refine iteT ⟨_, rfl, i, b, rfl, rfl, ?_⟩
      show Q (V.bl (decide (i ≤ b))) H
      rw [decide_eq_true h2]
      exact q
theorem ok_face {f : Addr} {fd : FuncData} (F : Fun K "face_of" "face_of" sFace f fd) : FnOk P w K mg base CX0 1 f fd ["row"] spFace := by
  refine F.ok scFace (fun vs H Q E h => ?_) (fun cdv A outer s H vs Q E hr1 h => ?_)
  · obtain ⟨a, o, r, rfl, _⟩ := h
    rfl
  · obtain ⟨a, o, r, rfl, hR, q⟩ := h
    refine ⟨_, pss_cons (ps_asg (pv 0) (pg_tup (by rfl) (pgs_cons (pg_name (i := 1) scFace.nd rfl (Or.inl rfl)) (pgs_cons (pg_name (i := 2) scFace.nd rfl (Or.inl rfl)) pgs_nil))))
      (pss_one (ps_ret (pe_tup (pa_cons (pv 1) (pa_cons (pe_ifExp (pt_cmpR op_eq (pe_ix ix_tup (pv 2) pe_int (fun _ _ => rfl)) pe_str (nomark _)) (pe_slice sl_tupH (pv 2) po_none (po_some pe_int)) (pe_slice sl_tupH (pv 2) po_none (po_some pe_int))) pa_nil))))), ?read⟩
    case read =>
      obtain ⟨a', t, b, ys, ea, h1, h2, h3, h4⟩ := hR.at_
      cases ea
      have hX : TpAll H ys (r.1.map ordD) := ordsM_tpA h3
      refine ⟨_, rfl, a, _, rfl, SqT.of h1, rfl, _, _, rfl, _, _, rfl, rfl, ?_⟩
      refine ⟨_, rfl, ?_⟩
      have fin : ∀ (c : Addr) (xs : List V) (H' : Hp), Same H H' → H' c = some (.tup xs) → TpAll H xs (partsD r.2) → 2 ≤ sizeLine ∧ ∀ p, H' p = none → Q (.ref p) (upd H' p (.tup [V.ref t, V.ref c])) := fun c xs H' s' hc hT => ⟨(by decide), fun p hp => by
        have s2 := same_new hp (.tup [V.ref t, V.ref c])
        have s3 := s'.trans s2
        exact q p _ s3 (.tup upd_same (.cons (.tup (s3 _ _ h2) (TpAll.keep (KeepT.of s3) hX)) (.cons (.tup (s2 _ _ hc) (TpAll.keep (KeepT.of s3) hT)) .nil)))⟩
      cases e : r.2 with
      | fin =>
        rw [e] at h4 fin
        have hb := onw_fin h4
        refine ⟨_, rfl, b, _, _, _, rfl, rfl, SqT.of hb, at0, rfl, _, rfl, ?_⟩
        refine ite2 (fun z => absurd (V.str.inj (of_decide_eq_true z)) go_end.2.2.2.2.1) (fun _ => ?_)
        refine ⟨_, rfl, _, rfl, b, _, rfl, hb, fun c H' s' hc => ?_⟩
        exact fin c _ H' s' hc (.cons (.str _) .nil)
      | go j =>
        rw [e] at h4 fin
        have hb := onw_go h4
        refine ⟨_, rfl, b, _, _, _, rfl, rfl, SqT.of hb, at0, rfl, _, rfl, ?_⟩
        refine ite2 (fun z => absurd (V.str.inj (of_decide_eq_true z)) go_end.2.2.2.2.2) (fun _ => ?_)
        refine ⟨_, rfl, _, rfl, b, _, rfl, hb, fun c H' s' hc => ?_⟩
        exact fin c _ H' s' hc (.cons (.str _) .nil)
      | test c i j =>
        rw [e] at h4 fin
        obtain ⟨pa, hb, ta⟩ := onw_test h4
        refine ⟨_, rfl, b, _, _, _, rfl, rfl, SqT.of hb, at0, rfl, _, rfl, ?_⟩
        refine ite2 (fun _ => ?_) (fun z => absurd (decide_eq_true rfl) z)
        refine ⟨_, rfl, _, rfl, b, _, rfl, hb, fun c H' s' hc => ?_⟩
        exact fin c _ H' s' hc (.cons (.str _) (.cons ta .nil))
end
end My
set_option Elab.async false
set_option linter.all false
set_option maxRecDepth 100000
set_option maxHeartbeats 4000000
namespace Sx
open PySem PySem.SetTable
def orb (mask : Nat) : Nat → Nat → List Nat
  | 0, _ => []
  | n + 1, i => i :: orb mask n ((i * 5 + 1) % (mask + 1))
/-- each number below 2 ^ k is in the list -/
def cov : Nat → List Nat → Bool
  | 0, l => l.any (· == 0)
  | k + 1, l => cov k ((l.filter fun x => x % 2 == 0).map (· / 2)) && cov k ((l.filter fun x => x % 2 == 1).map (· / 2))
theorem cov_mem : ∀ {k : Nat} {l : List Nat}, cov k l = true → ∀ r, r < 2 ^ k → r ∈ l
  | 0, l, h, r, hr => by
    obtain ⟨x, hx, e⟩ := List.any_eq_true.mp h
    have e : x = 0 := by simpa using e
    have : r = 0 := by
      have : (2 : Nat) ^ 0 = 1 := rfl
      omega
    rw [this, ← e]
    exact hx
  | k + 1, l, h, r, hr => by
    have h : (cov k ((l.filter fun x => x % 2 == 0).map (· / 2)) && cov k ((l.filter fun x => x % 2 == 1).map (· / 2))) = true := h
    rw [Bool.and_eq_true] at h
    have hp : (2 : Nat) ^ (k + 1) = 2 * 2 ^ k := by rw [Nat.pow_succ]; omega
    by_cases e : r % 2 = 0
    · obtain ⟨x, hx, ex⟩ := List.mem_map.mp (cov_mem h.1 (r / 2) (by omega))
      obtain ⟨hx1, hx2⟩ := List.mem_filter.mp hx
      have hx2 : x % 2 = 0 := by simpa using hx2
      have : x = r := by omega
      rw [← this]
      exact hx1
    · obtain ⟨x, hx, ex⟩ := List.mem_map.mp (cov_mem h.2 (r / 2) (by omega))
      obtain ⟨hx1, hx2⟩ := List.mem_filter.mp hx
      have hx2 : x % 2 = 1 := by simpa using hx2
      have : x = r := by omega
      rw [← this]
      exact hx1
theorem itr_add (mask : Nat) : ∀ (m n i : Nat), itr mask (m + n) i = itr mask m (itr mask n i)
  | 0, n, i => by rw [Nat.zero_add]; rfl
  | m + 1, n, i => by
    have e : m + 1 + n = (m + n) + 1 := by omega
    rw [e]
    show (itr mask (m + n) i * 5 + 1) % (mask + 1) = (itr mask m (itr mask n i) * 5 + 1) % (mask + 1)
    rw [itr_add mask m n i]
theorem orb_itr (mask : Nat) : ∀ (n i : Nat) (r : Nat), r ∈ orb mask n i → ∃ q, q < n ∧ itr mask q i = r
  | 0, _, _, h => by cases h
  | n + 1, i, r, h => by
    rcases List.mem_cons.mp h with e | h
    · exact ⟨0, by omega, e.symm⟩
    · obtain ⟨q, hq, e⟩ := orb_itr mask n _ r h
      refine ⟨q + 1, by omega, ?_⟩
      rw [itr_add]
      exact e
theorem Full.cov {mask k : Nat} (hm : mask + 1 = 2 ^ k) (h : cov k (orb mask (mask + 1) 0) = true) (hz : itr mask (mask + 1) 0 = 0) : Full mask := by
  intro i hi r hr
  obtain ⟨p, hp, ep⟩ := orb_itr mask _ 0 i (cov_mem h i (by omega))
  obtain ⟨q, hq, eq⟩ := orb_itr mask _ 0 r (cov_mem h r (by omega))
  by_cases c : p ≤ q
  · refine ⟨q - p, by omega, ?_⟩
    rw [← ep, ← itr_add, Nat.sub_add_cancel c]
    exact eq
  · refine ⟨q + (mask + 1) - p, by omega, ?_⟩
    have e : q + (mask + 1) - p + p = q + (mask + 1) := by omega
    rw [← ep, ← itr_add, e, itr_add, hz]
    exact eq
theorem full127 : Full 127 := .cov (k := 7) (by decide) (by decide +kernel) (by decide +kernel)
theorem full511 : Full 511 := .cov (k := 9) (by decide) (by decide +kernel) (by decide +kernel)
theorem full2047 : Full 2047 := .cov (k := 11) (by decide) (by decide +kernel) (by decide +kernel)
end Sx
set_option Elab.async false
set_option linter.all false
set_option maxRecDepth 100000
set_option maxHeartbeats 1000000
namespace Sx
open PySem PySem.SetTable
/-- a set's table of at most 1228 items -/
def OkB (t : SetTable) (es : Array (Int × Value)) : Prop := OkT t es.toList ∧ ((t.mask = 7 ∧ es.size ≤ 4) ∨ (t.mask = 31 ∧ es.size ≤ 18) ∨ (t.mask = 127 ∧ es.size ≤ 76) ∨ (t.mask = 511 ∧ es.size ≤ 306) ∨ (t.mask = 2047 ∧ es.size ≤ 1228))
def Grw (n M : Nat) : Prop := (n = 5 ∧ M = 31) ∨ (n = 19 ∧ M = 127) ∨ (n = 77 ∧ M = 511) ∨ (n = 307 ∧ M = 2047)
theorem Grw.full {n M : Nat} (h : Grw n M) : Full M := by
  rcases h with ⟨_, rfl⟩ | ⟨_, rfl⟩ | ⟨_, rfl⟩ | ⟨_, rfl⟩
  · exact full31
  · exact full127
  · exact full511
  · exact full2047
theorem Grw.size {n M : Nat} (h : Grw n M) : SetTable.sizeAbove (SetTable.grown n) = M + 1 := by
  rcases h with ⟨rfl, rfl⟩ | ⟨rfl, rfl⟩ | ⟨rfl, rfl⟩ | ⟨rfl, rfl⟩ <;> decide
theorem Grw.le {n M : Nat} (h : Grw n M) : n ≤ M ∧ M % 2 = 1 ∧ n ≤ 307 ∧ M ≤ 2047 := by
  rcases h with ⟨rfl, rfl⟩ | ⟨rfl, rfl⟩ | ⟨rfl, rfl⟩ | ⟨rfl, rfl⟩ <;> decide
theorem Grw.ok {n M : Nat} (h : Grw n M) {t : SetTable} {es : Array (Int × Value)} (hm : t.mask = M) (hn : es.size = n) (ok : OkT t es.toList) : OkB t es := by
  refine ⟨ok, ?_⟩
  rcases h with ⟨rfl, rfl⟩ | ⟨rfl, rfl⟩ | ⟨rfl, rfl⟩ | ⟨rfl, rfl⟩
  · exact .inr (.inl ⟨hm, by omega⟩)
  · exact .inr (.inr (.inl ⟨hm, by omega⟩))
  · exact .inr (.inr (.inr (.inl ⟨hm, by omega⟩)))
  · exact .inr (.inr (.inr (.inr ⟨hm, by omega⟩)))
section
variable {prog : Program} {w : World} {A : Around} {E : Value → Shared → Prop} {s : Shared}
theorem relay_okB {a : Addr} {n M : Nat} (gr : Grw n M) {o : Obj} {es : Array (Int × Value)} {ep : Nat} {t : SetTable} {Q : Unit → Shared → Prop} (ho : s.heap.get? a = some o) (hd : o.data = .set es ep t) (hf : t.fits es.size = true) (hz : es.size = n)
    (h : ∀ es' t', OkB t' es' → es'.toList.Perm es.toList → Q () { s with heap := s.heap.update a (Obj.putSet es' t') }) : wpAny (model prog w) A (setRelay a (SetTable.grown n)) Q E s := by
  unfold setRelay
  refine wpAny_bind (wpAny_setState_of ho hd hf ?_)
  dsimp only
  have e1 := gr.size
  have lM := gr.le
  rw [e1, if_neg (by rw [sizeLine_eq]; omega)]
  obtain ⟨t', order, el, ok, pm, mk, _, _⟩ := laid_ok (mask := M) (finger := t.finger) (moves := t.movedTo M) (led := t.led) (plain := t.plain) gr.full lM.2.1 es (by omega)
  have er : t.relaid (es.map (·.1)) (SetTable.grown n) = some (t', order) := by
    unfold SetTable.relaid
    rw [e1]
    exact el
  have hsz : (order.filterMap (es[·]?)).size = es.size := by rw [← Array.length_toList, pm.length_eq, Array.length_toList]
  rw [er]
  refine wpAny_bind (wpAny_of_eq (a := (order.filterMap (es[·]?), t')) ?_ ?_)
  · have go : ∀ m : Sem (Array (Int × Value) × SetTable), (if ((order.filterMap (es[·]?)).size != es.size) = true then m else pure (order.filterMap (es[·]?), t')) = pure (order.filterMap (es[·]?), t') := fun m => by
      rw [if_neg (by rw [hsz]; simp)]
    exact go _
  · dsimp only
    refine wpAny_storeSet_of ho hd (h _ _ (gr.ok mk (by rw [hsz, hz]) ok) pm) (by rw [hsz, hz, sizeLine_eq]; omega)
theorem add_okB {a : Addr} {x : Value} {b : Addr} {h : Int} {o : Obj} {es : Array (Int × Value)} {ep : Nat} {t : SetTable} {e : Value → Bool} {Q : Bool → Shared → Prop} (ho : s.heap.get? a = some o) (hd : o.data = .set es ep t) (ok : OkB t es) (hx : x = .ref b)
    (hr : ∀ p ∈ es.toList, ∃ b, p.2 = .ref b) (he : ∀ y, (h, y) ∈ es.toList → SeqAt.EqAt A s y x (e y))
    (hseen : ∀ (l : List Value) (Q' : Bool → Shared → Prop), (∀ y ∈ l, (h, y) ∈ es.toList) → Q' false s → wpAny (model prog w) A (searchCouldBeSeen x l) Q' E s)
    (hbv : ∀ (Q' : Bool → Shared → Prop), (∀ b, Q' b s) → wpAny (model prog w) A (hashByValue 8 x) Q' E s) (hsz : es.size < 1228)
    (hthere : ∀ y, (h, y) ∈ es.toList → e y = true → Q false s)
    (hnew : (∀ y, (h, y) ∈ es.toList → e y = false) → ∀ h' es' ep' t', Heap.SameBut a s.heap h' → h'.get? a = some { o with data := .set es' ep' t' } → OkB t' es' → es'.toList.Perm ((h, x) :: es.toList) → Q true { s with heap := h' }) :
    wpAny (model prog w) A (setAddHashed a x h) Q E s := by
  unfold setAddHashed setAddHashedIn
  refine wpAny_holding (wpAny_bind (wpAny_setState_of ho hd ok.1.fits ?_))
  dsimp only
  have hsc : byScan x es = false := by rw [hx]; rfl
  rw [hsc]
  simp only [Bool.false_eq_true, if_false]
  have okt := ok.1
  obtain ⟨N, hNl, hN, hl⟩ := free_soon okt.fu h t.place.toList (by rw [Array.length_toList]; exact okt.fl)
  have hmk : t.mask ≤ 2047 := by rcases ok.2 with z | z | z | z | z <;> omega
  refine wpAny_bind ?_
  unfold setSearch
  refine search_from ho hd okt hr he hseen (fun y hy ey => ?_) hN hl hNl (fun no => ?_) 100000 0 none (Nat.zero_le _) (by unfold turns at hNl; omega) rfl (fun m i y hm => absurd hm (Nat.not_lt_zero _))
  · dsimp only
    exact wpAny_pure (hthere y hy ey)
  · dsimp only
    refine wpAny_bind (wpAny_setState_of ho hd okt.fits ?_)
    dsimp only
    have hlen : es.toList.length < t.mask := by
      rw [Array.length_toList]
      rcases ok.2 with z | z | z | z | z <;> omega
    obtain ⟨dm, ok1⟩ := okt.put (x := x) hN hl (pos_le _ _ _) hlen
    have fin : ∀ (bv : Bool), wpAny (model prog w) A (do
        storeSet a (SetTable.insertAt es (t.put (pos t.mask h N)).2 (h, x)) (if bv = true then (t.put (pos t.mask h N)).1 else { (t.put (pos t.mask h N)).1 with plain := false })
        if (!false && (if bv = true then (t.put (pos t.mask h N)).1 else { (t.put (pos t.mask h N)).1 with plain := false }).tooFull) = true then do
          setRelay a (SetTable.grown (es.size + 1))
          pure true
        else pure true) Q E s := by
      intro bv
      generalize ht2 : (if bv = true then (t.put (pos t.mask h N)).1 else { (t.put (pos t.mask h N)).1 with plain := false }) = t2
      generalize hes2 : SetTable.insertAt es (t.put (pos t.mask h N)).2 (h, x) = es2
      have l2 : es2.toList = es.toList.take (t.put (pos t.mask h N)).2 ++ (h, x) :: es.toList.drop (t.put (pos t.mask h N)).2 := by rw [← hes2]; exact insertAt_list _ _ _
      have ok2 : OkT t2 es2.toList := by
        rw [l2, ← ht2]
        cases bv
        · exact ok1.plain false
        · exact ok1
      have mk2 : t2.mask = t.mask := by rw [← ht2]; cases bv <;> rfl
      have pm : es2.toList.Perm ((h, x) :: es.toList) := by
        rw [l2]
        refine List.perm_middle.trans ?_
        rw [List.take_append_drop]
      have sz2 : es2.size = es.size + 1 := by rw [← Array.length_toList, pm.length_eq, List.length_cons, Array.length_toList]
      have fl2 : t2.fill = es.size + 1 := by
        unfold SetTable.fill
        rw [ok2.dm, ok2.sz, Array.length_toList, sz2]
        rfl
      refine wpAny_bind (wpAny_storeSet_of ho hd ?_ (by rw [sz2, sizeLine_eq]; omega))
      have sb := Heap.SameBut.update s.heap a (Obj.putSet es2 t2)
      have g2 := get_put ho hd es2 t2
      by_cases tf : t2.tooFull = true
      · obtain ⟨M, gr⟩ : ∃ M, Grw (es.size + 1) M := by
          unfold SetTable.tooFull at tf
          rw [fl2, mk2] at tf
          simp at tf
          rcases ok.2 with z | z | z | z | z
          · exact ⟨31, .inl ⟨by have := z.1; have := z.2; omega, rfl⟩⟩
          · exact ⟨127, .inr (.inl ⟨by have := z.1; have := z.2; omega, rfl⟩)⟩
          · exact ⟨511, .inr (.inr (.inl ⟨by have := z.1; have := z.2; omega, rfl⟩))⟩
          · exact ⟨2047, .inr (.inr (.inr ⟨by have := z.1; have := z.2; omega, rfl⟩))⟩
          · have := z.1; have := z.2; omega
        rw [if_pos (by rw [tf]; rfl)]
        refine wpAny_bind (relay_okB gr (s := { s with heap := s.heap.update a (Obj.putSet es2 t2) }) g2 rfl ok2.fits sz2 fun es3 t3 ok3 pm3 => ?_)
        exact wpAny_pure (hnew no _ _ _ _ (sb.trans (Heap.SameBut.update _ a _)) (get_put g2 rfl es3 t3) ok3 (pm3.trans pm))
      · rw [if_neg (by simp [tf])]
        refine wpAny_pure (hnew no _ _ _ _ sb g2 ⟨ok2, ?_⟩ pm)
        unfold SetTable.tooFull at tf
        rw [fl2, mk2] at tf
        simp at tf
        rw [mk2, sz2]
        rcases ok.2 with z | z | z | z | z
        · exact .inl ⟨z.1, by have := z.1; omega⟩
        · exact .inr (.inl ⟨z.1, by have := z.1; omega⟩)
        · exact .inr (.inr (.inl ⟨z.1, by have := z.1; omega⟩))
        · exact .inr (.inr (.inr (.inl ⟨z.1, by have := z.1; omega⟩)))
        · exact .inr (.inr (.inr (.inr ⟨z.1, by omega⟩)))
    by_cases hp : (t.put (pos t.mask h N)).1.plain = true
    · rw [if_pos hp]
      refine wpAny_bind (hbv _ fun bv => ?_)
      exact fin bv
    · rw [if_neg hp]
      refine wpAny_bind (wpAny_pure ?_)
      exact fin true
end
end Sx
set_option Elab.async false
set_option linter.all false
set_option maxRecDepth 100000
set_option maxHeartbeats 4000000
namespace Sx
open PySem L2
def SV (d : PyData) (v : Value) : Prop := (∃ i t, d = .int i ∧ v = .int i t) ∨ ∃ b, d = .bool b ∧ v = .bool b
def hashB (b : Bool) : Int := reduceHash (if b = true then 1 else 0)
def sH : PyData → Int
  | .int i => hashInt i
  | .bool b => hashB b
  | _ => 0
def pD (p : Int × Int) : List PyData := [.int p.1, .int p.2]
def pairD (p : Int × Int) : PyData := .tuple (pD p)
def hashP (p : Int × Int) : Int := reduceHash (Builtin.Tuple.tupleHashOf ((pD p).map sH))
def PV (h : Heap) (p : Int × Int) (v : Value) : Prop := ∃ a o items k, v = .ref a ∧ h.get? a = some o ∧ o.cls = .type "tuple" ∧ o.data = .seq items k ∧ Paired SV (pD p) items.toList
section
variable {prog : Program} {w : World}
theorem hashS_ok {A : Around} {E : Value → Shared → Prop} {s : Shared} {d : PyData} {v : Value} {Q : Int → Shared → Prop} (hu : A.units + 1 < cLine) (x : SV d v) (h : ∀ tk, s.toks ≤ tk → Q (sH d) { s with toks := tk }) : wpAny (model prog w) A (pyHash v) Q E s := by
  rcases x with ⟨i, t, rfl, rfl⟩ | ⟨b, rfl, rfl⟩
  · exact wpAny_pyHash_int (h _ (Nat.le_succ _))
  · refine PySem.W.pyHash_slot (T := "bool") rfl F.slot_bool_hash entry_int_hash (args_int_hash _) (beq_builtin_none _) (.inr (by omega)) ?_
    cases b
    · exact (show wpAny _ _ (do ret (← mkInt 0)) _ _ s from wpAny_bind (wpAny_mkInt (wpAny_pure ⟨_, _, rfl, h _ (Nat.le_succ _)⟩)))
    · exact (show wpAny _ _ (do ret (← mkInt 1)) _ _ s from wpAny_bind (wpAny_mkInt (wpAny_pure ⟨_, _, rfl, h _ (Nat.le_succ _)⟩)))
theorem hashP_ok {A : Around} {E : Value → Shared → Prop} {s : Shared} {p : Int × Int} {v : Value} {Q : Int → Shared → Prop} (hu : A.units + 4 < cLine) (x : PV s.heap p v) (h : ∀ tk, s.toks ≤ tk → Q (hashP p) { s with toks := tk }) : wpAny (model prog w) A (pyHash v) Q E s := by
  obtain ⟨a, o, items, k, rfl, ho, hc, hd, hi⟩ := x
  have hT : s.TypeIs (.ref a) "tuple" := ⟨o, ho, hc⟩
  generalize hds : pD p = ds at hi
  have h : ∀ tk, s.toks ≤ tk → Q (reduceHash (Builtin.Tuple.tupleHashOf (ds.map sH))) { s with toks := tk } := fun tk htk => by
    have := h tk htk
    unfold hashP at this
    rw [hds] at this
    exact this
  unfold pyHash
  first | unfold pyHashByItsType | skip
  first | refine wpAny_bind (wpAny_cRoomFor_or (.inr (by omega)) ?_) | skip
  refine wpAny_bind (wpAny_specialOf hT F.slot_tuple_hash.lookup ?_)
  show wpAny _ _ (if (some (Value.builtin "tuple.__hash__") == some Value.none) = true then _ else _) Q E s
  rw [if_neg (by rw [beq_builtin_none]; exact Bool.false_ne_true)]
  refine wpAny_bind (wpAny_specialOf hT F.slot_tuple_hash.lookup ?_)
  show wpAny _ _ (callSpecialIfBoundUnlessNone? (.ref a) "__hash__" _ >>= _) Q E s
  refine wpAny_bind (wpAny_callSpecialIfBoundUnlessNone?_slot hT F.slot_tuple_hash (wpAny_call_entry F.slot_tuple_hash hT F.entry_tuple_hash ?_ (F.args_tuple_hash_1 _)))
  show wpAny _ _ (Builtin.Tuple.tupleItemsOf (.ref a) >>= _) _ _ s
  refine wpAny_bind (wpAny_tupleItemsOf ho hd ?_)
  refine wpAny_bind ?_
  rw [← Array.forIn_toList]
  refine wpAny_forIn_list _
    (fun rest (b : Array Int) s' => ∃ done left tk, s.toks ≤ tk ∧ ds = done ++ left ∧ Paired SV left rest ∧ b.toList = done.map sH ∧ s' = { s with toks := tk })
    _ ?_ ?_ _ _ ⟨[], ds, s.toks, Nat.le_refl _, rfl, hi, rfl, rfl⟩
  · rintro y rest b s' ⟨done, left, tk, htk, rfl, hl, hb, rfl⟩
    cases hl with
    | @cons k' _ ks' _ h1 hl' =>
      refine wpAny_bind (hashS_ok (show A.units + 1 + 1 < cLine by omega) h1 fun tk' htk' => ?_)
      first
        | exact wpAny_pure ⟨done ++ [k'], ks', tk', Nat.le_trans htk htk', by simp, hl', by simp [hb], rfl⟩
        | exact wpAny_bind (wpAny_pure (wpAny_pure ⟨done ++ [k'], ks', tk', Nat.le_trans htk htk', by simp, hl', by simp [hb], rfl⟩))
  · rintro b s' ⟨done, left, tk, htk, rfl, hl, hb, rfl⟩
    cases hl
    rw [List.append_nil] at h
    show wpAny _ _ (retInt (Builtin.Tuple.tupleHashOf b.toList)) _ _ _
    rw [hb]
    refine wpAny_ret_mkInt ?_
    show wpAny _ _ (if (decide (-(2 : Int) ^ 63 ≤ Builtin.Tuple.tupleHashOf (done.map sH)) && decide (Builtin.Tuple.tupleHashOf (done.map sH) < 2 ^ 63)) = true then _ else _) Q E _
    unfold reduceHash at h
    by_cases hr : (decide (-(2 : Int) ^ 63 ≤ Builtin.Tuple.tupleHashOf (done.map sH)) && decide (Builtin.Tuple.tupleHashOf (done.map sH) < 2 ^ 63)) = true
    · rw [if_pos hr]
      rw [if_pos hr] at h
      exact wpAny_pure (h _ (Nat.le_succ_of_le htk))
    · rw [if_neg hr]
      rw [if_neg hr] at h
      exact wpAny_bind (wpAny_rule (wpAny_pure (h _ (Nat.le_succ_of_le htk))))
end
section
variable {M : Model} {A : Around} {E : Value → Shared → Prop} {s : Shared}
theorem quietS {m : Nat} {d : PyData} {v : Value} {Q : Bool → Shared → Prop} (x : SV d v) (h : Q true s) : wpAny M A (eqIsQuiet m v) Q E s := by
  rcases x with ⟨i, t, rfl, rfl⟩ | ⟨b, rfl, rfl⟩
  · rw [eqIsQuiet_byValue _ rfl]; exact wpAny_pure h
  · rw [eqIsQuiet_byValue _ rfl]; exact wpAny_pure h
theorem quietP {m : Nat} {p : Int × Int} {v : Value} {Q : Bool → Shared → Prop} (x : PV s.heap p v) (h : Q true s) : wpAny M A (eqIsQuiet (m + 1) v) Q E s := by
  obtain ⟨a, o, items, k, rfl, ho, hc, hd, hi⟩ := x
  generalize pD p = ds at hi
  have hT : s.TypeIs (.ref a) "tuple" := ⟨o, ho, hc⟩
  unfold eqIsQuiet
  refine wpAny_bind (wpAny_specialOf hT F.slot_tuple_eq.lookup ?_)
  show wpAny _ _ (isInstance (.ref a) (.type "tuple") >>= _) _ _ s
  refine wpAny_bind (wpAny_isInstance hT isSubtype_tuple_tuple ?_)
  simp only [Bool.not_true, Bool.false_eq_true, if_false]
  refine wpAny_bind (wpAny_seqItems ho hd ?_)
  refine wpAny_bind ?_
  show wpAny _ _ (forIn items _ _) _ _ s
  rw [← Array.forIn_toList]
  refine wpAny_forIn_list _ (fun rest r s' => r.1 = none ∧ s' = s ∧ ∃ left, Paired SV left rest) _ ?_ ?_ _ _ ⟨rfl, rfl, ds, hi⟩
  · rintro y rest r s' ⟨hr, rfl, left, hl⟩
    cases hl with
    | cons h1 hl' =>
      refine wpAny_bind (quietS h1 ?_)
      simp only [Bool.not_true, Bool.false_eq_true, if_false]
      exact wpAny_pure ⟨rfl, rfl, _, hl'⟩
  · rintro ⟨r1, r2⟩ s' ⟨hr, rfl, _⟩
    simp only at hr
    subst hr
    exact wpAny_pure h
theorem clsS {m : Nat} {d : PyData} {v : Value} {Q : Bool → Shared → Prop} (x : SV d v) (h : Q false s) : wpAny M A (ofAClassStatement m v) Q E s := by
  rcases x with ⟨i, t, rfl, rfl⟩ | ⟨b, rfl, rfl⟩
  · unfold ofAClassStatement; exact wpAny_pure h
  · unfold ofAClassStatement; exact wpAny_pure h
theorem clsP {m : Nat} {p : Int × Int} {v : Value} {Q : Bool → Shared → Prop} (x : PV s.heap p v) (h : Q false s) : wpAny M A (ofAClassStatement (m + 1) v) Q E s := by
  obtain ⟨a, o, items, k, rfl, ho, hc, hd, hi⟩ := x
  generalize pD p = ds at hi
  have hT : s.TypeIs (.ref a) "tuple" := ⟨o, ho, hc⟩
  unfold ofAClassStatement
  refine wpAny_bind (wpAny_typeOf hT ?_)
  dsimp only
  rw [if_pos (by decide)]
  refine wpAny_bind (wpAny_pure ?_)
  simp only [Bool.not_true, Bool.false_eq_true, if_false]
  refine wpAny_bind (wpAny_seqItems ho hd ?_)
  dsimp only
  refine wpAny_bind ?_
  rw [← Array.forIn_toList]
  refine wpAny_forIn_list _ (fun rest r s' => r.1 = none ∧ s' = s ∧ ∃ left, Paired SV left rest) _ ?_ ?_ _ _ ⟨rfl, rfl, ds, hi⟩
  · rintro y rest r s' ⟨hr, rfl, left, hl⟩
    cases hl with
    | cons h1 hl' =>
      refine wpAny_bind (clsS h1 ?_)
      simp only [Bool.false_eq_true, if_false]
      exact wpAny_pure ⟨rfl, rfl, _, hl'⟩
  · rintro ⟨r1, r2⟩ s' ⟨hr, rfl, _⟩
    simp only at hr
    subst hr
    exact wpAny_pure h
theorem byvS {m : Nat} {d : PyData} {v : Value} {Q : Bool → Shared → Prop} (x : SV d v) (h : ∀ b, Q b s) : wpAny M A (hashByValue (m + 1) v) Q E s := by
  rcases x with ⟨i, t, rfl, rfl⟩ | ⟨b, rfl, rfl⟩
  · unfold hashByValue; exact wpAny_pure (h _)
  · unfold hashByValue; exact wpAny_pure (h _)
theorem byvP {m : Nat} {p : Int × Int} {v : Value} {Q : Bool → Shared → Prop} (x : PV s.heap p v) (h : ∀ b, Q b s) : wpAny M A (hashByValue (m + 2) v) Q E s := by
  obtain ⟨a, o, items, k, rfl, ho, hc, hd, hi⟩ := x
  generalize pD p = ds at hi
  have hT : s.TypeIs (.ref a) "tuple" := ⟨o, ho, hc⟩
  unfold hashByValue
  refine wpAny_bind (wpAny_specialOf hT F.slot_tuple_hash.lookup ?_)
  show wpAny _ _ (seqItems? (.ref a) >>= _) _ _ s
  refine wpAny_bind (wpAny_seqItems ho hd ?_)
  refine wpAny_bind ?_
  show wpAny _ _ (forIn items _ _) _ _ s
  rw [← Array.forIn_toList]
  refine wpAny_forIn_list _ (fun rest r s' => r.1 = none ∧ s' = s ∧ ∃ left, Paired SV left rest) _ ?_ ?_ _ _ ⟨rfl, rfl, ds, hi⟩
  · rintro y rest r s' ⟨hr, rfl, left, hl⟩
    cases hl with
    | cons h1 hl' =>
      refine wpAny_bind (byvS h1 fun b => ?_)
      cases b with
      | true =>
        simp only [Bool.not_true, Bool.false_eq_true, if_false]
        exact wpAny_pure ⟨rfl, rfl, _, hl'⟩
      | false =>
        simp only [Bool.not_false, if_true]
        first
          | exact wpAny_pure (wpAny_pure (h _))
          | exact wpAny_bind (wpAny_pure (wpAny_pure (wpAny_pure (h _))))
          | exact wpAny_pure (h _)
  · rintro ⟨r1, r2⟩ s' ⟨hr, rfl, _⟩
    simp only at hr
    subst hr
    exact wpAny_pure (h _)
theorem seenP {p : Int × Int} {x : Value} (hx : PV s.heap p x) (l : List Value) (Q : Bool → Shared → Prop) (hl : ∀ y ∈ l, ∃ p, PV s.heap p y) (h : Q false s) :
    wpAny M A (searchCouldBeSeen x l) Q E s := by
  unfold searchCouldBeSeen
  refine wpAny_bind ?_
  refine wpAny_forIn_list _ (fun rest r s' => r.1 = none ∧ s' = s ∧ ∀ y ∈ rest, y ∈ l) _ ?_ ?_ _ _ ⟨rfl, rfl, fun y hy => hy⟩
  · rintro y rest r s' ⟨hr, rfl, hm⟩
    obtain ⟨e, hy⟩ := hl y (hm y List.mem_cons_self)
    have next : ∀ z ∈ rest, z ∈ l := fun z hz => hm z (List.mem_cons_of_mem _ hz)
    dsimp only
    split
    · split
      · exact wpAny_pure ⟨rfl, rfl, next⟩
      · refine wpAny_bind (quietP hx ?_)
        simp only [Bool.not_true, Bool.false_eq_true, if_false]
        refine wpAny_bind (quietP hy ?_)
        simp only [Bool.not_true, Bool.false_eq_true, if_false]
        refine wpAny_bind (clsP hx ?_)
        simp only [Bool.false_eq_true, if_false]
        refine wpAny_bind (clsP hy ?_)
        simp only [Bool.false_eq_true, if_false]
        exact wpAny_pure ⟨rfl, rfl, next⟩
    · split
      · exact wpAny_pure ⟨rfl, rfl, next⟩
      · refine wpAny_bind (quietP hx ?_)
        simp only [Bool.not_true, Bool.false_eq_true, if_false]
        refine wpAny_bind (quietP hy ?_)
        simp only [Bool.not_true, Bool.false_eq_true, if_false]
        refine wpAny_bind (clsP hx ?_)
        simp only [Bool.false_eq_true, if_false]
        refine wpAny_bind (clsP hy ?_)
        simp only [Bool.false_eq_true, if_false]
        exact wpAny_pure ⟨rfl, rfl, next⟩
  · rintro ⟨r1, r2⟩ s' ⟨hr, rfl, _⟩
    simp only at hr
    subst hr
    exact wpAny_pure h
end
end Sx
set_option Elab.async false
set_option linter.all false
set_option maxRecDepth 100000
set_option maxHeartbeats 4000000
namespace Sx
open PySem PySem.SetTable L2
section
variable {prog : Program} {w : World} {A : Around} {E : Value → Shared → Prop} {s : Shared}
theorem search_fromF {a : Addr} {x : Value} {h : Int} {o : Obj} {es : Array (Int × Value)} {ep : Nat} {t : SetTable} {e : Value → Bool} {Q : SetFound → Shared → Prop} (ho : s.heap.get? a = some o) (hd : o.data = .set es ep t) (ok : OkT t es.toList)
    (hr : ∀ p ∈ es.toList, ∃ b, p.2 = .ref b) (he : ∀ y, (h, y) ∈ es.toList → SeqAt.EqAt A s y x (e y))
    (hseen : ∀ (l : List Value) (Q' : Bool → Shared → Prop), (∀ y ∈ l, (h, y) ∈ es.toList) → Q' false s → wpAny (model prog w) A (searchCouldBeSeen x l) Q' E s)
    (hthere : ∀ y, (h, y) ∈ es.toList → e y = true → ∀ i, Q (.there (some i)) s) {N : Nat} (hN : pos t.mask h N ∉ t.place.toList) (hl : ∀ k, k < N → pos t.mask h k ∈ t.place.toList) (hNl : N < 10 * turns t.mask)
    (hfree : (∀ y, (h, y) ∈ es.toList → e y = false) → Q (.free (pos t.mask h N) false) s) :
    ∀ (fuel n : Nat) (stand : Option Probe), n ≤ N → N - n < fuel → stand.getD (t.probeStart h) = st t.mask h n → (∀ (m i : Nat) (y : Value), m < n → t.place.toList[i]? = some (pos t.mask h m) → es.toList[i]? = some (h, y) → e y = false) →
      wpAny (model prog w) A (setSearchFrom a x h false fuel stand) Q E s
  | 0, n, _, _, hf, _, _ => absurd hf (Nat.not_lt_zero _)
  | fuel + 1, n, stand, hn, hf, hst, old => by
    unfold setSearchFrom
    refine wpAny_bind (wpAny_setState_of ho hd ok.fits ?_)
    dsimp only
    rw [if_neg (by unfold SetTable.gaveWay; rw [ok.od]; decide), hst]
    unfold SetTable.probe
    have hf' : N - n < 10 * turns t.mask := by omega
    generalize hpg : probe.go t _ h (10 * turns t.mask) (st t.mask h n) = pg
    have hpg' : probe.go t (fun i => (es[i]?.map (·.1)).getD 0) h (10 * turns t.mask) (st t.mask h n) = pg := hpg
    have hsf : ∀ i : Nat, (fun i : Nat => (es[i]?.map (·.1)).getD 0) i = hat es.toList i := fun i => by
      show (es[i]?.map (·.1)).getD 0 = hat es.toList i
      unfold hat
      rw [Array.getElem?_toList]
    rcases probe_go ok hsf hN hl (10 * turns t.mask) n hn hf' with ⟨ep1, no⟩ | ⟨m, i, hnm, hmN, epl, eh, ep1, no⟩
    · rw [ep1] at hpg'
      subst hpg'
      clear hpg
      dsimp only
      refine wpAny_pure (hfree fun y hy => ?_)
      obtain ⟨i, hi⟩ := List.mem_iff_getElem?.mp hy
      obtain ⟨m, hm, em⟩ := come ok hN hi rfl
      rcases Nat.lt_or_ge m n with z | z
      · exact old m i y z em hi
      · exact absurd (hat_of hi) (no m i z hm em)
    · rw [ep1] at hpg'
      subst hpg'
      clear hpg
      dsimp only
      have hi : i < es.toList.length := by
        rw [← ok.sz, ← Array.length_toList]
        rcases Nat.lt_or_ge i t.place.toList.length with z | z
        · exact z
        · rw [List.getElem?_eq_none z] at epl; cases epl
      obtain ⟨⟨h', y⟩, ey⟩ : ∃ p, es.toList[i]? = some p := ⟨_, List.getElem?_eq_getElem hi⟩
      have e1 := hat_of ey
      rw [eh] at e1
      have e1 : h = h' := e1
      subst e1
      have my : (h, y) ∈ es.toList := List.mem_of_getElem? ey
      have ei : es[i]? = some (h, y) := by simpa using ey
      obtain ⟨b, eb⟩ := hr _ my
      have eb : y = .ref b := eb
      have is : isSame y y = pure true := by rw [eb]; simp [isSame]
      have sm : t.sameMemory t.moves t.mask = some true := by unfold SetTable.sameMemory; rw [if_pos (by simp)]
      have sl := slot_live ok epl
      have mm : ∀ z ∈ List.map (fun x => x.snd) (Array.filter (fun x => x.fst == h) es).toList, (h, z) ∈ es.toList := fun z hz => by
        obtain ⟨p, hp, rfl⟩ := List.mem_map.mp hz
        have hp' : p ∈ es ∧ p.1 = h := by simpa using hp
        obtain ⟨p1, p2⟩ := p
        have : p1 = h := hp'.2
        subst this
        simpa using hp'.1
      have rec' : e y = false → wpAny (model prog w) A (setSearchFrom a x h false fuel (some (st t.mask h (m + 1)))) Q E s := fun ef => by
        refine search_fromF ho hd ok hr he hseen hthere hN hl hNl hfree fuel (m + 1) _ hmN (by omega) rfl fun m' i' y' hm' e1 e2 => ?_
        rcases Nat.lt_or_ge m' n with z | z
        · exact old m' i' y' z e1 e2
        · rcases Nat.lt_or_eq_of_le (Nat.le_of_lt_succ hm') with z' | rfl
          · exact absurd (hat_of e2) (no m' i' z z' e1)
          · have a1 := below_at ok.ri (i := i) (j := pos t.mask h m') (by simpa using epl)
            have a2 := below_at ok.ri (i := i') (j := pos t.mask h m') (by simpa using e1)
            have : i' = i := by omega
            subst this
            rw [ey] at e2
            cases e2
            exact ef
      have hey := he y my
      cases hl2 : t.led with
      | false =>
        rw [if_pos (by rfl)]
        refine wpAny_bind (hseen _ _ mm ?_)
        rw [if_neg (by decide), ei]
        dsimp only
        refine wpAny_bind (wpAny_holding (hey prog w E _ ?_))
        refine wpAny_bind (wpAny_setState_of ho hd ok.fits ?_)
        dsimp only
        cases ef : e y with
        | true =>
          rw [if_neg (by decide), sm]
          dsimp only
          rw [if_pos rfl, sl]
          dsimp only
          rw [ei]
          dsimp only
          rw [is]
          refine wpAny_bind (wpAny_pure (wpAny_bind (wpAny_pure ?_)))
          simp only [if_true]
          exact wpAny_pure (hthere y my ef _)
        | false =>
          rw [if_neg (by decide), sm]
          dsimp only
          rw [if_pos rfl, sl]
          dsimp only
          rw [ei]
          dsimp only
          rw [is]
          refine wpAny_bind (wpAny_pure (wpAny_bind (wpAny_pure ?_)))
          simp only [if_true]
          exact rec' ef
      | true =>
        rw [if_neg (by decide), ei]
        dsimp only
        refine wpAny_bind (wpAny_holding (hey prog w E _ ?_))
        refine wpAny_bind (wpAny_setState_of ho hd ok.fits ?_)
        dsimp only
        cases ef : e y with
        | true =>
          rw [if_neg (by decide), sm]
          dsimp only
          rw [if_pos rfl, sl]
          dsimp only
          rw [ei]
          dsimp only
          rw [is]
          refine wpAny_bind (wpAny_pure (wpAny_bind (wpAny_pure ?_)))
          simp only [if_true]
          exact wpAny_pure (hthere y my ef _)
        | false =>
          rw [if_neg (by decide), sm]
          dsimp only
          rw [if_pos rfl, sl]
          dsimp only
          rw [ei]
          dsimp only
          rw [is]
          refine wpAny_bind (wpAny_pure (wpAny_bind (wpAny_pure ?_)))
          simp only [if_true]
          exact rec' ef
end
def ElP (h : Heap) (p : Int × Int) (e : Int × Value) : Prop := PV h p e.2 ∧ e.1 = hashP p
def SetP (h : Heap) (S : Addr) (ps : List (Int × Int)) : Prop :=
  ∃ o es ep t ps', h.get? S = some o ∧ o.ExactSet ∧ o.data = .set es ep t ∧ OkB t es ∧ Paired (ElP h) ps' es.toList ∧ ps'.Perm ps
theorem PV.keep {h h' : Heap} (k : ∀ b o items q, h.get? b = some o → o.data = .seq items q → h'.get? b = some o) {p : Int × Int} {v : Value} (x : PV h p v) : PV h' p v := by
  obtain ⟨a, o, items, q, e, ho, hc, hd, hi⟩ := x
  exact ⟨a, o, items, q, e, k _ _ _ _ ho hd, hc, hd, hi⟩
theorem SetP.keep {h h' : Heap} {S : Addr} {ps : List (Int × Int)} (x : SetP h S ps) (hS : ∀ o, h.get? S = some o → h'.get? S = some o) (k : ∀ b o items q, h.get? b = some o → o.data = .seq items q → h'.get? b = some o) : SetP h' S ps := by
  obtain ⟨o, es, ep, t, ps', ho, hx, hd, ok, pr, pm⟩ := x
  exact ⟨o, es, ep, t, ps', hS _ ho, hx, hd, ok, Paired.mapP pr fun a b z => ⟨z.1.keep k, z.2⟩, pm⟩
theorem PV.reads {h : Heap} {p : Int × Int} {v : Value} (x : PV h p v) : ∃ as, Reads h v (pairD p) as := by
  obtain ⟨a, o, items, k, rfl, ho, hc, hd, hi⟩ := x
  have all : ∀ {l1 : List PyData} {vs : List Value}, Paired SV l1 vs → ∃ as, ReadsAll h vs l1 as := by
    intro l1 vs p1
    induction p1 with
    | nil => exact ⟨_, ReadsAll.nil⟩
    | cons r _ ihp =>
      obtain ⟨bs, q2⟩ := ihp
      rcases r with ⟨i, t, rfl, rfl⟩ | ⟨b, rfl, rfl⟩
      · exact ⟨_, ReadsAll.cons (Reads.int i t) q2⟩
      · exact ⟨_, ReadsAll.cons (Reads.bool b) q2⟩
  obtain ⟨as, q⟩ := all hi
  exact ⟨_, Reads.tuple ho hc hd q⟩
theorem pair_eqv (p q : Int × Int) : PyData.eqv (pairD p) (pairD q) = decide (p = q) := by
  obtain ⟨i, b⟩ := p
  obtain ⟨j, c⟩ := q
  show ((i == j) && ((b == c) && true)) = decide ((i, b) = (j, c))
  by_cases h1 : i = j
  · by_cases h2 : b = c
    · rw [h1, h2]; simp
    · rw [decide_eq_false (fun z => h2 (by cases z; rfl))]
      simp [h2]
  · rw [decide_eq_false (fun z => h1 (by cases z; rfl))]
    simp [h1]
theorem pair_uniq {h : Heap} {p q : Int × Int} {v : Value} (x : PV h p v) (y : PV h q v) : p = q := by
  obtain ⟨a, o, items, k, e, ho, hc, hd, hi⟩ := x
  obtain ⟨a', o', items', k', e', ho', hc', hd', hi'⟩ := y
  rw [e] at e'
  cases e'
  rw [ho] at ho'
  cases ho'
  rw [hd] at hd'
  cases hd'
  generalize items.toList = its at hi hi'
  cases hi with | cons h1 r1 => cases r1 with | cons h2 r2 =>
    cases hi' with | cons g1 q1 => cases q1 with | cons g2 q2 =>
      obtain ⟨i, b⟩ := p
      obtain ⟨j, c⟩ := q
      rcases h1 with ⟨i1, t1, e1, e2⟩ | ⟨b1, e1, _⟩
      · rcases g1 with ⟨i2, t2, f1, f2⟩ | ⟨b2, f1, _⟩
        · rcases h2 with ⟨i3, t3, e3, e4⟩ | ⟨b3, e3, _⟩
          · rcases g2 with ⟨i4, t4, f3, f4⟩ | ⟨b4, f3, _⟩
            · cases e1
              cases f1
              cases e3
              cases f3
              rw [e2] at f2
              cases f2
              rw [e4] at f4
              cases f4
              rfl
            · cases f3
          · cases e3
        · cases f1
      · cases e1
theorem shaped_pair (p : Int × Int) : SeqAt.shaped (pairD p) = true := rfl
section
variable {prog : Program} {w : World} {A : Around} {E : Value → Shared → Prop} {s : Shared}
/-- what the search needs to know of the items -/
theorem eqP {S : Addr} {es : Array (Int × Value)} {ps' : List (Int × Int)} {x : Value} {p : Int × Int} (hu : A.units + 64 < cLine) (pr : Paired (ElP s.heap) ps' es.toList) (hx : PV s.heap p x) : ∃ e : Value → Bool, (∀ y, (hashP p, y) ∈ es.toList → SeqAt.EqAt A s y x (e y)) ∧ (∀ y q, PV s.heap q y → e y = decide (q = p)) := by
  let e : Value → Bool := fun y => @decide (PV s.heap p y) (Classical.propDecidable _)
  have ey : ∀ y q, PV s.heap q y → e y = decide (q = p) := fun y q h1 => by
    by_cases z : q = p
    · subst z
      rw [decide_eq_true rfl]
      exact @decide_eq_true _ (Classical.propDecidable _) h1
    · rw [decide_eq_false z]
      exact @decide_eq_false _ (Classical.propDecidable _) fun h2 => z (pair_uniq h1 h2)
  obtain ⟨bs, rx⟩ := hx.reads
  refine ⟨e, fun y hy => ?_, ey⟩
  obtain ⟨q, _, h1⟩ := paired_right pr _ hy
  rw [ey y q h1.1, ← pair_eqv]
  obtain ⟨as, ry⟩ := h1.1.reads
  exact SeqAt.eqAt_reads (pairD q) (pairD p) A s y x as bs ry rx (SeqAt.canLay_of_shaped (shaped_pair q)) (SeqAt.canLay_of_shaped (shaped_pair p)) (SeqAt.room_of_shaped (shaped_pair q) hu)
theorem PV.ref {h : Heap} {p : Int × Int} {v : Value} (x : PV h p v) : ∃ b, v = .ref b := let ⟨a, _, _, _, e, _⟩ := x; ⟨a, e⟩
theorem findP {S : Addr} {ps : List (Int × Int)} {x : Value} {p : Int × Int} {Q : Option Nat → Shared → Prop} (hu : A.units + 64 < cLine) (hS : SetP s.heap S ps) (hx : PV s.heap p x)
    (h : ∀ r : Option Nat, r.isSome = decide (p ∈ ps) → Q r s) : wpAny (model prog w) A (setFind S x (hashP p)) Q E s := by
  obtain ⟨o, es, ep, t, ps', ho, hxs, hd, ok, pr, pm⟩ := hS
  obtain ⟨e, he, ey⟩ := eqP (S := S) hu pr hx
  obtain ⟨b, hb⟩ := hx.ref
  have el : ∀ q ∈ es.toList, ∃ p1 ∈ ps', ElP s.heap p1 q := fun q hq => paired_right pr q hq
  unfold setFind setFindIn
  refine wpAny_bind (wpAny_setState_of ho hd ok.1.fits ?_)
  dsimp only
  have hsc : byScan x es = false := by rw [hb]; rfl
  rw [hsc]
  simp only [Bool.false_eq_true, if_false]
  have okt := ok.1
  obtain ⟨N, hNl, hN, hl⟩ := free_soon okt.fu (hashP p) t.place.toList (by rw [Array.length_toList]; exact okt.fl)
  have hmk : t.mask ≤ 2047 := by rcases ok.2 with z | z | z | z | z <;> omega
  refine wpAny_bind ?_
  unfold setSearch
  refine search_fromF (e := e) ho hd okt (fun q hq => ?_) he (fun l Q' hl' hq => ?_) (fun y hy ee i => ?_) hN hl hNl (fun no => ?_) 100000 0 none (Nat.zero_le _) (by unfold turns at hNl; omega) rfl (fun m i y hm => absurd hm (Nat.not_lt_zero _))
  · obtain ⟨p1, _, h1⟩ := el q hq
    exact h1.1.ref
  · refine seenP hx l Q' (fun y hy => ?_) hq
    obtain ⟨p1, _, h1⟩ := el _ (hl' y hy)
    exact ⟨p1, h1.1⟩
  · dsimp only
    obtain ⟨p1, m1, h1⟩ := el _ hy
    rw [ey y p1 h1.1] at ee
    have e1 : p1 = p := of_decide_eq_true ee
    have an : p ∈ ps := by rw [← e1]; exact pm.mem_iff.mp m1
    exact wpAny_pure (h _ (by rw [decide_eq_true an]; rfl))
  · dsimp only
    have an : ¬ p ∈ ps := fun z => by
      obtain ⟨q, hq, h1⟩ := paired_left pr p (pm.mem_iff.mpr z)
      have h2 := h1.2
      have := no q.2 (by rw [← h2]; exact hq)
      rw [ey q.2 p h1.1, decide_eq_true rfl] at this
      cases this
    exact wpAny_pure (h _ (by rw [decide_eq_false an]; rfl))
end
end Sx
set_option Elab.async false
set_option linter.all false
set_option maxRecDepth 100000
set_option maxHeartbeats 4000000
namespace Sx
open PySem L2 TL
abbrev Pr := Int × Int
def QE (p : Pr × V) (e : Int × Value) : Prop := RelV p.2 e.2 ∧ e.1 = hashP p.1
def SetQ (a : Addr) (kvs : List (Pr × V)) (h : Heap) : Prop := ∃ o es ep t kvs', h.get? a = some o ∧ o.ExactSet ∧ o.data = .set es ep t ∧ OkB t es ∧ Paired QE kvs' es.toList ∧ kvs'.Perm kvs
def setQ (a : Addr) (kvs : List (Pr × V)) : HO := .ext (SetQ a kvs)
def PrAt (H : Hp) (p : Pr) (v : V) : Prop := ∃ b, v = .ref b ∧ H b = some (.tup [.int p.1, .int p.2])
def QKs (H : Hp) (kvs : List (Pr × V)) : Prop := ∀ q ∈ kvs, PrAt H q.1 q.2
theorem SetQ.obj {P : Program} {w : World} {H : Hp} {h : Heap} {a : Addr} {kvs : List (Pr × V)} (x : SetQ a kvs h) : ObjOk P w H h a (setQ a kvs) := by
  refine ⟨x, ?_, fun h1 h2 y g => ?_⟩
  · obtain ⟨o, _, _, _, _, ho, _⟩ := x
    exact ⟨o, ho⟩
  · obtain ⟨o, es, ep, t, kvs', ho, z⟩ := y
    exact ⟨o, es, ep, t, kvs', g o ho, z⟩
theorem okB_fresh (led : Bool) : OkB (SetTable.fresh 0 0 led) #[] :=
  ⟨⟨rfl, full7, (show 7 % 2 = 1 by decide), rfl, List.Pairwise.nil, fun j hj => (nomatch hj), Nat.zero_le _, fun i j e z => by simp [SetTable.fresh] at z⟩, .inl ⟨rfl, Nat.zero_le _⟩⟩
section
variable {X : Cx} {pins : List (Addr × Obj)} {σ : St} {H : Hp} {s : Shared} {a : Addr} {kvs : List (Pr × V)}
theorem pv_of (I : Inv X pins σ H s) {p : Pr} {v : V} {u : Value} (x : PrAt H p v) (r : RelV v u) : PV s.heap p u := by
  obtain ⟨b, rfl, hb⟩ := x
  obtain rfl : u = Value.ref b := r
  obtain ⟨hz, its, rv, o, ho, hc, ⟨n, hd⟩, _⟩ := I.hok b _ hb
  refine ⟨b, o, its.toArray, n, rfl, ho, hc, hd, ?_⟩
  cases rv with | cons r1 q => cases q with | cons r2 q => cases q with | nil =>
    obtain ⟨t, e1⟩ := r1
    obtain ⟨t2, e2⟩ := r2
    exact .cons (.inl ⟨_, t, rfl, e1⟩) (.cons (.inl ⟨_, t2, rfl, e2⟩) .nil)
theorem setP_open (I : Inv X pins σ H s) (ha : H a = some (setQ a kvs)) : ∃ o es ep t kvs', s.heap.get? a = some o ∧ o.ExactSet ∧ o.data = .set es ep t ∧ OkB t es ∧ Paired QE kvs' es.toList ∧ kvs'.Perm kvs := (I.hok a _ ha).1
theorem paired_fst {h : Heap} : ∀ {l : List (Pr × V)} {zs : List (Int × Value)}, Paired QE l zs → (∀ q ∈ l, ∀ u, RelV q.2 u → PV h q.1 u) → Paired (ElP h) (l.map (·.1)) zs
  | _, _, .nil, _ => .nil
  | _, _, .cons r t, hl => .cons ⟨hl _ List.mem_cons_self _ r.1, r.2⟩ (paired_fst t fun q hq => hl q (List.mem_cons_of_mem _ hq))
theorem setP_of (I : Inv X pins σ H s) (ha : H a = some (setQ a kvs)) (hk : QKs H kvs) : SetP s.heap a (kvs.map (·.1)) := by
  obtain ⟨o, es, ep, t, kvs', ho, hx, hd, ok, pr, pm⟩ := setP_open I ha
  exact ⟨o, es, ep, t, kvs'.map (·.1), ho, hx, hd, ok, paired_fst pr fun q hq u r => pv_of I (hk q (pm.mem_iff.mp hq)) r, pm.map _⟩
end
section
variable {prog : Program} {w : World} {A : Around} {E : Value → Shared → Prop} {s : Shared} {a : Addr} {ps : List Pr} {p : Pr} {x : Value}
theorem SetP.typeIs (hS : SetP s.heap a ps) : s.TypeIs (.ref a) "set" := let ⟨o, _, _, _, _, ho, hc, _⟩ := hS; ⟨o, ho, hc.1⟩
theorem inP {Q : Value → Shared → Prop} (hu : A.units + 100 < cLine) (hS : SetP s.heap a ps) (hx : PV s.heap p x)
    (h : ∀ tk, Q (.bool (decide (p ∈ ps))) { s with toks := tk }) : wpAny (model prog w) A (compareOp .In x (.ref a)) Q E s := by
  show wpAny _ _ (do return .bool (← contains (.ref a) x)) Q E s
  refine wpAny_bind ?_
  unfold contains
  try with_reducible refine wpAny_holding ?_
  refine wpAny_bind (wpAny_specialOf hS.typeIs F.slot_set_contains.lookup ?_)
  show wpAny _ _ (if (some (Value.builtin "set.__contains__") == some Value.none) = true then _ else _) _ E s
  rw [if_neg (by rw [beq_builtin_none]; exact Bool.false_ne_true)]
  refine wpAny_bind (wpAny_callSpecialUnlessNone?_slot (name := Str.ofString "__contains__") hS.typeIs F.slot_set_contains
    (wpAny_call_entry F.slot_set_contains hS.typeIs entry_set_contains ?_ (F.args_set_contains_2 _ _)))
  unfold Builtin.«frozenset.__contains__» Builtin.Frozenset.oneOther
  simp only [List.isEmpty_nil, bind_assoc]
  unfold Builtin.Frozenset.addrOf Builtin.Frozenset.withSetAsKey setContains
  refine wpAny_bind (wpAny_pure ?_)
  try dsimp only
  refine wpAny_bind (wpAny_pure ?_)
  try dsimp only
  refine wpAny_bind (wpAny_tryCatch ?_)
  refine wpAny_holding ?_
  refine wpAny_bind (hashP_ok (show A.units + 1 + 4 < cLine by omega) hx fun tk _ => ?_)
  refine wpAny_bind (findP (s := { s with toks := tk }) (show A.units + 1 + 64 < cLine by omega) hS hx fun r hr => ?_)
  refine wpAny_pure ?_
  show wpAny _ _ (ret (Value.bool r.isSome)) _ _ _
  rw [hr]
  exact wpAny_pure ⟨_, rfl, wpAny_truthy_bool (wpAny_pure (h tk))⟩
theorem addCall {o : Obj} {es : Array (Int × Value)} {ep : Nat} {t : SetTable} {ps' : List Pr} {Q : Value → Shared → Prop} (hu : A.units + 100 < cLine) (ho : s.heap.get? a = some o) (hxs : o.ExactSet) (hd : o.data = .set es ep t) (ok : OkB t es) (pr : Paired (ElP s.heap) ps' es.toList) (hx : PV s.heap p x) (hl : ps'.length < 1228)
    (hin : p ∈ ps' → ∀ tk, Q .none { s with toks := tk })
    (hno : ¬ p ∈ ps' → ∀ (h' : Heap) (es' : Array (Int × Value)) (ep' : Nat) (t' : SetTable) (tk : Nat), Heap.SameBut a s.heap h' → h'.get? a = some { o with data := .set es' ep' t' } → OkB t' es' → es'.toList.Perm ((hashP p, x) :: es.toList) → Q .none { s with heap := h', toks := tk }) :
    wpAny (model prog w) A (call (.builtin "set.add") [.ref a, x]) Q E s := by
  have hT : s.TypeIs (.ref a) "set" := ⟨o, ho, hxs.1⟩
  refine wpAny_call_entry F.slot_set_add hT F.entry_set_add ?_ (F.args_set_add_2 _ _)
  unfold Builtin.«set.add» Builtin.Frozenset.oneOther
  simp only [List.isEmpty_nil, bind_assoc]
  unfold Builtin.Frozenset.addrOf setAdd
  refine wpAny_bind (wpAny_pure ?_)
  try dsimp only
  refine wpAny_bind (wpAny_pure ?_)
  try dsimp only
  refine wpAny_bind ?_
  refine wpAny_holding ?_
  refine wpAny_bind (hashP_ok (show A.units + 1 + 4 < cLine by omega) hx fun tk _ => ?_)
  have len : es.size = ps'.length := by rw [← Array.length_toList]; exact pr.length.symm
  have pr' : Paired (ElP ({ s with toks := tk } : Shared).heap) ps' es.toList := pr
  have hx' : PV ({ s with toks := tk } : Shared).heap p x := hx
  obtain ⟨e, he, ey⟩ := eqP (A := A.in1) (s := { s with toks := tk }) (S := a) (show A.units + 1 + 64 < cLine by omega) pr' hx'
  obtain ⟨b, hb⟩ := hx.ref
  have el : ∀ q ∈ es.toList, ∃ p1 ∈ ps', ElP s.heap p1 q := fun q hq => paired_right pr q hq
  refine add_okB (s := { s with toks := tk }) (e := e) ho hd ok hb (fun q hq => ?_) he (fun l Q' hl' hq => ?_) (fun Q' hq => ?_) (by omega) (fun y hy ee => ?_) (fun no h' es' ep' t' sb g ok' pm' => ?_)
  · obtain ⟨p1, _, h1⟩ := el q hq
    exact h1.1.ref
  · refine seenP hx' l Q' (fun y hy => ?_) hq
    obtain ⟨p1, _, h1⟩ := el _ (hl' y hy)
    exact ⟨p1, h1.1⟩
  · exact byvP (m := 6) hx' hq
  · obtain ⟨p1, m1, h1⟩ := el _ hy
    rw [ey y p1 h1.1] at ee
    have e1 : p1 = p := of_decide_eq_true ee
    subst e1
    show wpAny _ _ (ret Value.none) _ _ _
    exact wpAny_pure ⟨_, rfl, hin m1 tk⟩
  · have an : ¬ p ∈ ps' := fun z => by
      obtain ⟨q, hq, h1⟩ := paired_left pr p z
      have h2 := h1.2
      have := no q.2 (by rw [← h2]; exact hq)
      rw [ey q.2 p h1.1, decide_eq_true rfl] at this
      cases this
    show wpAny _ _ (ret Value.none) _ _ _
    exact wpAny_pure ⟨_, rfl, hno an h' es' ep' t' tk sb g ok' pm'⟩
end
def rInP : R2 := fun x y H Q => ∃ a kvs p, y = .ref a ∧ H a = some (setQ a kvs) ∧ QKs H kvs ∧ PrAt H p x ∧ Q (.bl (decide (p ∈ kvs.map (·.1)))) H
def rAddP : V → List V → Hp → VK → Prop := fun x vs H Q => ∃ a kvs p y, x = .ref a ∧ vs = [y] ∧ H a = some (setQ a kvs) ∧ QKs H kvs ∧ PrAt H p y ∧ kvs.length < 1228 ∧ ¬ p ∈ kvs.map (·.1) ∧ Q .non (upd H a (setQ a ((p, y) :: kvs)))
def tSetM (r : V → List V → Hp → VK → Prop) (to : TE) (t : TA) : TE := fun σ H Q => to σ H fun x H1 => (∃ a kvs, x = .ref a ∧ H1 a = some (setQ a kvs)) ∧ t σ H1 fun xs H2 => r x xs H2 Q
section
variable {X : Cx}
/-- set() -/
theorem call_setQ : CallR X (.type "set") (fun xs H Q => xs = [] ∧ ∀ p, H p = none → Q (.ref p) (upd H p (setQ p []))) := by
  intro pins s σ H xs us Q I r q
  obtain ⟨rfl, q⟩ := q
  cases r
  refine call_set_0 fun led => ?_
  exact ⟨.ref s.heap.objs.size, upd H s.heap.objs.size (setQ s.heap.objs.size []), I.laid (t' := s.toks) (fun _ _ q => Heap.get?_push_of_some _ q) (Nat.le_refl _)
    (SetQ.obj ⟨_, #[], 0, _, [], Heap.get?_push_size _ rfl, ⟨rfl, rfl, rfl⟩, rfl, okB_fresh led, .nil, .refl _⟩), rfl, q _ (I.hok.fresh (Nat.le_refl _))⟩
theorem op_inP (hu : X.A.units + 100 < cLine) : OpR X (compareOp .In) rInP := by
  intro pins s σ H x y v u Q I rx ry h
  obtain ⟨a, kvs, p, rfl, ha, hk, hp, q⟩ := h
  cases ry
  exact inP hu (setP_of I ha hk) (pv_of I hp rx) fun tk => ⟨.bl _, H, I.tok tk, rfl, q⟩
theorem mt_addP (hu : X.A.units + 100 < cLine) : MtR X "set.add" rAddP := by
  intro pins s σ H x vs v us Q I rx rv h
  obtain ⟨a, kvs, p, y, rfl, rfl, ha, hk, hp, hl, hn, q⟩ := h
  cases rx
  obtain ⟨u, rfl, ru⟩ := vals1 rv
  obtain ⟨o, es, ep, t, kvs', ho, hx, hd, ok, pr, pm⟩ := setP_open I ha
  have mu : Mut (H a) := by rw [ha]; trivial
  refine addCall hu ho hx hd ok (paired_fst pr fun q hq u r => pv_of I (hk q (pm.mem_iff.mp hq)) r) (pv_of I hp ru) (by rw [List.length_map, pm.length_eq]; exact hl) (fun z => absurd ((pm.map (·.1)).mem_iff.mp z) hn) fun _ h' es' ep' t' tk sb g ok' pm' => ?_
  refine ⟨.non, _, I.write (o := setQ a ((p, y) :: kvs)) (t' := tk) mu (.inl rfl) (fun b u hb q => (sb.2 b hb).trans q) ⟨_, g⟩ (SetQ.obj ?_), rfl, q⟩
  obtain ⟨kv2, p2, pr2⟩ := paired_perm pm' (Paired.cons (F := QE) (a := (p, y)) (b := (hashP p, u)) ⟨ru, rfl⟩ pr)
  exact ⟨_, es', ep', t', kv2, g, hx, rfl, ok', pr2, p2.trans (pm.cons _)⟩
theorem pe_setM {o e : Expr} {es : List Expr} {to : TE} {t : TA} {name : Str} {apos cpos : Pos} {id : String} {r : V → List V → Hp → VK → Prop} (slot : Slot "set" name id) (hty : typeOf (.builtin id) = pure (.type "method_descriptor")) (hm : MtR X id r) (ho : PE X o to) (ha : PA X (e :: es) t)
    (hbase : attributeBase o name X.env (eval o X.env) = eval o X.env := by rfl)
    (hfew : ((backTo cpos (starEach (e :: es) X.env)).all (fun x => !x.1) && (backToKw cpos (keywordEach [] X.env)).all (fun x => x.1.isSome)
      && decide ((e :: es).length + ([] : List Keyword).length + (if ([] : List Keyword).isEmpty then 0 else 1) < 30)) = true := by rfl)
    (hline : (apos.endLine == cpos.line) = true := by rfl) (hs : starEach (e :: es) X.env = (false, eval e X.env) :: starEach es X.env := by rfl) (hplain : (backTo cpos (starEach es X.env)).any (·.1) = false := by rfl) :
    PE X (.Call (.Attribute o name apos) (e :: es) [] cpos) (tSetM r to t) := by
  intro pins s σ H Q I h
  refine wpAny_Call_method_late hbase hfew hline rfl (thn (ho s σ H _ I h) fun v s1 ⟨x, H1, I1, r1, ⟨a, kvs, e1, ea⟩, q1⟩ => ?_)
  subst e1
  obtain rfl : v = Value.ref a := r1
  obtain ⟨ob, _, _, _, _, hob, hx, _⟩ := setP_open I1 ea
  refine ⟨"set", id, F.plainAttrs_set, slot, hty, ⟨ob, hob, hx.1⟩, (fun b e => by cases e; exact ⟨ob, hob, hx.2.1⟩), ?_⟩
  have hA := ha cpos s1 σ H1 _ I1 q1
  rw [hs] at hA ⊢
  refine Calls.callWith_builtin (by show (false || (backTo cpos (starEach es X.env)).any (·.1)) = false; rw [hplain] <;> rfl) (Calls.evalArgs_plain ?_)
  exact thn hA fun us s2 ⟨vs, H2, I2, r2, q2⟩ => hm s2 σ H2 (.ref a) vs _ us Q I2 rfl r2 q2
end
end Sx
set_option Elab.async false
set_option linter.all false
set_option maxRecDepth 100000
set_option maxHeartbeats 4000000
namespace PySem
namespace ZT
open Sem (wp)
section
variable {prog : Program} {w : World} {A : Around} {EE : Value → Shared → Prop} {s : Shared}
theorem nxT_item {it l : Addr} {i : Nat} {items} {x : Value} {QQ : Value → Shared → Prop} (hit : s.heap.IsTupleIter it l i)
    (hl : s.heap.IsTuple l items) (hx : items[i]? = some x)
    (hQQ : ∀ h', h'.IsTupleIter it l (i + 1) → Heap.SameBut it s.heap h' → QQ x { s with heap := h' }) :
    wpAny (model prog w) A (Builtin.SmallTypes.nextOf (.ref it)) QQ EE s := by
  obtain ⟨o, hoo, hc, hdd⟩ := id hit
  obtain ⟨ol, hol, _, nl, hdl⟩ := hl
  unfold Builtin.SmallTypes.nextOf
  refine wpAny_bind (wpAny_callSpecial?_slot (name := Str.ofString "__next__") hit.typeIs F.slot_tuple_iterator_next
    (wpAny_call_entry F.slot_tuple_iterator_next hit.typeIs F.entry_tuple_iterator_next ?_ (F.args_tuple_iterator_next_1 _)))
  show wpAny _ _ (field (.ref it) 0 >>= _) _ _ s
  refine wpAny_bind (wpAny_field hoo hdd (x := .ref l) rfl ?_)
  show wpAny _ _ (if (Value.ref l == Value.none) = true then _ else _) _ _ s
  rw [if_neg (show ¬ ((Value.ref l == Value.none) = true) from Bool.false_ne_true)]
  show wpAny _ _ (field (.ref it) 1 >>= _) _ _ s
  refine wpAny_bind (wpAny_field hoo hdd (x := .int i 0) rfl ?_)
  show wpAny _ _ (seqItems? (.ref l) >>= _) _ _ s
  refine wpAny_bind (wpAny_seqItems hol hdl ?_)
  simp only [Int.toNat_natCast, hx]
  refine wpAny_bind (wpAny_setField hoo hdd (by simp) (wpAny_pure ⟨x, rfl, wpAny_pure (hQQ _ ?_ (Heap.SameBut.update ..))⟩))
  exact ⟨_, Heap.get?_update_self _ hoo (Obj.isFreed_of_fields (Obj.data_mapFields hdd _)), (Obj.cls_mapFields ..).trans hc, by
    rw [Obj.data_mapFields hdd]; simp [rawInt]⟩
theorem nxT_end {it l : Addr} {i : Nat} {items} {QQ : Value → Shared → Prop} (hh : A.handled = none)
    (hit : s.heap.IsTupleIter it l i) (hl : s.heap.IsTuple l items) (hx : items[i]? = none)
    (hEE : ∀ h' e, Heap.ExtBut it s.heap h' → (∃ o, h'.get? e = some o ∧ o.cls = .type "StopIteration") → EE (.ref e) { s with heap := h' }) :
    wpAny (model prog w) A (Builtin.SmallTypes.nextOf (.ref it)) QQ EE s := by
  obtain ⟨o, hoo, hc, hdd⟩ := id hit
  obtain ⟨ol, hol, _, nl, hdl⟩ := hl
  unfold Builtin.SmallTypes.nextOf
  refine wpAny_bind (wpAny_callSpecial?_slot (name := Str.ofString "__next__") hit.typeIs F.slot_tuple_iterator_next
    (wpAny_call_entry F.slot_tuple_iterator_next hit.typeIs F.entry_tuple_iterator_next ?_ (F.args_tuple_iterator_next_1 _)))
  show wpAny _ _ (field (.ref it) 0 >>= _) _ _ s
  refine wpAny_bind (wpAny_field hoo hdd (x := .ref l) rfl ?_)
  show wpAny _ _ (if (Value.ref l == Value.none) = true then _ else _) _ _ s
  rw [if_neg (show ¬ ((Value.ref l == Value.none) = true) from Bool.false_ne_true)]
  show wpAny _ _ (field (.ref it) 1 >>= _) _ _ s
  refine wpAny_bind (wpAny_field hoo hdd (x := .int i 0) rfl ?_)
  show wpAny _ _ (seqItems? (.ref l) >>= _) _ _ s
  refine wpAny_bind (wpAny_seqItems hol hdl ?_)
  simp only [Int.toNat_natCast, hx]
  refine wpAny_bind (wpAny_rule (wpAny_bind (wpAny_setField hoo hdd (by simp) ?_)))
  show wpAny _ _ (newExc (.type "StopIteration") [] >>= _) _ _ _
  refine wpAny_bind ?_
  simp only [newExc, newTuple]
  refine wpAny_bind (wpAny_newObj_type ?_ (by size_fits))
  refine wpAny_bind (m := firstArgMember _ _) (wpAny_of_eq (a := Value.none) (by first | rfl | (simp only [firstArgMember]; rfl)) ?_)
  refine wpAny_newObj_type ?_ (by size_fits)
  simp only [raiseNew]
  refine wpAny_bind (wpAny_handled ?_)
  first | rw [show A.in1.handled = none from hh] | rw [hh]
  refine wpAny_bind (wpAny_pure (wpAny_throw ?_))
  exact hEE _ _ (((Heap.SameBut.update ..).extBut.push _).push _) ⟨_, Heap.get?_push_size _ rfl, rfl⟩
theorem zpT_item {z TI TO i1 i2 l1 l2 : Addr} {k1 k2 : Nat} {xs ys : Array Value} {x y a b : Value} {QQ : Value → Shared → Prop} (D : ZipApart z TI TO i1 i2 l1 l2)
    (hz : IsZip s.heap z TI TO .none) (hti : IsPair s.heap TI (.ref i1) (.ref i2)) (hto : IsPair s.heap TO a b)
    (h1 : s.heap.IsTupleIter i1 l1 k1) (h2 : s.heap.IsTupleIter i2 l2 k2) (hl1 : s.heap.IsTuple l1 xs) (hl2 : s.heap.IsTuple l2 ys) (hx : xs[k1]? = some x) (hy : ys[k2]? = some y)
    (hQQ : ∀ h', IsZip h' z TI TO (rawInt s.heap.objs.size) → IsPair h' TO x y → h'.IsTupleIter i1 l1 (k1 + 1) → h'.IsTupleIter i2 l2 (k2 + 1) → IsPair h' s.heap.objs.size x y → h'.objs.size = s.heap.objs.size + 1 →
      (∀ c o, c ≠ z → c ≠ TO → c ≠ i1 → c ≠ i2 → s.heap.get? c = some o → h'.get? c = some o) → QQ (.ref s.heap.objs.size) { s with heap := h' }) :
    wpAny (model prog w) A (Builtin.«zip.__next__» ⟨[.ref z], []⟩) (fun fin s' => ∃ v, fin = .done (.ret v) ∧ QQ v s') EE s := by
  show wpAny _ _ (field (.ref z) 2 >>= _) _ _ _
  refine wpAny_bind (wpAny_field hz rfl (x := .bool false) rfl ?_)
  show wpAny _ _ (field (.ref z) 3 >>= _) _ _ _
  refine wpAny_bind (wpAny_field hz rfl (x := .ref TI) rfl ?_)
  refine wpAny_bind (wpAny_seqItems hti rfl ?_)
  show wpAny _ _ (Builtin.SmallTypes.ownedTupleIsFree (.ref z) >>= _) _ _ _
  refine wpAny_bind ?_
  unfold Builtin.SmallTypes.ownedTupleIsFree
  refine wpAny_bind (wpAny_field hz rfl (x := .none) rfl (wpAny_pure ?_))
  simp only [if_true]
  refine wpAny_bind (wpAny_rule ?_)
  refine wpAny_bind (wpAny_field hz rfl (x := .ref TO) rfl ?_)
  refine wpAny_bind (wpAny_setField_rec hz (by simp) fun ga hza hsa => ?_)
  replace hza : IsZip ga z TI TO .ellipsis := hza
  refine wpAny_bind ?_
  simp only [List.zipIdx_cons, List.zipIdx_nil, List.forIn_cons, List.forIn_nil]
  refine wpAny_bind (wpAny_bind (wpAny_onRaise ?_))
  show wpAny _ _ (Builtin.SmallTypes.nextOf (.ref i1) >>= _) _ _ _
  refine wpAny_bind (nxT_item (h1.extBut hsa.extBut D.i1z) (hl1.extBut hsa.extBut D.l1z) hx fun gb h1b hsb => wpAny_pure ?_)
  have htob : IsPair gb TO a b := hsb.extBut _ _ D.TOi1 (hsa.extBut _ _ D.TOz hto)
  refine wpAny_bind (wpAny_seqItems htob rfl ?_)
  refine wpAny_bind (wpAny_updateSeq_pair htob fun gc htoc hsc => ?_)
  replace htoc : IsPair gc TO x b := htoc
  refine wpAny_bind (wpAny_letGo (wpAny_pure ?_))
  refine wpAny_bind (wpAny_bind (wpAny_onRaise ?_))
  show wpAny _ _ (Builtin.SmallTypes.nextOf (.ref i2) >>= _) _ _ _
  refine wpAny_bind (nxT_item (((h2.extBut hsa.extBut D.i2z).extBut hsb.extBut D.i12.symm).extBut hsc.extBut D.TOi2.symm)
    (((hl2.extBut hsa.extBut D.l2z).extBut hsb.extBut D.l2i1).extBut hsc.extBut D.l2TO) hy fun gd h2d hsd => wpAny_pure ?_)
  have htod : IsPair gd TO x b := hsd.extBut _ _ D.TOi2 htoc
  refine wpAny_bind (wpAny_seqItems htod rfl ?_)
  refine wpAny_bind (wpAny_updateSeq_pair htod fun ge htoe hse => ?_)
  replace htoe : IsPair ge TO x y := htoe
  refine wpAny_bind (wpAny_letGo (wpAny_pure (wpAny_pure ?_)))
  refine wpAny_bind (wpAny_seqItems htoe rfl ?_)
  refine wpAny_bind (wpAny_newTuple ?_)
  have hsz : ge.objs.size = s.heap.objs.size := by rw [hse.1, hsd.1, hsc.1, hsb.1, hsa.1]
  have hze : IsZip ge z TI TO .ellipsis := hse.extBut _ _ D.TOz.symm (hsd.extBut _ _ D.i2z.symm (hsc.extBut _ _ D.TOz.symm (hsb.extBut _ _ D.i1z.symm hza)))
  have hkke : ∀ c o, c ≠ z → c ≠ TO → c ≠ i1 → c ≠ i2 → s.heap.get? c = some o → ge.get? c = some o := fun c o c1 c2 c3 c4 e =>
    hse.extBut _ _ c2 (hsd.extBut _ _ c4 (hsc.extBut _ _ c2 (hsb.extBut _ _ c3 (hsa.extBut _ _ c1 e))))
  have h1e : ge.IsTupleIter i1 l1 (k1 + 1) := ((h1b.extBut hsc.extBut D.TOi1.symm).extBut hsd.extBut D.i12).extBut hse.extBut D.TOi1.symm
  have h2e : ge.IsTupleIter i2 l2 (k2 + 1) := h2d.extBut hse.extBut D.TOi2.symm
  have hzlt : z < ge.objs.size := Heap.lt_size hze
  have htolt : TO < ge.objs.size := Heap.lt_size htoe
  have hi1lt : i1 < ge.objs.size := by obtain ⟨_, e, _⟩ := h1e; exact Heap.lt_size e
  have hi2lt : i2 < ge.objs.size := by obtain ⟨_, e, _⟩ := h2e; exact Heap.lt_size e
  show wpAny _ _ (Builtin.SmallTypes.ownedTupleHandOut (.ref z) (.ref ge.objs.size) >>= _) _ _ _
  refine wpAny_bind ?_
  unfold Builtin.SmallTypes.ownedTupleHandOut
  have hzf : IsZip (ge.push { cls := .type "tuple", data := .seq #[x, y] }) z TI TO .ellipsis := Heap.get?_push_of_some _ hze
  refine wpAny_bind (wpAny_setField_rec hzf (by simp) fun gg hzg hsg => ?_)
  replace hzg : IsZip gg z TI TO (rawInt ge.objs.size) := hzg
  refine wpAny_setField_rec hzg (by simp) fun gh hzh hsh => ?_
  replace hzh : IsZip gh z TI TO (rawInt ge.objs.size) := hzh
  have up : ∀ c o, c ≠ z → ge.get? c = some o → gh.get? c = some o := fun c o c1 e => hsh.extBut _ _ c1 (hsg.extBut _ _ c1 (Heap.get?_push_of_some _ e))
  have hTh : IsPair gh ge.objs.size x y := hsh.extBut _ _ (Nat.ne_of_gt hzlt) (hsg.extBut _ _ (Nat.ne_of_gt hzlt) (Heap.get?_push_size _ rfl))
  have hz8 : gh.objs.size = ge.objs.size + 1 := by rw [hsh.1, hsg.1, Heap.size_push]
  rw [hsz] at hzh hTh hz8
  refine wpAny_pure ⟨_, rfl, ?_⟩
  show QQ (.ref ge.objs.size) _
  rw [hsz]
  exact hQQ gh hzh (up _ _ D.TOz htoe) (h1e.at fun o e => up _ o D.i1z e) (h2e.at fun o e => up _ o D.i2z e) hTh hz8 fun c o c1 c2 c3 c4 e => up c o c1 (hkke c o c1 c2 c3 c4 e)
theorem zpT_end {z TI TO i1 i2 l1 l2 : Addr} {k1 k2 : Nat} {xs ys : Array Value} {a b : Value} {QQ : Fin → Shared → Prop} (hh : A.handled = none) (D : ZipApart z TI TO i1 i2 l1 l2)
    (hz : IsZip s.heap z TI TO .none) (hti : IsPair s.heap TI (.ref i1) (.ref i2)) (hto : IsPair s.heap TO a b)
    (h1 : s.heap.IsTupleIter i1 l1 k1) (h2 : s.heap.IsTupleIter i2 l2 k2) (hl1 : s.heap.IsTuple l1 xs) (hl2 : s.heap.IsTuple l2 ys) (hend : xs[k1]? = none ∨ ys[k2]? = none)
    (hEE : ∀ h' e, (∀ c o, c ≠ z → c ≠ TO → c ≠ i1 → c ≠ i2 → s.heap.get? c = some o → h'.get? c = some o) → (∃ o, h'.get? e = some o ∧ o.cls = .type "StopIteration") → EE (.ref e) { s with heap := h' }) :
    wpAny (model prog w) A (Builtin.«zip.__next__» ⟨[.ref z], []⟩) QQ EE s := by
  show wpAny _ _ (field (.ref z) 2 >>= _) _ _ _
  refine wpAny_bind (wpAny_field hz rfl (x := .bool false) rfl ?_)
  show wpAny _ _ (field (.ref z) 3 >>= _) _ _ _
  refine wpAny_bind (wpAny_field hz rfl (x := .ref TI) rfl ?_)
  refine wpAny_bind (wpAny_seqItems hti rfl ?_)
  show wpAny _ _ (Builtin.SmallTypes.ownedTupleIsFree (.ref z) >>= _) _ _ _
  refine wpAny_bind ?_
  unfold Builtin.SmallTypes.ownedTupleIsFree
  refine wpAny_bind (wpAny_field hz rfl (x := .none) rfl (wpAny_pure ?_))
  simp only [if_true]
  refine wpAny_bind (wpAny_rule ?_)
  refine wpAny_bind (wpAny_field hz rfl (x := .ref TO) rfl ?_)
  refine wpAny_bind (wpAny_setField_rec hz (by simp) fun ga hza hsa => ?_)
  replace hza : IsZip ga z TI TO .ellipsis := hza
  refine wpAny_bind ?_
  simp only [List.zipIdx_cons, List.zipIdx_nil, List.forIn_cons, List.forIn_nil]
  refine wpAny_bind (wpAny_bind (wpAny_onRaise ?_))
  show wpAny _ _ (Builtin.SmallTypes.nextOf (.ref i1) >>= _) _ _ _
  cases hx : xs[k1]? with
  | none =>
    refine wpAny_bind (nxT_end hh (h1.extBut hsa.extBut D.i1z) (hl1.extBut hsa.extBut D.l1z) hx fun gb e hsb he => ?_)
    obtain ⟨oe, hoe, hce⟩ := he
    have hzb : IsZip gb z TI TO .ellipsis := hsb _ _ D.i1z.symm hza
    have hez : e ≠ z := fun x => by subst x; rw [hzb] at hoe; cases hoe; simp at hce
    refine wpAny_setField_rec hzb (by simp) fun gc _ hsc => hEE gc e (fun c o c1 _ c3 _ x => hsc.extBut _ _ c1 (hsb _ _ c3 (hsa.extBut _ _ c1 x))) ⟨oe, hsc.extBut _ _ hez hoe, hce⟩
  | some x =>
    have hy : ys[k2]? = none := by rcases hend with h | h; rw [hx] at h; cases h; exact h
    refine wpAny_bind (nxT_item (h1.extBut hsa.extBut D.i1z) (hl1.extBut hsa.extBut D.l1z) hx fun gb h1b hsb => wpAny_pure ?_)
    have htob : IsPair gb TO a b := hsb.extBut _ _ D.TOi1 (hsa.extBut _ _ D.TOz hto)
    refine wpAny_bind (wpAny_seqItems htob rfl ?_)
    refine wpAny_bind (wpAny_updateSeq_pair htob fun gc htoc hsc => ?_)
    refine wpAny_bind (wpAny_letGo (wpAny_pure ?_))
    refine wpAny_bind (wpAny_bind (wpAny_onRaise ?_))
    show wpAny _ _ (Builtin.SmallTypes.nextOf (.ref i2) >>= _) _ _ _
    refine wpAny_bind (nxT_end hh (((h2.extBut hsa.extBut D.i2z).extBut hsb.extBut D.i12.symm).extBut hsc.extBut D.TOi2.symm)
      (((hl2.extBut hsa.extBut D.l2z).extBut hsb.extBut D.l2i1).extBut hsc.extBut D.l2TO) hy fun gd e hsd he => ?_)
    obtain ⟨oe, hoe, hce⟩ := he
    have hzd : IsZip gd z TI TO .ellipsis := hsd _ _ D.i2z.symm (hsc.extBut _ _ D.TOz.symm (hsb.extBut _ _ D.i1z.symm hza))
    have hez : e ≠ z := fun x => by subst x; rw [hzd] at hoe; cases hoe; simp at hce
    refine wpAny_setField_rec hzd (by simp) fun ge _ hse => hEE ge e (fun c o c1 c2 c3 c4 x => hse.extBut _ _ c1 (hsd _ _ c4 (hsc.extBut _ _ c2 (hsb.extBut _ _ c3 (hsa.extBut _ _ c1 x))))) ⟨oe, hse.extBut _ _ hez hoe, hce⟩
theorem pyT_item {z TI TO i1 i2 l1 l2 : Addr} {k1 k2 : Nat} {xs ys : Array Value} {x y a b : Value} {QQ : Option Value → Shared → Prop} (D : ZipApart z TI TO i1 i2 l1 l2)
    (hz : IsZip s.heap z TI TO .none) (hti : IsPair s.heap TI (.ref i1) (.ref i2)) (hto : IsPair s.heap TO a b)
    (h1 : s.heap.IsTupleIter i1 l1 k1) (h2 : s.heap.IsTupleIter i2 l2 k2) (hl1 : s.heap.IsTuple l1 xs) (hl2 : s.heap.IsTuple l2 ys) (hx : xs[k1]? = some x) (hy : ys[k2]? = some y)
    (hQQ : ∀ h', IsZip h' z TI TO (rawInt s.heap.objs.size) → IsPair h' TO x y → h'.IsTupleIter i1 l1 (k1 + 1) → h'.IsTupleIter i2 l2 (k2 + 1) → IsPair h' s.heap.objs.size x y → h'.objs.size = s.heap.objs.size + 1 →
      (∀ c o, c ≠ z → c ≠ TO → c ≠ i1 → c ≠ i2 → s.heap.get? c = some o → h'.get? c = some o) → QQ (some (.ref s.heap.objs.size)) { s with heap := h' }) :
    wpAny (model prog w) A (pyNext (.ref z)) QQ EE s := by
  have hT : s.TypeIs (.ref z) "zip" := ⟨_, hz, rfl⟩
  unfold pyNext
  exact wpAny_bind (wpAny_attempt (wpAny_callSpecial?_slot (name := Str.ofString "__next__") hT F.slot_zip_next
    (wpAny_call_entry F.slot_zip_next hT F.entry_zip_next
      (zpT_item D hz hti hto h1 h2 hl1 hl2 hx hy fun h' a1 a2 a3 a4 a5 a6 a7 => wpAny_pure (hQQ h' a1 a2 a3 a4 a5 a6 a7)) (F.args_zip_next_1 _))))
theorem pyT_end {z TI TO i1 i2 l1 l2 : Addr} {k1 k2 : Nat} {xs ys : Array Value} {a b : Value} {QQ : Option Value → Shared → Prop} (hh : A.handled = none) (D : ZipApart z TI TO i1 i2 l1 l2)
    (hz : IsZip s.heap z TI TO .none) (hti : IsPair s.heap TI (.ref i1) (.ref i2)) (hto : IsPair s.heap TO a b)
    (h1 : s.heap.IsTupleIter i1 l1 k1) (h2 : s.heap.IsTupleIter i2 l2 k2) (hl1 : s.heap.IsTuple l1 xs) (hl2 : s.heap.IsTuple l2 ys) (hend : xs[k1]? = none ∨ ys[k2]? = none)
    (hQQ : ∀ h', (∀ c o, c ≠ z → c ≠ TO → c ≠ i1 → c ≠ i2 → s.heap.get? c = some o → h'.get? c = some o) → QQ none { s with heap := h' }) : wpAny (model prog w) A (pyNext (.ref z)) QQ EE s := by
  have hT : s.TypeIs (.ref z) "zip" := ⟨_, hz, rfl⟩
  unfold pyNext
  refine wpAny_bind (wpAny_attempt (wpAny_callSpecial?_slot (name := Str.ofString "__next__") hT F.slot_zip_next
    (wpAny_call_entry F.slot_zip_next hT F.entry_zip_next (zpT_end hh D hz hti hto h1 h2 hl1 hl2 hend fun h' e hkk he => ?_) (F.args_zip_next_1 _))))
  obtain ⟨o, hoo, hc⟩ := he
  refine wpAny_bind (wpAny_isInstance (T := "StopIteration") (b := true) ⟨o, hoo, hc⟩ isSubtype_stop ?_)
  exact wpAny_pure (hQQ _ hkk)
end
abbrev zpH1 (h : Heap) (l1 : Addr) : Heap := h.push { cls := .type "tuple_iterator", data := .fields #[.ref l1, .int 0 0] }
abbrev zpH2 (h : Heap) (l1 l2 : Addr) : Heap := (zpH1 h l1).push { cls := .type "tuple_iterator", data := .fields #[.ref l2, .int 0 0] }
abbrev zpH3 (h : Heap) (l1 l2 : Addr) : Heap := (zpH2 h l1 l2).push { cls := .type "tuple", data := .seq #[.ref h.objs.size, .ref (zpH1 h l1).objs.size] }
abbrev zpH4 (h : Heap) (l1 l2 : Addr) : Heap := (zpH3 h l1 l2).push { cls := .type "tuple", data := .seq #[.none, .none] }
abbrev zpH5 (h : Heap) (l1 l2 : Addr) : Heap := (zpH4 h l1 l2).push { cls := .type "zip", data := .fields #[.none, .bool false, .bool false, .ref (zpH2 h l1 l2).objs.size, .ref (zpH3 h l1 l2).objs.size] }
theorem mtT_new (l1 l2 : Addr) (xs ys : Array Value) :
    Meets (Builtin.«zip.__new__» ⟨[.type "zip", .ref l1, .ref l2], []⟩) (fun _ R s => s.heap.IsTuple l1 xs ∧ s.heap.IsTuple l2 ys ∧
      R (.ok (.ret (.ref (zpH4 s.heap l1 l2).objs.size))) { s with heap := zpH5 s.heap l1 l2 }) :=
  .of_wp fun prog w A R s h => by
    obtain ⟨hp, g, d, tk, os⟩ := s; obtain ⟨hl1, hl2, h⟩ := h
    have hsub := sub_zip
    have hL1 : Heap.IsTuple (Shared.heap ⟨hp, g, d, tk, os⟩) l1 xs := hl1
    have hL2 : Heap.IsTuple (Shared.heap ⟨hp.push { cls := .type "tuple_iterator", data := .fields #[.ref l1, .int 0 0] }, g, d, tk, os⟩) l2 ys := Heap.IsTuple.push hl2 _
    wp_walk using wpAny_pyIter_tuple hL1, wpAny_pyIter_tuple hL2
    exact ⟨_, rfl, h⟩
section
variable {prog : Program} {w : World} {A : Around} {EE : Value → Shared → Prop} {s : Shared}
theorem clT_zip {l1 l2 : Addr} {xs ys : Array Value} {QQ : Value → Shared → Prop} (hl1 : s.heap.IsTuple l1 xs) (hl2 : s.heap.IsTuple l2 ys)
    (h : ∀ h', IsZip h' (s.heap.objs.size + 4) (s.heap.objs.size + 2) (s.heap.objs.size + 3) .none → IsPair h' (s.heap.objs.size + 2) (.ref s.heap.objs.size) (.ref (s.heap.objs.size + 1)) →
      IsPair h' (s.heap.objs.size + 3) .none .none → h'.IsTupleIter s.heap.objs.size l1 0 → h'.IsTupleIter (s.heap.objs.size + 1) l2 0 → h'.objs.size = s.heap.objs.size + 5 →
      (∀ c o, s.heap.get? c = some o → h'.get? c = some o) → QQ (.ref (s.heap.objs.size + 4)) { s with heap := h' }) :
    wpAny (model prog w) A (call (.type "zip") [.ref l1, .ref l2]) QQ EE s := by
  refine callType_new F.called_zip (by decide) (F.typeCall_zip_2 _ _) (F.newCall_zip_2 _ _) (fun obj => F.args_object_init_3 obj _ _) F.entry_zip_new
    (mtT_new l1 l2 xs ys) ⟨hl1, hl2, ?_⟩
  have z1 : (zpH1 s.heap l1).objs.size = s.heap.objs.size + 1 := Heap.size_push ..
  have z2 : (zpH2 s.heap l1 l2).objs.size = s.heap.objs.size + 2 := by rw [Heap.size_push, z1]
  have z3 : (zpH3 s.heap l1 l2).objs.size = s.heap.objs.size + 3 := by rw [Heap.size_push, z2]
  have z4 : (zpH4 s.heap l1 l2).objs.size = s.heap.objs.size + 4 := by rw [Heap.size_push, z3]
  have z5 : (zpH5 s.heap l1 l2).objs.size = s.heap.objs.size + 5 := by rw [Heap.size_push, z4]
  have g5 : (zpH5 s.heap l1 l2).get? (zpH4 s.heap l1 l2).objs.size = some _ := Heap.get?_push_size _ rfl
  have g4 : (zpH5 s.heap l1 l2).get? (zpH3 s.heap l1 l2).objs.size = some _ := Heap.get?_push_of_some _ (Heap.get?_push_size _ rfl)
  have g3 : (zpH5 s.heap l1 l2).get? (zpH2 s.heap l1 l2).objs.size = some _ := Heap.get?_push_of_some _ (Heap.get?_push_of_some _ (Heap.get?_push_size _ rfl))
  have g2 : (zpH5 s.heap l1 l2).get? (zpH1 s.heap l1).objs.size = some _ := Heap.get?_push_of_some _ (Heap.get?_push_of_some _ (Heap.get?_push_of_some _ (Heap.get?_push_size _ rfl)))
  have g1 : (zpH5 s.heap l1 l2).get? s.heap.objs.size = some _ := Heap.get?_push_of_some _ (Heap.get?_push_of_some _ (Heap.get?_push_of_some _ (Heap.get?_push_of_some _ (Heap.get?_push_size _ rfl))))
  show _ ∧ _
  rw [z2, z3, z4] at g5
  rw [z1, z2] at g3
  rw [z3] at g4
  rw [z1] at g2
  rw [z4]
  exact ⟨⟨_, g5, rfl⟩, h _ g5 g3 g4 ⟨_, g1, rfl, rfl⟩ ⟨_, g2, rfl, rfl⟩ z5 fun c o x =>
    Heap.get?_push_of_some _ (Heap.get?_push_of_some _ (Heap.get?_push_of_some _ (Heap.get?_push_of_some _ (Heap.get?_push_of_some _ x))))⟩
end
end ZT
end PySem
set_option Elab.async false
set_option linter.all false
set_option maxRecDepth 100000
set_option maxHeartbeats 4000000
namespace L2
open PySem PySem.Spec PyProof.Rows
section
variable {prog : Program} {w : World} {A : Around} {E : Value → Shared → Prop} {s : Shared}
theorem heldT_item {z TI TO i1 i2 l1 l2 T : Addr} {f1 : Bool} {oT : Obj} {k1 k2 : Nat} {xs ys : Array Value} {x y : Value} {Q : Value → Shared → Prop} (D : ZipApart z TI TO i1 i2 l1 l2)
    (hz : IsZipH s.heap z TI TO T f1) (hT : s.heap.get? T = some oT) (hTI : IsPair s.heap TI (.ref i1) (.ref i2))
    (h1 : s.heap.IsTupleIter i1 l1 k1) (h2 : s.heap.IsTupleIter i2 l2 k2) (hl1 : s.heap.IsTuple l1 xs) (hl2 : s.heap.IsTuple l2 ys) (hx : xs[k1]? = some x) (hy : ys[k2]? = some y)
    (hQ : ∀ h', IsZipH h' z TI TO T true → h'.IsTupleIter i1 l1 (k1 + 1) → h'.IsTupleIter i2 l2 (k2 + 1) → IsPair h' s.heap.objs.size x y → h'.objs.size = s.heap.objs.size + 1 →
      (∀ c o, c ≠ z → c ≠ i1 → c ≠ i2 → s.heap.get? c = some o → h'.get? c = some o) → Q (.ref s.heap.objs.size) { s with heap := h' }) :
    wpAny (model prog w) A (Builtin.«zip.__next__» ⟨[.ref z], []⟩) (fun fin s' => ∃ v, fin = .done (.ret v) ∧ Q v s') E s := by
  show wpAny _ _ (field (.ref z) 2 >>= _) _ _ _
  refine wpAny_bind (wpAny_field hz rfl (x := .bool false) rfl ?_)
  show wpAny _ _ (field (.ref z) 3 >>= _) _ _ _
  refine wpAny_bind (wpAny_field hz rfl (x := .ref TI) rfl ?_)
  refine wpAny_bind (wpAny_seqItems hTI rfl ?_)
  show wpAny _ _ (Builtin.SmallTypes.ownedTupleIsFree (.ref z) >>= _) _ _ _
  refine wpAny_bind (held_free hz hT fun h₁ hz₁ hs₁ => ?_)
  simp only [Bool.false_eq_true, if_false]
  refine wpAny_bind ?_
  rw [← Array.forIn_toList]
  simp only [List.forIn_cons, List.forIn_nil]
  refine wpAny_bind (wpAny_bind (wpAny_holding ?_))
  show wpAny _ _ (Builtin.SmallTypes.nextOf (.ref i1) >>= _) _ _ _
  refine wpAny_bind (ZT.nxT_item (h1.extBut hs₁.extBut D.i1z) (hl1.extBut hs₁.extBut D.l1z) hx fun h₂ h1₂ hs₂ => wpAny_pure ?_)
  refine wpAny_pure ?_
  refine wpAny_bind (wpAny_bind (wpAny_holding ?_))
  show wpAny _ _ (Builtin.SmallTypes.nextOf (.ref i2) >>= _) _ _ _
  refine wpAny_bind (ZT.nxT_item ((h2.extBut hs₁.extBut D.i2z).extBut hs₂.extBut D.i12.symm)
    ((hl2.extBut hs₁.extBut D.l2z).extBut hs₂.extBut D.l2i1) hy fun h₄ h2₄ hs₄ => wpAny_pure ?_)
  refine wpAny_pure (wpAny_pure ?_)
  refine wpAny_bind (wpAny_newTuple (wpAny_pure ⟨_, rfl, ?_⟩) (by show 2 ≤ sizeLine; decide))
  have hsz : h₄.objs.size = s.heap.objs.size := by rw [hs₄.1, hs₂.1, hs₁.1]
  have up : ∀ c o, h₄.get? c = some o → (h₄.push { cls := .type "tuple", data := .seq #[x, y] }).get? c = some o := fun c o e => Heap.get?_push_of_some _ e
  have hz₄ : IsZipH h₄ z TI TO T true := hs₄.extBut _ _ D.i2z.symm (hs₂.extBut _ _ D.i1z.symm hz₁)
  have hT4 : IsPair (h₄.push { cls := .type "tuple", data := .seq #[x, y] }) h₄.objs.size x y := Heap.get?_push_size _ rfl
  show Q (.ref h₄.objs.size) _
  rw [hsz] at hT4
  rw [hsz]
  refine hQ _ (up _ _ hz₄) ((h1₂.extBut hs₄.extBut D.i12).at fun o e => up _ o e) (h2₄.at fun o e => up _ o e) hT4 (by rw [Heap.size_push, hsz]) fun c o c1 c3 c4 e => up c o (hs₄.extBut _ _ c4 (hs₂.extBut _ _ c3 (hs₁.extBut _ _ c1 e)))
theorem heldT_end {z TI TO i1 i2 l1 l2 T : Addr} {f1 : Bool} {oT : Obj} {k1 k2 : Nat} {xs ys : Array Value} {Q : Fin → Shared → Prop} (hh : A.handled = none) (D : ZipApart z TI TO i1 i2 l1 l2)
    (hz : IsZipH s.heap z TI TO T f1) (hT : s.heap.get? T = some oT) (hTI : IsPair s.heap TI (.ref i1) (.ref i2))
    (h1 : s.heap.IsTupleIter i1 l1 k1) (h2 : s.heap.IsTupleIter i2 l2 k2) (hl1 : s.heap.IsTuple l1 xs) (hl2 : s.heap.IsTuple l2 ys) (hend : xs[k1]? = none)
    (hE : ∀ h' e, (∀ c o, c ≠ z → c ≠ i1 → c ≠ i2 → s.heap.get? c = some o → h'.get? c = some o) → (∃ o, h'.get? e = some o ∧ o.cls = .type "StopIteration") → E (.ref e) { s with heap := h' }) :
    wpAny (model prog w) A (Builtin.«zip.__next__» ⟨[.ref z], []⟩) Q E s := by
  show wpAny _ _ (field (.ref z) 2 >>= _) _ _ _
  refine wpAny_bind (wpAny_field hz rfl (x := .bool false) rfl ?_)
  show wpAny _ _ (field (.ref z) 3 >>= _) _ _ _
  refine wpAny_bind (wpAny_field hz rfl (x := .ref TI) rfl ?_)
  refine wpAny_bind (wpAny_seqItems hTI rfl ?_)
  show wpAny _ _ (Builtin.SmallTypes.ownedTupleIsFree (.ref z) >>= _) _ _ _
  refine wpAny_bind (held_free hz hT fun h₁ hz₁ hs₁ => ?_)
  simp only [Bool.false_eq_true, if_false]
  refine wpAny_bind ?_
  rw [← Array.forIn_toList]
  simp only [List.forIn_cons, List.forIn_nil]
  refine wpAny_bind (wpAny_bind (wpAny_holding ?_))
  show wpAny _ _ (Builtin.SmallTypes.nextOf (.ref i1) >>= _) _ _ _
  refine wpAny_bind (ZT.nxT_end hh (h1.extBut hs₁.extBut D.i1z) (hl1.extBut hs₁.extBut D.l1z) hend fun h₂ e hs₂ he => ?_)
  exact hE h₂ e (fun c o c1 c3 _ x => hs₂ _ _ c3 (hs₁.extBut _ _ c1 x)) he
theorem nextT_held {z TI TO i1 i2 l1 l2 T : Addr} {f1 : Bool} {oT : Obj} {k1 k2 : Nat} {xs ys : Array Value} {x y : Value} {Q : Option Value → Shared → Prop} (D : ZipApart z TI TO i1 i2 l1 l2)
    (hz : IsZipH s.heap z TI TO T f1) (hT : s.heap.get? T = some oT) (hTI : IsPair s.heap TI (.ref i1) (.ref i2))
    (h1 : s.heap.IsTupleIter i1 l1 k1) (h2 : s.heap.IsTupleIter i2 l2 k2) (hl1 : s.heap.IsTuple l1 xs) (hl2 : s.heap.IsTuple l2 ys) (hx : xs[k1]? = some x) (hy : ys[k2]? = some y)
    (hQ : ∀ h', IsZipH h' z TI TO T true → h'.IsTupleIter i1 l1 (k1 + 1) → h'.IsTupleIter i2 l2 (k2 + 1) → IsPair h' s.heap.objs.size x y → h'.objs.size = s.heap.objs.size + 1 →
      (∀ c o, c ≠ z → c ≠ i1 → c ≠ i2 → s.heap.get? c = some o → h'.get? c = some o) → Q (some (.ref s.heap.objs.size)) { s with heap := h' }) :
    wpAny (model prog w) A (pyNext (.ref z)) Q E s := by
  have hTy : s.TypeIs (.ref z) "zip" := ⟨_, hz, rfl⟩
  unfold pyNext
  exact wpAny_bind (wpAny_attempt (wpAny_callSpecial?_slot (name := Str.ofString "__next__") hTy F.slot_zip_next
    (wpAny_call_entry F.slot_zip_next hTy F.entry_zip_next
      (heldT_item D hz hT hTI h1 h2 hl1 hl2 hx hy fun h' a1 a3 a4 a5 a6 a7 => wpAny_pure (hQ h' a1 a3 a4 a5 a6 a7)) (F.args_zip_next_1 _))))
theorem nextT_held_end {z TI TO i1 i2 l1 l2 T : Addr} {f1 : Bool} {oT : Obj} {k1 k2 : Nat} {xs ys : Array Value} {Q : Option Value → Shared → Prop} (hh : A.handled = none) (D : ZipApart z TI TO i1 i2 l1 l2)
    (hz : IsZipH s.heap z TI TO T f1) (hT : s.heap.get? T = some oT) (hTI : IsPair s.heap TI (.ref i1) (.ref i2))
    (h1 : s.heap.IsTupleIter i1 l1 k1) (h2 : s.heap.IsTupleIter i2 l2 k2) (hl1 : s.heap.IsTuple l1 xs) (hl2 : s.heap.IsTuple l2 ys) (hend : xs[k1]? = none)
    (hQ : ∀ h', (∀ c o, c ≠ z → c ≠ i1 → c ≠ i2 → s.heap.get? c = some o → h'.get? c = some o) → Q none { s with heap := h' }) : wpAny (model prog w) A (pyNext (.ref z)) Q E s := by
  have hTy : s.TypeIs (.ref z) "zip" := ⟨_, hz, rfl⟩
  unfold pyNext
  refine wpAny_bind (wpAny_attempt (wpAny_callSpecial?_slot (name := Str.ofString "__next__") hTy F.slot_zip_next
    (wpAny_call_entry F.slot_zip_next hTy F.entry_zip_next (heldT_end hh D hz hT hTI h1 h2 hl1 hl2 hend fun h' e hk he => ?_) (F.args_zip_next_1 _))))
  obtain ⟨o, ho, hc⟩ := he
  refine wpAny_bind (wpAny_isInstance (T := "StopIteration") (b := true) ⟨o, ho, hc⟩ isSubtype_stop ?_)
  exact wpAny_pure (hQ _ hk)
/-- where a zip stands behind k turns, its pairs held -/
def ZStT (h : Heap) (z TI TO i1 i2 l1 l2 : Addr) (k : Nat) : Prop := ((k = 0 ∧ IsZip h z TI TO .none) ∨ ∃ T f1 oT, IsZipH h z TI TO T f1 ∧ h.get? T = some oT ∧ T ≠ z ∧ T ≠ TI ∧ T ≠ TO ∧ T ≠ i1 ∧ T ≠ i2) ∧ IsPair h TI (.ref i1) (.ref i2) ∧ (∃ a b, IsPair h TO a b) ∧ h.IsTupleIter i1 l1 k ∧ h.IsTupleIter i2 l2 k
theorem ZStT.keep {h h' : Heap} {z TI TO i1 i2 l1 l2 : Addr} {k : Nat} {S : Addr} (x : ZStT h z TI TO i1 i2 l1 l2 k) (hS : S ≠ z ∧ S ≠ TI ∧ S ≠ TO ∧ S ≠ i1 ∧ S ≠ i2) (hk : ∀ b o, b ≠ S → h.get? b = some o → h'.get? b = some o) (hST : ∀ o, h.get? S = some o → ∃ o', h'.get? S = some o') : ZStT h' z TI TO i1 i2 l1 l2 k := by
  obtain ⟨h1, h2, ⟨a, b, h3⟩, h4, h5⟩ := x
  refine ⟨?_, hk _ _ hS.2.1.symm h2, ⟨a, b, hk _ _ hS.2.2.1.symm h3⟩, h4.at fun o e => hk _ o hS.2.2.2.1.symm e, h5.at fun o e => hk _ o hS.2.2.2.2.symm e⟩
  rcases h1 with ⟨e, h1⟩ | ⟨T, f1, oT, h1, hT, n⟩
  · exact .inl ⟨e, hk _ _ hS.1.symm h1⟩
  · by_cases c : T = S
    · subst c
      obtain ⟨o', e'⟩ := hST _ hT
      exact .inr ⟨_, f1, o', hk _ _ hS.1.symm h1, e', n⟩
    · exact .inr ⟨T, f1, oT, hk _ _ hS.1.symm h1, hk _ _ c hT, n⟩
theorem ext_zipT {z TI TO i1 i2 l1 l2 S : Addr} {xs ys : Array Value} {res : Value} {R : Result → Shared → Prop} {N0 : Nat} (hh : A.handled = none) (D : ZipApart z TI TO i1 i2 l1 l2) (hS : S ≠ z ∧ S ≠ TI ∧ S ≠ TO ∧ S ≠ i1 ∧ S ≠ i2) (hl : S ≠ l1 ∧ S ≠ l2) (hN : z < N0 ∧ TI < N0 ∧ TO < N0 ∧ i1 < N0 ∧ i2 < N0 ∧ S < N0) (hn : xs.size ≤ 1000) (hxy : xs.size = ys.size) :
    ∀ (m k : Nat) (s : Shared) (acc : Array Value) (c : Nat), xs.size - k = m → k ≤ xs.size → N0 ≤ s.heap.objs.size → ZStT s.heap z TI TO i1 i2 l1 l2 k → s.heap.IsTuple l1 xs → s.heap.IsTuple l2 ys → s.heap.get? S = some { cls := .type "list", dict := none, data := .seq acc c, slots := #[] } → PairsAt s.heap xs.toList ys.toList k acc.toList →
      (∀ (j : Nat) (v : Value), acc[j]? = some v → ∃ t, v = .ref t ∧ N0 ≤ t) →
      (∀ h' acc' c', (∀ b o, b < N0 → b ≠ z → b ≠ TO → b ≠ i1 → b ≠ i2 → b ≠ S → s.heap.get? b = some o → h'.get? b = some o) → h'.get? S = some { cls := .type "list", dict := none, data := .seq acc' c', slots := #[] } → PairsAt h' xs.toList ys.toList xs.size acc'.toList → (∀ (j : Nat) (v : Value), acc'[j]? = some v → ∃ t, v = .ref t ∧ N0 ≤ t) → R (.ok (.ret res)) { s with heap := h' }) →
      codeAny (model prog w) A (.builtin "list.extend.loop" ⟨[.ref S, .ref z, res], []⟩) R s := by
  intro m
  induction m with
  | zero =>
    intro k s acc c hm hk hN0 zs L1 L2 gS pa pt hR
    have ek : k = xs.size := by omega
    subst ek
    refine codeAny_builtin F.entry_extend_loop ?_
    rw [Around.under_plainId F.plain_extend_loop _]
    show wpAny _ A.in1 (pyNext (.ref z) >>= _) _ _ s
    obtain ⟨h1, h2, ⟨a, b, h3⟩, h4, h5⟩ := zs
    have en : xs[xs.size]? = none := Array.getElem?_eq_none (Nat.le_refl _)
    have fin : ∀ h', (∀ c o, c ≠ z → c ≠ TO → c ≠ i1 → c ≠ i2 → s.heap.get? c = some o → h'.get? c = some o) → wpAny (model prog w) A.in1 (ret res) (fun fin s' => match fin with | .done f => R (.ok f) s' | .again c' => c'.quiet = true ∧ codeAny (model prog w) A c' R s') (fun e s' => R (.error e) s') { s with heap := h' } := fun h' hk' => by
      refine wpAny_pure (hR h' acc c (fun b o _ b1 b2 b3 b4 _ e => hk' b o b1 b2 b3 b4 e) (hk' S _ hS.1 hS.2.2.1 hS.2.2.2.1 hS.2.2.2.2 gS) ⟨pa.1, fun j v hv => ?_⟩ pt)
      obtain ⟨t, x, y, e1, e2, e3, e4⟩ := pa.2 j v hv
      obtain ⟨t', e5, e6⟩ := pt j v (by rw [← Array.getElem?_toList]; exact hv)
      rw [e1] at e5
      cases e5
      exact ⟨t, x, y, e1, e2, e3, hk' t _ (ne_big hN.1 e6) (ne_big hN.2.2.1 e6) (ne_big hN.2.2.2.1 e6) (ne_big hN.2.2.2.2.1 e6) e4⟩
    rcases h1 with ⟨e0, hz⟩ | ⟨T, f1, oT, hz, hT, n1, n2, n3, n4, n5⟩
    · refine wpAny_bind (ZT.pyT_end hh D hz h2 h3 h4 h5 L1 L2 (.inl en) fun h' hk' => fin h' hk')
    · refine wpAny_bind (nextT_held_end hh D hz hT h2 h4 h5 L1 L2 en fun h' hk' => fin h' fun c o c1 _ c3 c4 e => hk' c o c1 c3 c4 e)
  | succ m ih =>
    intro k s acc c hm hk hN0 zs L1 L2 gS pa pt hR
    have hlt : k < xs.size := by omega
    have hx : xs[k]? = some xs[k] := Array.getElem?_eq_getElem hlt
    have hlt2 : k < ys.size := by omega
    have hy : ys[k]? = some ys[k] := Array.getElem?_eq_getElem hlt2
    refine codeAny_builtin F.entry_extend_loop ?_
    rw [Around.under_plainId F.plain_extend_loop _]
    show wpAny _ A.in1 (pyNext (.ref z) >>= _) _ _ s
    obtain ⟨h1, h2, ⟨a, b, h3⟩, h4, h5⟩ := zs
    have go : ∀ h', (∃ T f1 oT, IsZipH h' z TI TO T f1 ∧ h'.get? T = some oT ∧ T ≠ z ∧ T ≠ TI ∧ T ≠ TO ∧ T ≠ i1 ∧ T ≠ i2) → (∃ a b, IsPair h' TO a b) → h'.IsTupleIter i1 l1 (k + 1) → h'.IsTupleIter i2 l2 (k + 1) → IsPair h' s.heap.objs.size xs[k] ys[k] → h'.objs.size = s.heap.objs.size + 1 → (∀ c o, c ≠ z → c ≠ TO → c ≠ i1 → c ≠ i2 → s.heap.get? c = some o → h'.get? c = some o) →
        wpAny (model prog w) A.in1 (Builtin.List.listUpdate (.ref S) (·.push (.ref s.heap.objs.size)) >>= fun _ => again (.builtin "list.extend.loop" ⟨[.ref S, .ref z, res], []⟩)) (fun fin s' => match fin with | .done f => R (.ok f) s' | .again c' => c'.quiet = true ∧ codeAny (model prog w) A c' R s') (fun e s' => R (.error e) s') { s with heap := h' } := by
      intro h' hzz hto hi1 hi2 hpr hsz hk'
      have gS' := hk' S _ hS.1 hS.2.2.1 hS.2.2.2.1 hS.2.2.2.2 gS
      have accsz : acc.size = k := by have := pa.1; rw [Array.length_toList] at this; exact this
      show wpAny _ A.in1 (updateSeq S (·.push (.ref s.heap.objs.size)) >>= _) _ _ _
      refine wpAny_bind ?_
      have big : (1001 : Nat) ≤ sizeLine := by rw [sizeLine_eq]; decide
      refine wpAny_updateSeq (s := { s with heap := h' }) gS' rfl (wpAny_pure ⟨plainId_quiet F.plain_extend_loop _, ?_⟩) (by rw [accsz]; omega) (by show (acc.push (.ref s.heap.objs.size)).size ≤ sizeLine + 1; rw [Array.size_push, accsz]; omega)
      have up : ∀ b o, b ≠ S → h'.get? b = some o → (h'.update S (Obj.mapSeq (·.push (.ref s.heap.objs.size)))).get? b = some o := fun b o hb e => (Heap.get?_update_other _ _ (Ne.symm hb)).trans e
      have gS2 := Heap.get?_update_self (Obj.mapSeq (·.push (Value.ref s.heap.objs.size))) gS' rfl
      have szS : s.heap.objs.size ≠ S := ne_big hN.2.2.2.2.2 hN0
      have old : ∀ b o, b < N0 → b ≠ z → b ≠ TO → b ≠ i1 → b ≠ i2 → b ≠ S → s.heap.get? b = some o → (h'.update S (Obj.mapSeq (·.push (.ref s.heap.objs.size)))).get? b = some o := fun b o _ b1 b2 b3 b4 b5 e => up b o b5 (hk' b o b1 b2 b3 b4 e)
      have zs0 : ZStT h' z TI TO i1 i2 l1 l2 (k + 1) := ⟨.inr hzz, hk' TI _ D.TIz D.TITO D.TIi1 D.TIi2 h2, hto, hi1, hi2⟩
      obtain ⟨o1, g1, c1, n1, d1⟩ := id L1
      obtain ⟨o2, g2, c2, n2, d2⟩ := id L2
      refine ih (k + 1) { s with heap := h'.update S (Obj.mapSeq (·.push (.ref s.heap.objs.size))) } (acc.push (.ref s.heap.objs.size)) _ (by omega) hlt (by rw [Heap.size_update, hsz]; omega) (zs0.keep hS up fun o _ => ⟨_, gS2⟩) ?_ ?_ gS2 ⟨?_, fun j v hv => ?_⟩ (fun j v hv => ?_) (fun h2 acc' c' k2 g' p' t' => ?_)
      · exact ⟨o1, up _ _ hl.1.symm (hk' _ _ D.l1z D.l1TO D.l1i1 D.l1i2 g1), c1, n1, d1⟩
      · exact ⟨o2, up _ _ hl.2.symm (hk' _ _ D.l2z D.l2TO D.l2i1 D.l2i2 g2), c2, n2, d2⟩
      · rw [Array.length_toList, Array.size_push, accsz]
      · rw [Array.getElem?_toList] at hv
        by_cases cj : j < acc.size
        · rw [Array.getElem?_push_lt cj] at hv
          obtain ⟨t, x, y, e1, e2, e3, e4⟩ := pa.2 j v (by rw [Array.getElem?_toList, Array.getElem?_eq_getElem cj]; exact hv)
          obtain ⟨t', e5, e6⟩ := pt j v (by rw [Array.getElem?_eq_getElem cj]; exact hv)
          rw [e1] at e5
          cases e5
          exact ⟨t, x, y, e1, e2, e3, up _ _ (ne_big hN.2.2.2.2.2 e6) (hk' t _ (ne_big hN.1 e6) (ne_big hN.2.2.1 e6) (ne_big hN.2.2.2.1 e6) (ne_big hN.2.2.2.2.1 e6) e4)⟩
        · have ej : j = acc.size := by
            have := (Array.getElem?_eq_some_iff.mp hv).1
            rw [Array.size_push] at this
            omega
          rw [ej, Array.getElem?_push_size] at hv
          have hv : Value.ref s.heap.objs.size = v := Option.some.inj hv
          refine ⟨_, xs[k], ys[k], hv.symm, ?_, ?_, up _ _ szS hpr⟩
          · rw [ej, accsz, Array.getElem?_toList]; exact hx
          · rw [ej, accsz, Array.getElem?_toList]; exact hy
      · by_cases cj : j < acc.size
        · rw [Array.getElem?_push_lt cj] at hv
          exact pt j v (by rw [Array.getElem?_eq_getElem cj]; exact hv)
        · have ej : j = acc.size := by
            have := (Array.getElem?_eq_some_iff.mp hv).1
            rw [Array.size_push] at this
            omega
          rw [ej, Array.getElem?_push_size] at hv
          exact ⟨_, (Option.some.inj hv).symm, hN0⟩
      · exact hR h2 acc' c' (fun b o b0 b1 b2 b3 b4 b5 e => k2 b o b0 b1 b2 b3 b4 b5 (old b o b0 b1 b2 b3 b4 b5 e)) g' p' t'
    rcases h1 with ⟨e0, hz⟩ | ⟨T, f1, oT, hz, hT, n1, n2, n3, n4, n5⟩
    · refine wpAny_bind (ZT.pyT_item D hz h2 h3 h4 h5 L1 L2 hx hy fun h' z' TO' a1 a2 a3 a4 a5 => ?_)
      exact go h' ⟨_, false, _, z', a3, ne_big hN.1 hN0, ne_big hN.2.1 hN0, ne_big hN.2.2.1 hN0, ne_big hN.2.2.2.1 hN0, ne_big hN.2.2.2.2.1 hN0⟩ ⟨_, _, TO'⟩ a1 a2 a3 a4 a5
    · refine wpAny_bind (nextT_held D hz hT h2 h4 h5 L1 L2 hx hy fun h' z' a1 a2 a3 a4 a5 => ?_)
      exact go h' ⟨T, true, oT, z', a5 T _ n1 n4 n5 hT, n1, n2, n3, n4, n5⟩ ⟨a, b, a5 TO _ D.TOz D.TOi1 D.TOi2 h3⟩ a1 a2 a3 a4 fun c o c1 _ c3 c4 e => a5 c o c1 c3 c4 e
end
end L2
set_option Elab.async false
set_option linter.all false
set_option maxRecDepth 100000
set_option maxHeartbeats 4000000
namespace L2
open PySem PySem.Spec PyProof.Rows
section
variable {prog : Program} {w : World} {A : Around} {E : Value → Shared → Prop} {s : Shared}
/-- what is needed of a zip just made -/
structure ZNewT (h : Heap) (z TI TO i1 i2 l1 l2 : Addr) : Prop where
  D : ZipApart z TI TO i1 i2 l1 l2
  hz : IsZip h z TI TO .none
  hTI : IsPair h TI (.ref i1) (.ref i2)
  hTO : IsPair h TO .none .none
  h1 : h.IsTupleIter i1 l1 0
  h2 : h.IsTupleIter i2 l2 0
theorem extend_zipT {R : Result → Shared → Prop} {z TI TO i1 i2 l1 l2 S : Addr} {xs ys : Array Value} {res : Value} {c₀ : Nat} (hh : A.handled = none) (Z : ZNewT s.heap z TI TO i1 i2 l1 l2) (L1 : s.heap.IsTuple l1 xs) (L2 : s.heap.IsTuple l2 ys) (hn : xs.size ≤ 1000) (hxy : xs.size = ys.size)
    (hS : s.heap.get? S = some { cls := .type "list", data := .seq #[] c₀ }) (hs : S ≠ z ∧ S ≠ TI ∧ S ≠ TO ∧ S ≠ i1 ∧ S ≠ i2) (hl : S ≠ l1 ∧ S ≠ l2)
    (hR : ∀ h' acc' c', (∀ b o, b < s.heap.objs.size → b ≠ z → b ≠ TO → b ≠ i1 → b ≠ i2 → b ≠ S → s.heap.get? b = some o → h'.get? b = some o) → h'.get? S = some { cls := .type "list", dict := none, data := .seq acc' c', slots := #[] } → PairsAt h' xs.toList ys.toList xs.size acc'.toList → (∀ (j : Nat) (v : Value), acc'[j]? = some v → ∃ t, v = .ref t ∧ s.heap.objs.size ≤ t) → R (.ok (.ret res)) { s with heap := h' }) :
    wpAny (model prog w) A.in1 (Builtin.List.listExtendWith (.ref S) (.ref z) res)
      (fun fin s' => match fin with | .done f => R (.ok f) s' | .again c' => c'.quiet = true ∧ codeAny (model prog w) A c' R s') (fun e s' => R (.error e) s') s := by
  have lz : z < s.heap.objs.size := Heap.lt_size Z.hz
  have lTI : TI < s.heap.objs.size := Heap.lt_size Z.hTI
  have lTO : TO < s.heap.objs.size := Heap.lt_size Z.hTO
  have li1 : i1 < s.heap.objs.size := by obtain ⟨_, e, _⟩ := Z.h1; exact Heap.lt_size e
  have li2 : i2 < s.heap.objs.size := by obtain ⟨_, e, _⟩ := Z.h2; exact Heap.lt_size e
  have lS : S < s.heap.objs.size := Heap.lt_size hS
  have hT1 : s.TypeIs (.ref z) "zip" := ⟨_, Z.hz, rfl⟩
  unfold Builtin.List.listExtendWith
  refine wpAny_bind (wpAny_typeOf hT1 ?_)
  have h1 : Builtin.List.listSameRef (.ref S) (.ref z) = false := by simp [Builtin.List.listSameRef, hs.1]
  have h2 : (Value.type "zip" == Value.type "list") = false := by decide
  have h3 : (Value.type "zip" == Value.type "tuple") = false := by decide
  simp only [h1, h2, h3, Bool.or_false, Bool.false_eq_true, if_false]
  refine wpAny_bind (wpAny_pyIter_zip Z.hz ?_)
  refine wpAny_bind (wpAny_holding ?_)
  unfold Builtin.List.listLengthHint
  refine wpAny_bind (wpAny_specialOf hT1 zip_no_len ?_)
  show wpAny _ A.in1 (specialOf (Value.ref z) (Str.ofString "__length_hint__") >>= _) _ _ _
  refine wpAny_bind (wpAny_specialOf hT1 zip_no_hint ?_)
  refine wpAny_pure ?_
  have key : ∀ (h : Heap) (c₁ : Nat), (∀ b o, b ≠ S → s.heap.get? b = some o → h.get? b = some o) → s.heap.objs.size ≤ h.objs.size → h.get? S = some { cls := .type "list", dict := none, data := .seq #[] c₁, slots := #[] } → codeAny (model prog w) A (.builtin "list.extend.loop" ⟨[.ref S, .ref z, res], []⟩) R { s with heap := h } := by
    intro h c₁ hk hsz hS₁
    refine ext_zipT (N0 := s.heap.objs.size) (S := S) hh Z.D hs hl ⟨lz, lTI, lTO, li1, li2, lS⟩ hn hxy (xs.size - 0) 0 _ #[] _ rfl (Nat.zero_le _) hsz ?_ ?_ ?_ hS₁ ⟨rfl, fun j v hv => by simp at hv⟩ (fun j v hv => by simp at hv) (fun h' acc' c' hk' hS' pa pt => ?_)
    · exact ⟨.inl ⟨rfl, hk _ _ hs.1.symm Z.hz⟩, hk _ _ hs.2.1.symm Z.hTI, ⟨_, _, hk _ _ hs.2.2.1.symm Z.hTO⟩, Z.h1.at fun o e => hk _ o hs.2.2.2.1.symm e, Z.h2.at fun o e => hk _ o hs.2.2.2.2.symm e⟩
    · exact L1.at fun o e => hk _ o hl.1.symm e
    · exact L2.at fun o e => hk _ o hl.2.symm e
    · exact hR h' acc' c' (fun b o hb b1 b2 b3 b4 b5 e => hk' b o hb b1 b2 b3 b4 b5 (hk b o b5 e)) hS' pa pt
  refine wpAny_ite_split (fun _ => ?_) (fun _ => wpAny_pure ⟨plainId_quiet F.plain_extend_loop _, key _ c₀ (fun b o _ e => e) (Nat.le_refl _) hS⟩)
  refine wpAny_bind (wpAny_rule ?_)
  refine wpAny_bind ?_
  show wpAny _ A.in1 (updateSeq S (·.push .none) >>= fun _ => updateSeq S (·.pop)) _ _ _
  refine wpAny_bind (wpAny_updateSeq hS rfl ?_)
  have hS₂ := Heap.get?_update_self (Obj.mapSeq (·.push Value.none)) hS rfl
  refine wpAny_updateSeq (hz := by seq_fits) hS₂ rfl ?_
  have hS₃ := Heap.get?_update_self (Obj.mapSeq (·.pop)) hS₂ rfl
  refine wpAny_pure ⟨plainId_quiet F.plain_extend_loop _, key _ _ (fun b o hb e => ?_) ?_ hS₃⟩
  · exact (Heap.get?_update_other _ _ (Ne.symm hb)).trans ((Heap.get?_update_other _ _ (Ne.symm hb)).trans e)
  · rw [Heap.size_update, Heap.size_update]
    exact Nat.le_refl _
theorem call_list_zipT {z TI TO i1 i2 l1 l2 : Addr} {xs ys : Array Value} {Q : Value → Shared → Prop} (hh : A.handled = none) (Z : ZNewT s.heap z TI TO i1 i2 l1 l2) (L1 : s.heap.IsTuple l1 xs) (L2 : s.heap.IsTuple l2 ys) (hn : xs.size ≤ 1000) (hxy : xs.size = ys.size)
    (hQ : ∀ h' acc' c', (∀ b o, b < s.heap.objs.size → b ≠ z → b ≠ TO → b ≠ i1 → b ≠ i2 → s.heap.get? b = some o → h'.get? b = some o) → h'.get? s.heap.objs.size = some { cls := .type "list", dict := none, data := .seq acc' c', slots := #[] } → PairsAt h' xs.toList ys.toList xs.size acc'.toList → (∀ (j : Nat) (v : Value), acc'[j]? = some v → ∃ t, v = .ref t ∧ s.heap.objs.size < t) → Q (.ref s.heap.objs.size) { s with heap := h' }) :
    wpAny (model prog w) A (call (.type "list") [.ref z]) Q E s := by
  refine callType_codes (Q₁ := fun obj s₁ => obj = .ref s.heap.objs.size ∧ s₁ = { s with heap := s.heap.push { cls := .type "list", data := .seq #[] } }) F.called_list (F.typeCall_list_1 _) F.entry_list_init
    (code_list_new _ ⟨rfl, rfl⟩) fun obj s₁ h₁ => ?_
  obtain ⟨rfl, rfl⟩ := h₁
  have hS : (s.heap.push { cls := .type "list", data := .seq #[] }).get? s.heap.objs.size = some { cls := .type "list", data := .seq #[] } := Heap.get?_push_size _ rfl
  have up : ∀ b o, s.heap.get? b = some o → (s.heap.push { cls := .type "list", data := .seq #[] }).get? b = some o := fun b o e => Heap.get?_push_of_some _ e
  refine ⟨⟨_, hS, rfl⟩, F.args_list_init_2 _ _, ?_⟩
  show wpAny _ _ (do let old ← Builtin.List.listItems (.ref s.heap.objs.size); Builtin.List.listUpdate (.ref s.heap.objs.size) (fun _ => #[]); letGo old.toList.reverse; Builtin.List.listExtendWith (.ref s.heap.objs.size) (.ref z) .none) _ _ _
  refine wpAny_bind ?_
  unfold Builtin.List.listItems
  refine wpAny_bind (wpAny_seqItems hS rfl (wpAny_pure ?_))
  show wpAny _ _ (updateSeq s.heap.objs.size (fun _ => #[]) >>= fun _ => letGo (#[] : Array Value).toList.reverse >>= fun _ => Builtin.List.listExtendWith (.ref s.heap.objs.size) (.ref z) .none) _ _ _
  refine wpAny_bind (wpAny_updateSeq hS rfl ?_)
  have hS₂ := Heap.get?_update_self (Obj.mapSeq (fun _ => (#[] : Array Value))) hS rfl
  have lz : z < s.heap.objs.size := Heap.lt_size Z.hz
  have lTI : TI < s.heap.objs.size := Heap.lt_size Z.hTI
  have lTO : TO < s.heap.objs.size := Heap.lt_size Z.hTO
  have li1 : i1 < s.heap.objs.size := by obtain ⟨_, e, _⟩ := Z.h1; exact Heap.lt_size e
  have li2 : i2 < s.heap.objs.size := by obtain ⟨_, e, _⟩ := Z.h2; exact Heap.lt_size e
  have ll1 : l1 < s.heap.objs.size := by obtain ⟨_, e, _⟩ := L1; exact Heap.lt_size e
  have ll2 : l2 < s.heap.objs.size := by obtain ⟨_, e, _⟩ := L2; exact Heap.lt_size e
  have oth : ∀ b o, b < s.heap.objs.size → s.heap.get? b = some o → ((s.heap.push { cls := .type "list", data := .seq #[] }).update s.heap.objs.size (Obj.mapSeq (fun _ => (#[] : Array Value)))).get? b = some o :=
    fun b o hb e => (Heap.get?_update_other _ _ (Nat.ne_of_gt hb)).trans (up b o e)
  refine wpAny_bind (wpAny_letGo ?_)
  have hsz : ((s.heap.push { cls := .type "list", data := .seq #[] }).update s.heap.objs.size (Obj.mapSeq (fun _ => (#[] : Array Value)))).objs.size = s.heap.objs.size + 1 := by rw [Heap.size_update, Heap.size_push]
  refine extend_zipT (A := A.in1) (s := { s with heap := (s.heap.push { cls := .type "list", data := .seq #[] }).update s.heap.objs.size (Obj.mapSeq (fun _ => (#[] : Array Value))) }) hh ⟨Z.D, oth _ _ lz Z.hz, oth _ _ lTI Z.hTI, oth _ _ lTO Z.hTO, Z.h1.at fun o e => oth _ o li1 e, Z.h2.at fun o e => oth _ o li2 e⟩ (L1.at fun o e => oth _ o ll1 e) (L2.at fun o e => oth _ o ll2 e) hn hxy hS₂
    ⟨Nat.ne_of_gt lz, Nat.ne_of_gt lTI, Nat.ne_of_gt lTO, Nat.ne_of_gt li1, Nat.ne_of_gt li2⟩ ⟨Nat.ne_of_gt ll1, Nat.ne_of_gt ll2⟩ fun h' acc' c' hk hS' pa pt => ?_
  refine ⟨rfl, hQ h' acc' c' (fun b o hb b1 b2 b3 b4 e => hk b o ?_ b1 b2 b3 b4 (Nat.ne_of_lt hb) (oth b o hb e)) hS' pa fun j v hv => ?_⟩
  · show b < ((s.heap.push { cls := .type "list", data := .seq #[] }).update s.heap.objs.size (Obj.mapSeq (fun _ => (#[] : Array Value)))).objs.size
    rw [hsz]
    exact Nat.lt_succ_of_lt hb
  · obtain ⟨t, e1, e2⟩ := pt j v hv
    refine ⟨t, e1, ?_⟩
    have e2 : ((s.heap.push { cls := .type "list", data := .seq #[] }).update s.heap.objs.size (Obj.mapSeq (fun _ => (#[] : Array Value)))).objs.size ≤ t := e2
    rw [hsz] at e2
    exact e2
end
end L2
set_option Elab.async false
set_option linter.all false
set_option maxRecDepth 100000
set_option maxHeartbeats 4000000
namespace L2
open PySem PySem.Spec PyProof.Rows
def tListZip (K : PySem.W.Frag) (ta : TA) : TE := fun σ H Q => ta σ H fun vs H1 => ∃ (a b : Addr) (xs ys : List V), vs = [.ref a, .ref b] ∧ SqT K H1 a xs ∧ SqT K H1 b ys ∧ xs.length = ys.length ∧ xs.length ≤ 1000 ∧
  ∀ (c : Addr) (H' : Hp) (ps : List V), Same H1 H' → H' c = some (.lst ps) → Paired (PairV H') (xs.zip ys) ps → Q (.ref c) H'
section
variable {X : Cx}
/-- list(zip(e, e2)), two tuples -/
theorem pe_listZip {e e2 : Expr} {ta : TA} {p p2 pos pos2 : Pos} (hcalm : X.calm = true) (hgT : Gl X "list") (hmT : X.mg "list" = none) (hg : Gl X "zip") (hm : X.mg "zip" = none) (ha : PA X [e, e2] ta)
    (hs : starEach [e, e2] X.env = (false, eval e X.env) :: starEach [e2] X.env := by rfl) (hpl : (backTo pos2 (starEach [e2] X.env)).any (·.1) = false := by rfl)
    (hs1 : starEach [.Call (.Name "zip" p2) [e, e2] [] pos2] X.env = (false, eval (.Call (.Name "zip" p2) [e, e2] [] pos2) X.env) :: starEach [] X.env := by rfl) (hpl1 : (backTo pos (starEach [] X.env)).any (·.1) = false := by rfl) :
    PE X (.Call (.Name "list" p) [.Call (.Name "zip" p2) [e, e2] [] pos2] [] pos) (tListZip X.K ta) := by
  intro pins s σ H Q I h
  refine wpAny_Call_Name_kw (ld_blt I hgT hmT PyProof.Rows.boot_list ?_ (by decide) (by decide))
  refine PyProof.Rows.callWith_type1 ?_ hs1 hpl1
  rw [hs1]
  show wpAny _ _ (spliced ((false, eval (.Call (.Name "zip" p2) [e, e2] [] pos2) X.env) :: backTo pos (starEach [] X.env))) _ _ s
  refine Calls.spliced_cons (wpAny_Call_Name_kw (ld_blt I hg hm boot_zip5 (PyProof.Rows.callWith_type1 (thn (ha pos2 s σ H _ I h) fun us s1 ⟨vs, H1, I1, r1, q1⟩ => ?_) hs hpl) (by decide) (by decide)))
  obtain ⟨a, b, xs, ys, ex, hqx, hqy, hxy, hn, q⟩ := q1
  subst ex
  cases r1 with
  | cons r rr =>
    cases rr with
    | cons r' rr =>
      cases rr
      cases r
      cases r'
      obtain ⟨its, rv, p1, _⟩ := I1.tuple hqx
      obtain ⟨its2, rv2, p2', _⟩ := I1.tuple hqy
      have la : a < s1.heap.objs.size := p1.lt
      have lb : b < s1.heap.objs.size := p2'.lt
      have e1 := rv.length
      have e2 := rv2.length
      refine ZT.clT_zip p1 p2' fun h2 hz hTI hTO h1 h2' hsz hk => ?_
      refine Calls.spliced_nil ?_
      have L1 : h2.IsTuple a its.toArray := by obtain ⟨o, g, c, n, d⟩ := id p1; exact ⟨o, hk _ _ g, c, n, d⟩
      have L2' : h2.IsTuple b its2.toArray := by obtain ⟨o, g, c, n, d⟩ := id p2'; exact ⟨o, hk _ _ g, c, n, d⟩
      refine call_list_zipT (s := { s1 with heap := h2 }) (I1.ok.hd hcalm) ⟨PySem.W.ktu_apart s1.heap.objs.size a b la lb, hz, hTI, hTO, h1, h2'⟩ L1 L2' (by rw [List.size_toArray]; omega) (by rw [List.size_toArray, List.size_toArray]; omega) fun h3 acc c3 k3 hS3 pa pt0 => ?_
      have s2sz : ({ s1 with heap := h2 } : Shared).heap.objs.size = s1.heap.objs.size + 5 := hsz
      have pt : ∀ (j : Nat) (v : Value), acc.toList[j]? = some v → ∃ t, v = .ref t ∧ s1.heap.objs.size + 5 < t := fun j v hv => by
        obtain ⟨t, e1, e2⟩ := pt0 j v (by rw [← Array.getElem?_toList]; exact hv)
        rw [s2sz] at e2
        exact ⟨t, e1, e2⟩
      have hS3 : h3.get? (s1.heap.objs.size + 5) = some { cls := .type "list", dict := none, data := .seq acc c3, slots := #[] } := by rw [← s2sz]; exact hS3
      rw [s2sz]
      have eac : acc = acc.toList.toArray := by simp
      rw [eac] at hS3
      generalize acc.toList = vs at pa pt hS3
      clear pt0 eac
      have pa1 : vs.length = its.length := by have := pa.1; rw [List.size_toArray] at this; exact this
      -- each pair
      have each : ∀ j, j < vs.length → ∃ (t : Addr) (x y : V) (u u2 : Value), vs[j]? = some (.ref t) ∧ xs[j]? = some x ∧ ys[j]? = some y ∧ RelV x u ∧ RelV y u2 ∧ IsPair h3 t u u2 ∧ s1.heap.objs.size + 5 < t := fun j hj => by
        have hv : vs[j]? = some vs[j] := List.getElem?_eq_getElem hj
        obtain ⟨t, u, u2, f1, f2, f3, f4⟩ := pa.2 j _ hv
        obtain ⟨t', f5, f6⟩ := pt j _ hv
        rw [f1] at f5
        cases f5
        have hx : xs[j]? = some xs[j] := List.getElem?_eq_getElem (by omega)
        have hy : ys[j]? = some ys[j] := List.getElem?_eq_getElem (by omega)
        obtain ⟨v1, g1, g2⟩ := rv.get hx
        obtain ⟨v2, g3, g4⟩ := rv2.get hy
        have f2 : its[j]? = some u := by simpa using f2
        have f3 : its2[j]? = some u2 := by simpa using f3
        rw [f2] at g1
        rw [f3] at g3
        cases g1
        cases g3
        refine ⟨t, _, _, u, u2, by rw [hv, f1], hx, hy, g2, g4, f4, ?_⟩
        exact f6
      let ps : List V := vs.map fun u => match u with
        | .ref t => V.ref t
        | _ => V.non
      have vps : Vals ps vs := by
        have all : ∀ (l : List Value), (∀ u ∈ l, ∃ t, u = Value.ref t) → Vals (l.map fun u => match u with | .ref t => V.ref t | _ => V.non) l := by
          intro l
          induction l with
          | nil => intro _; exact .nil
          | cons u l ih =>
            intro hl
            obtain ⟨t, rfl⟩ := hl u List.mem_cons_self
            exact .cons rfl (ih fun v hv => hl v (List.mem_cons_of_mem _ hv))
        exact all vs fun u hu => by
          obtain ⟨j, hj⟩ := List.getElem?_of_mem hu
          obtain ⟨t, e5, _⟩ := pt j u hj
          exact ⟨t, e5⟩
      let G : Hp := fun t => if t = s1.heap.objs.size + 5 then some (.lst ps) else
        @dite _ (∃ (j : Nat) (x y : V), vs[j]? = some (Value.ref t) ∧ xs[j]? = some x ∧ ys[j]? = some y) (Classical.propDecidable _) (fun hj => some (.tup [hj.choose_spec.choose, hj.choose_spec.choose_spec.choose])) (fun _ => none)
      have Gc : G (s1.heap.objs.size + 5) = some (.lst ps) := if_pos rfl
      have Gt : ∀ j, j < vs.length → ∃ (t : Addr) (x y : V), vs[j]? = some (.ref t) ∧ xs[j]? = some x ∧ ys[j]? = some y ∧ G t = some (.tup [x, y]) := fun j hj => by
        obtain ⟨t, x, y, u, u2, f1, f2, f3, f4, f5, f6, f7⟩ := each j hj
        refine ⟨t, x, y, f1, f2, f3, ?_⟩
        have hex : ∃ (j : Nat) (x y : V), vs[j]? = some (Value.ref t) ∧ xs[j]? = some x ∧ ys[j]? = some y := ⟨j, x, y, f1, f2, f3⟩
        have nc : ¬ t = s1.heap.objs.size + 5 := Nat.ne_of_gt f7
        show (if t = s1.heap.objs.size + 5 then _ else _) = _
        rw [if_neg nc, dif_pos hex]
        obtain ⟨c1, c2, c3⟩ := hex.choose_spec.choose_spec.choose_spec
        have lj : hex.choose < vs.length := (List.getElem?_eq_some_iff.mp c1).1
        obtain ⟨t', x', y', v, v2, g1, g2, g3, g4, g5, g6, _⟩ := each _ lj
        rw [c1] at g1
        have ett := Option.some.inj g1
        injection ett with ett
        subst ett
        rw [c2] at g2
        rw [c3] at g3
        have ex := Option.some.inj g2
        have ey := Option.some.inj g3
        have g6 : h3.get? t = some { cls := .type "tuple", data := .seq #[v, v2] } := g6
        have f6 : h3.get? t = some { cls := .type "tuple", data := .seq #[u, u2] } := f6
        rw [f6] at g6
        have e6 := Option.some.inj g6
        injection e6 with _ _ e7 _
        injection e7 with e8 _
        have e9 : [u, u2] = [v, v2] := by
          have := congrArg Array.toList e8
          simpa using this
        injection e9 with ea eb
        injection eb with eb _
        rw [← ea] at g4
        rw [← eb] at g5
        have r1 : x' = x := RelV.inj g4 f4
        have r2 : y' = y := RelV.inj g5 f5
        have cg : ∀ (p q : V), p = x → q = y → some (HO.tup [p, q]) = some (HO.tup [x, y]) := fun p q h1 h2 => by rw [h1, h2]
        exact cg _ _ (ex.trans r1) (ey.trans r2)
      have kAll : ∀ b u, s1.heap.get? b = some u → h3.get? b = some u := fun b u eb => by
        have lb' := Heap.lt_size eb
        have e5 : h2.get? b = some u := hk b u eb
        have ad : ∀ n : Nat, b < s1.heap.objs.size + n := fun n => Nat.lt_of_lt_of_le lb' (Nat.le_add_right _ _)
        refine k3 b u ?_ (Nat.ne_of_lt (ad 4)) (Nat.ne_of_lt (ad 3)) (Nat.ne_of_lt lb') (Nat.ne_of_lt (ad 1)) e5
        rw [s2sz]
        exact ad 5
      have hGok : ∀ a o, G a = some o → s1.heap.objs.size ≤ a ∧ ObjOk X.prog X.w (ovr H1 G) h3 a o := fun a o ga => by
        by_cases ca : a = s1.heap.objs.size + 5
        · rw [ca, Gc] at ga
          have ga := Option.some.inj ga
          subst ga
          refine ⟨by rw [ca]; exact Nat.le_add_right _ _, Nat.le_trans (by show ps.length ≤ 1000; show (vs.map _).length ≤ 1000; rw [List.length_map]; omega) (Nat.le_of_lt (small1000 (Nat.le_refl _))), vs, c3, vps, ?_⟩
          rw [ca]
          exact hS3
        · have ga2 : @dite _ (∃ (j : Nat) (x y : V), vs[j]? = some (Value.ref a) ∧ xs[j]? = some x ∧ ys[j]? = some y) (Classical.propDecidable _) (fun hj => some (HO.tup [hj.choose_spec.choose, hj.choose_spec.choose_spec.choose])) (fun _ => none) = some o := by
            have : G a = _ := if_neg ca
            rw [← this]
            exact ga
          by_cases hex : ∃ (j : Nat) (x y : V), vs[j]? = some (Value.ref a) ∧ xs[j]? = some x ∧ ys[j]? = some y
          · obtain ⟨j, x, y, c1, c2, c3⟩ := hex
            have lj : j < vs.length := (List.getElem?_eq_some_iff.mp c1).1
            obtain ⟨t, x1, y1, u, u2, f1, f2, f3, f4, f5, f6, f7⟩ := each j lj
            obtain ⟨t2, x2, y2, g1, g2, g3, g4⟩ := Gt j lj
            rw [c1] at f1 g1
            have et := Option.some.inj f1
            injection et with et
            have et2 := Option.some.inj g1
            injection et2 with et2
            subst et
            subst et2
            rw [g4] at ga
            have ga := Option.some.inj ga
            subst ga
            rw [f2] at g2
            rw [f3] at g3
            have ex := Option.some.inj g2
            have ey := Option.some.inj g3
            subst ex ey
            exact ⟨by have := f7; omega, by show 2 ≤ sizeLine; decide, [u, u2], .cons f4 (.cons f5 .nil), ⟨_, f6, rfl, ⟨_, rfl⟩, rfl⟩⟩
          · rw [dif_neg hex] at ga2
            cases ga2
      have I3 : Inv X pins σ (ovr H1 G) { s1 with heap := h3 } := I1.laidAll (t' := s1.toks) kAll hGok
      have sm : Same H1 (ovr H1 G) := fun b o eb => by
        unfold ovr
        cases g : G b with
        | none => exact eb
        | some u => exact absurd (I1.hok.lt eb) (Nat.not_lt.mpr (hGok b u g).1)
      have ov : ∀ a o, G a = some o → ovr H1 G a = some o := fun a o ga => by
        unfold ovr
        rw [ga]
      refine ⟨.ref (s1.heap.objs.size + 5), ovr H1 G, I3, rfl, q _ _ ps sm (ov _ _ Gc) ?_⟩
      -- the pairs, one by one
      have zl : (xs.zip ys).length = ps.length := by
        show _ = (vs.map _).length
        rw [List.length_zip, List.length_map]
        omega
      have fromAt : ∀ (l : List (V × V)) (m : List V), l.length = m.length → (∀ (j : Nat) (q : V × V) (v : V), l[j]? = some q → m[j]? = some v → PairV (ovr H1 G) q v) → Paired (PairV (ovr H1 G)) l m := by
        intro l
        induction l with
        | nil =>
          intro m hm _
          match m, hm with
          | [], _ => exact .nil
        | cons q l ih =>
          intro m hm hall
          match m, hm with
          | v :: m, hm => exact .cons (hall 0 q v rfl rfl) (ih m (by simpa using hm) fun j q' v' h1 h2 => hall (j + 1) q' v' (by simpa using h1) (by simpa using h2))
      refine fromAt _ _ zl fun j qv v hq hv => ?_
      have lj : j < vs.length := by
        have := (List.getElem?_eq_some_iff.mp hv).1
        have e : ps.length = vs.length := List.length_map _
        omega
      obtain ⟨t, x, y, f1, f2, f3, f4⟩ := Gt j lj
      have ev : v = .ref t := by
        have : ps[j]? = some (V.ref t) := by
          show (vs.map _)[j]? = _
          rw [List.getElem?_map, f1]
          rfl
        rw [this] at hv
        exact (Option.some.inj hv).symm
      have eq : qv = (x, y) := by
        have : (xs.zip ys)[j]? = some (x, y) := by
          rw [List.getElem?_zip_eq_some]
          exact ⟨f2, f3⟩
        rw [this] at hq
        exact (Option.some.inj hq).symm
      rw [ev, eq]
      exact ⟨t, rfl, ov _ _ f4⟩
end
end L2
set_option Elab.async false
set_option linter.all false
set_option maxRecDepth 100000
set_option maxHeartbeats 4000000
namespace L2
open PySem PySem.Spec PyProof.Rows
theorem wp_iaddL {M : Model} {A : Around} {E : Value → Shared → Prop} {s : Shared} {a b : Value} {Q : Value → Shared → Prop} (ha : s.TypeIs a "list") (hb : s.TypeIs b "list")
    (hc : wpAny M A (call (.builtin "list.__iadd__") [a, b]) Q E s) : wpAny M A (inplaceOp .Add a b) Q E s := by
  unfold inplaceOp
  refine wpAny_holding ?_
  have hq : isSeqSlot (some (.builtin "list.__iadd__")) = true := by decide +kernel
  have hfi : fillsInplaceSlot (.type "list") "add" (Operator.Add == .Add) = pure false := by
    unfold fillsInplaceSlot
    show (typeLookup (.type "list") (dunderI "add") >>= fun fi => pure (fi.isSome && !isSeqSlot fi)) = pure false
    rw [F.slot_list_iadd.lookup]
    show (pure (Option.isSome (some (Value.builtin "list.__iadd__")) && !isSeqSlot (some (.builtin "list.__iadd__"))) : Sem Bool) = pure false
    rw [hq]
    rfl
  have hsi : seqSlot? (.type "list") (dunderI "add") = pure (some (.builtin "list.__iadd__")) := PySem.seqSlot_of F.slot_list_iadd.lookup hq
  refine wpAny_bind (wpAny_typeOf ha (wpAny_bind (wpAny_of_eq hfi ?_)))
  show wpAny M A (if false = true then _ else _) Q E s
  rw [if_neg Bool.false_ne_true]
  refine wpAny_bind (wpAny_binaryOp1_none (nm := "add") ha hb noFill_list_add ?_)
  refine wpAny_bind (wpAny_of_eq hsi ?_)
  exact wpAny_bind (wpAny_rule hc)
section
variable {X : Cx}
def ipCat : TIp := fun x y H Q => ∃ l b xs zs, x = .ref l ∧ y = .ref b ∧ H l = some (.lst xs) ∧ H b = some (.lst zs) ∧ xs.length + zs.length ≤ sizeLine ∧ Q (.ref l) (upd H l (.lst (xs ++ zs)))
theorem ip_cat : PIp X .Add ipCat := by
  intro pins s σ H x y v u Q I rx ry h
  obtain ⟨l, b, xs, zs, rfl, rfl, hH, hB, hz, q⟩ := h
  cases rx
  cases ry
  obtain ⟨z, its, n, r, hl, e⟩ := I.lstM hH
  obtain ⟨z2, its2, n2, r2, hl2, e2⟩ := I.lstM hB
  have hsz : its.toArray.size + its2.toArray.size ≤ sizeLine := by rw [List.size_toArray, List.size_toArray]; omega
  have hlong : ¬ (!its.toArray.isEmpty && Builtin.List.listTooLong (its.toArray.size + its2.toArray.size)) = true := by
    rw [notLongL hsz, Bool.and_false]
    exact Bool.false_ne_true
  refine wp_iaddL ⟨_, e, rfl⟩ ⟨_, e2, rfl⟩ ?_
  refine call_meets F.slot_list_iadd ⟨_, e, rfl⟩ F.entry_list_iadd (F.args_list_iadd_2 _ _)
    (AutoSeq1.list___iadd___list_list_0 l its.toArray n b its2.toArray n2 hlong (by rw [List.size_toArray]; omega) (by omega)) ⟨e, e2, ?_⟩
  refine ⟨.ref l, _, I.lset (its' := its ++ its2) hH e (by simp) (r.append r2) ?_, rfl, q⟩
  rw [List.length_append]
  omega
end
end L2
set_option Elab.async false
set_option linter.all false
set_option maxRecDepth 100000
set_option maxHeartbeats 4000000
namespace L2
open PySem PySem.Spec PyProof.Rows
section
variable {prog : Program} {w : World} {A : Around} {E : Value → Shared → Prop}
theorem drawL {it l : Addr} {its : Array Value} (hne : l ≠ it) : ∀ (n i : Nat) (s : Shared) (Q : List Value → Shared → Prop), s.heap.IsListIter it l i → s.heap.IsList l its → i + n ≤ its.size →
    (∀ h', h'.IsListIter it l (i + n) → Heap.SameBut it s.heap h' → Q ((its.toList.drop i).take n) { s with heap := h' }) → wpAny (model prog w) A (draw (.ref it) n) Q E s
  | 0, i, s, Q, hi, _, _, q => by
    show wpAny _ _ (pure []) Q E s
    exact wpAny_pure (by simpa using q s.heap hi (Heap.SameBut.refl ..))
  | n + 1, i, s, Q, hi, hl, hle, q => by
    have lt : i < its.size := by omega
    show wpAny _ _ (pyNext (.ref it) >>= _) Q E s
    refine wpAny_bind (wpAny_pyNext_list_item hi hl (x := its[i]) (by simp [lt]) fun h1 hi1 hs1 => ?_)
    refine wpAny_bind (wpAny_holding (drawL hne n (i + 1) _ _ hi1 (hl.extBut hs1.extBut hne) (by omega) fun h2 hi2 hs2 => wpAny_pure ?_))
    have e : its.toList.drop i = its[i] :: its.toList.drop (i + 1) := by simp [List.drop_eq_getElem_cons, lt]
    have z := q h2 (by rw [show i + (n + 1) = i + 1 + n by omega]; exact hi2) (hs1.trans hs2)
    rw [e, List.take_succ_cons] at z
    exact z
theorem unpackL {s : Shared} {l : Addr} {its : Array Value} {Q : List Value → Shared → Prop} (hh : A.handled = none) (hl : s.heap.IsList l its)
    (q : ∀ h', Heap.ExtBut s.heap.objs.size s.heap h' → Q its.toList { s with heap := h' }) : wpAny (model prog w) A (unpackItems (.ref l) its.size none) Q E s := by
  have ne : l ≠ s.heap.objs.size := by obtain ⟨o, ho, _⟩ := hl; exact Nat.ne_of_lt (Heap.lt_size ho)
  unfold unpackItems
  refine wpAny_bind ?_
  unfold notIterableAtAll
  refine wpAny_bind (wpAny_specialOf hl.typeIs PySem.F.slot_list_iter.lookup ?_)
  refine wpAny_pure ?_
  simp only [Bool.false_eq_true, if_false]
  refine wpAny_bind (wpAny_holding (wpAny_pyIter_list hl ?_))
  refine wpAny_bind (wpAny_holding (drawL ne its.size 0 _ _ ⟨_, Heap.get?_push_size _ rfl, rfl, rfl⟩ (hl.push _) (by omega) fun h1 hi1 hs1 => ?_))
  have e : List.take its.size (List.drop 0 its.toList) = its.toList := by rw [List.drop_zero]; exact List.take_of_length_le (by simp)
  rw [e]
  rw [if_neg (by simp)]
  have hl1 : h1.IsList l its := (hl.push _).extBut hs1.extBut ne
  refine wpAny_bind (wpAny_holding (wpAny_pyNext_list_end hh hi1 hl1 (by simp) fun h2 he2 => ?_))
  simp only [Option.isSome_none, Bool.false_eq_true, if_false]
  exact wpAny_pure (q h2 fun b o hb z => he2 b o hb (hs1.extBut b o hb (Heap.get?_push_of_some _ z)))
end
section
variable {X : Cx} {pos : Pos}
/-- a, b = a list of two -/
def gLst (K : PySem.W.Frag) (n : Nat) (t : TGs) : TG := fun v σ H Q => ∃ a xs, v = .ref a ∧ SqL K H a xs ∧ xs.length = n ∧ t xs σ H Q
theorem pg_lst {es : List Expr} {k : Nat} {t : TGs} {n : Nat} (hc : X.calm = true) (h : PGs X es t)
    (hn : (assignEach es X.env).length = n := by rfl) (hst : (assignEach es X.env).findIdx? (·.1) = none := by rfl) : PG X (.Tuple es k pos) (gLst X.K n t) := by
  intro pins s σ H v u Q I r hw
  obtain ⟨a, xs, e1, hq, hl, hw⟩ := hw
  subst e1
  cases r
  obtain ⟨its, rv, pl, hz⟩ := I.list hq
  rw [assign_Tuple]
  refine wpAny_bind (wpAny_standAt ?_)
  unfold unpack
  have e2 : (assignEach es X.env).length = its.toArray.size := by simp [hn, ← hl, rv.length]
  rw [e2, hst]
  refine wpAny_bind (wpAny_holding (unpackL (I.ok.hd hc) pl.isList fun h' hx => ?_))
  have I1 : Inv X pins σ H { s with heap := h' } := I.kept (t' := s.toks) fun b o e => hx b o (Nat.ne_of_lt (Heap.lt_size e)) e
  exact h _ σ H xs _ Q I1 (by simpa using rv) hw
end
end L2
set_option Elab.async false
set_option linter.all false
set_option maxRecDepth 100000
set_option maxHeartbeats 2000000
namespace L2
open PySem PySem.Spec PyProof.Rows
theorem pick_one (items : Array Value) : slicePick items none none (some 1) = items := by
  have e : slicePick items none none (some 1) = ((sliceRange 0 (items.size : Int) 1).filterMap (items[·]?)).toArray := rfl
  have r : sliceRange 0 (items.size : Int) 1 = List.range items.size := by
    unfold sliceRange
    by_cases h : (0 : Int) < (items.size : Int)
    · have e2 : ((items.size : Int) - 0 + 1 - 1) / 1 = (items.size : Int) := by rw [Int.ediv_one]; omega
      simp only [h, if_true, e2, Int.toNat_natCast, show ((1 : Int) > 0) from by decide]
      conv => rhs; rw [← List.map_id (List.range items.size)]
      apply List.map_congr_left
      intro k hk
      show ((0 : Int) + 1 * (k : Int)).toNat = k
      omega
    · have e2 : items.size = 0 := by omega
      rw [e2]
      simp
  rw [e, r, PySem.W.krv_all]
section
variable {X : Cx}
/-- xs[::k] of a list, k one or less one -/
def tStepL (K : PySem.W.Frag) (te ts : TE) : TE := fun σ H Q => te σ H fun x H1 => ts σ H1 fun y H2 => ∃ (a : Addr) (xs : List V) (k : Int), x = .ref a ∧ y = .int k ∧ (k = 1 ∨ k = -1) ∧ SqL K H2 a xs ∧ ∀ p, H2 p = none → Q (.ref p) (upd H2 p (.lst (if k = 1 then xs else xs.reverse)))
theorem pe_stepL {e st : Expr} {te ts : TE} {p2 pos : Pos} (he : PE X e te) (hst : PE X st ts) : PE X (.Subscript e (.Slice none none (some st) p2) pos) (tStepL X.K te ts) := by
  intro pins s σ H Q I h
  refine Subscript_ (thn (he s σ H _ I h) fun v s1 ⟨x, H1, I1, r1, q1⟩ => ?_)
  refine wpAny_Slice ?_
  rw [evalPart_none]
  refine wpAny_pure ?_
  refine wpAny_pure ?_
  show wpAny _ _ (eval st X.env) _ _ _
  refine thn (hst s1 σ H1 _ I1 q1) fun vs s3 ⟨y, H3, I3, r3, a, xs, k, ex, ey, hk, hx, q⟩ => ?_
  subst ex ey
  obtain ⟨t, rfl⟩ := r3
  cases r1
  have I4 : Inv X pins σ H3 { s3 with heap := s3.heap.push { cls := .type "slice", data := .fields #[.none, .none, .int k t] } } := I3.kept (t' := s3.toks) fun b ob q => Heap.get?_push_of_some _ q
  obtain ⟨its, r, hl, hz⟩ := I4.list hx
  have hlen : its.toArray.size = xs.length := by rw [List.size_toArray]; exact r.length.symm
  show wpAny (model X.prog X.w) X.A (subscriptTail e (.Slice none none (some st) p2) (.ref a) (.ref s3.heap.objs.size)) (EP X pins σ Q) X.xe { s3 with heap := s3.heap.push { cls := .type "slice", data := .fields #[.none, .none, .int k t] } }
  refine tail_any (ops := [.ref a, .ref s3.heap.objs.size]) hl.isList.typeIs PySem.list_getitem_lookup ?_ (by with_unfolding_all rfl)
  refine wpAny_getItem_list_slice hl.isList (Heap.IsSliceOf.new ..) .none .none (IsPart.int _ _) (by rcases hk with z | z <;> rw [z] <;> decide) ?_ (by rw [hlen]; exact hz)
  have ep : ∃ zs : List Value, slicePick its.toArray none none (some k) = zs.toArray ∧ Vals (if k = 1 then xs else xs.reverse) zs := by
    rcases hk with z | z
    · subst z
      exact ⟨its, pick_one _, r⟩
    · subst z
      exact ⟨its.reverse, by rw [PySem.W.krv_pick], vals_reverse r⟩
  obtain ⟨zs, e1, e2⟩ := ep
  rw [e1]
  refine ⟨.ref _, _, I4.laid (t' := s3.toks) (o := .lst (if k = 1 then xs else xs.reverse)) (fun b ob q => Heap.get?_push_of_some _ q) (Nat.le_refl _) ?_, rfl, q _ (I4.hok.fresh (Nat.le_refl _))⟩
  refine ⟨by split <;> first | exact hz | (rw [List.length_reverse]; exact hz), _, _, e2, Heap.get?_push_size _ rfl⟩
end
end L2
set_option Elab.async false
set_option linter.all false
set_option maxRecDepth 100000
set_option maxHeartbeats 2000000
namespace My
open PySem L2 TL Sx
abbrev sParted : Stmt := top 9
theorem nd_le {α : Type} [DecidableEq α] : ∀ {l m : List α}, l.Nodup → (∀ x ∈ l, x ∈ m) → l.length ≤ m.length
  | [], m, _, _ => Nat.zero_le _
  | x :: l, m, nd, h => by
    have hx := h x List.mem_cons_self
    obtain ⟨n1, n2⟩ := List.nodup_cons.mp nd
    have i := nd_le (l := l) (m := m.erase x) n2 fun y hy => (List.mem_erase_of_ne (fun z => n1 (by rw [← z]; exact hy))).mpr (h y (List.mem_cons_of_mem _ hy))
    rw [List.length_erase_of_mem hx] at i
    have := List.length_pos_of_mem hx
    rw [List.length_cons]
    omega
/-- pairs of rows, closed under going on -/
structure ClC (rs : Prog) (C : List (Int × Int)) : Prop where
  rng : ∀ x ∈ C, 0 ≤ x.1 ∧ x.1 < (rs.length : Int) ∧ 0 ≤ x.2 ∧ x.2 < (rs.length : Int)
  go : ∀ p q cs j k, (p, q) ∈ C → rowN rs p = some (cs, Onw.go j) → rowN rs q = some (cs, Onw.go k) → (j, k) ∈ C
  test : ∀ p q cs c j k j' k', (p, q) ∈ C → rowN rs p = some (cs, Onw.test c j k) → rowN rs q = some (cs, Onw.test c j' k') → (j, j') ∈ C ∧ (k, k') ∈ C
  few : C.length ≤ 1225
/-- a pair with its word, laid -/
def ItAt (H : Hp) (t : It) (v : V) : Prop := ∃ a pr wd, v = .ref a ∧ H a = some (.tup [.ref pr, .ref wd]) ∧ H pr = some (.tup [.int t.p, .int t.q]) ∧ H wd = some (.tup (t.w.map V.bl))
theorem ItAt.keep {H H' : Hp} (k : KeepT H H') {t : It} {v : V} (h : ItAt H t v) : ItAt H' t v := by
  obtain ⟨a, pr, wd, e, h1, h2, h3⟩ := h
  exact ⟨a, pr, wd, e, k _ _ h1, k _ _ h2, k _ _ h3⟩
def InC (C : List (Int × Int)) (t : It) : Prop := (t.p, t.q) ∈ C
/-- where the search stands -/
structure PtAt (C : List (Int × Int)) (H0 H : Hp) (rs : Prog) (p q : Int) (sA lA : Addr) (kvs : List (Pr × V)) (lv lo : List It) : Prop where
  same : Same H0 H
  set : H sA = some (setQ sA kvs)
  keys : QKs H kvs
  lvl : ∃ vs, H lA = some (.lst vs.reverse) ∧ Paired (ItAt H) lv vs
  n0 : H0 sA = none ∧ H0 lA = none ∧ sA ≠ lA
  nd : (kvs.map (·.1)).Nodup
  rng : ∀ (x : Int × Int), x ∈ kvs.map (·.1) → x ∈ C
  lrng : ∀ t ∈ lv ++ lo, InC C t ∧ t.w.length ≤ kvs.length
  few : lv.length + lo.length ≤ 1 + kvs.length
  run : ∀ r, PB rs lv lo (kvs.map (·.1)) r → PB rs [⟨p, q, []⟩] [] [] r
theorem PtAt.many {C : List (Int × Int)} {H0 H : Hp} {rs : Prog} {p q : Int} {sA lA : Addr} {kvs : List (Pr × V)} {lv lo : List It} (h : PtAt C H0 H rs p q sA lA kvs lv lo) : kvs.length ≤ C.length := by
  have := nd_le h.nd h.rng
  rw [List.length_map] at this
  exact this
theorem PtAt.keep {C : List (Int × Int)} {H0 H H' : Hp} {rs : Prog} {p q : Int} {sA lA : Addr} {kvs : List (Pr × V)} {lv lo : List It} (h : PtAt C H0 H rs p q sA lA kvs lv lo) (s : Same H H') : PtAt C H0 H' rs p q sA lA kvs lv lo := by
  obtain ⟨vs, e1, e2⟩ := h.lvl
  exact ⟨h.same.trans s, s _ _ h.set, fun q hq => let ⟨b, e, g⟩ := h.keys q hq; ⟨b, e, s _ _ g⟩, ⟨vs, s _ _ e1, Paired.mapP e2 fun _ _ z => z.keep (KeepT.of s)⟩, h.n0, h.nd, h.rng, h.lrng, h.few, h.run⟩
theorem PtAt.more {C : List (Int × Int)} {H0 H H' : Hp} {rs : Prog} {p q a b : Int} {w : List Bool} {sA lA pr : Addr} {kvs : List (Pr × V)} {lv lo lv2 lo2 : List It} (h : PtAt C H0 H rs p q sA lA kvs (⟨a, b, w⟩ :: lv) lo) (hn : (a, b) ∉ kvs.map (·.1)) (hpr : H pr = some (.tup [.int a, .int b])) (hs : Same H0 H') (k : KeepT H H')
    (e1 : H' sA = some (setQ sA (((a, b), .ref pr) :: kvs))) (e2 : ∃ vs, H' lA = some (.lst vs.reverse) ∧ Paired (ItAt H') lv2 vs) (r : ∀ t ∈ lv2 ++ lo2, InC C t ∧ t.w.length ≤ kvs.length + 1) (f : lv2.length + lo2.length ≤ 2 + kvs.length)
    (run : ∀ r, PB rs lv2 lo2 ((a, b) :: kvs.map (·.1)) r → PB rs (⟨a, b, w⟩ :: lv) lo (kvs.map (·.1)) r) : PtAt C H0 H' rs p q sA lA (((a, b), .ref pr) :: kvs) lv2 lo2 := by
  have inr := (h.lrng _ (List.mem_append.mpr (.inl List.mem_cons_self))).1
  refine ⟨hs, e1, fun z hz => ?_, e2, h.n0, List.nodup_cons.mpr ⟨hn, h.nd⟩, fun x hx => ?_, r, by rw [List.length_cons]; omega, fun r hr => h.run r (run r hr)⟩
  · rcases List.mem_cons.mp hz with z1 | z1
    · rw [z1]; exact ⟨pr, rfl, k _ _ hpr⟩
    · obtain ⟨c, x1, x2⟩ := h.keys z z1
      exact ⟨c, x1, k _ _ x2⟩
  · rcases List.mem_cons.mp hx with z1 | z1
    · rw [z1]; exact inr
    · exact h.rng x z1
theorem paired_snoc2 {α β : Type} {R : α → β → Prop} {x x2 : α} {y y2 : β} : ∀ {xs : List α} {ys : List β}, Paired R xs ys → R x y → R x2 y2 → Paired R (xs ++ [x, x2]) (ys ++ [y, y2])
  | _, _, .nil, h1, h2 => .cons h1 (.cons h2 .nil)
  | _, _, .cons a t, h1, h2 => .cons a (paired_snoc2 t h1 h2)
theorem small1500 {n : Nat} (h : n ≤ 1500) : n < sizeLine := by rw [sizeLine_eq]; omega
theorem ordsM_ok {o : OwnD} {H : Hp} : ∀ {cs : List Ordr} {ys : List V}, OrdsM o H cs ys → ∀ c ∈ cs, OrdOk o c
  | _, _, .nil => fun c hc => nomatch hc
  | _, _, .cons r t => fun c hc => by
    rcases List.mem_cons.mp hc with z | z
    · rw [z]; exact r.2
    · exact ordsM_ok t c z
def wordV (H : Hp) (r : Option (List Bool)) (v : V) : Prop := match r with
  | none => v = .non
  | some w => ∃ a, v = .ref a ∧ H a = some (.tup (w.map V.bl))
structure RowsGood (o : OwnD) (rs : Prog) : Prop where
  tg : ∀ (i : Nat) r, rs[i]? = some r → ∀ t ∈ tgts r.2, 0 ≤ t ∧ t < rs.length
  pl : ∀ r ∈ rs, PlcT o r.2
def spParted : Sp := fun vs H Q _ => ∃ (t rA : Addr) (v2 : V) (p q : Int) (o : OwnD) (rs : Prog), vs = [.ref t, .int p, .int q] ∧ H t = some (.tup [.ref rA, v2]) ∧ ProgAt o H rA rs ∧ OwnOk o ∧ RowsGood o rs ∧ rs.length ≤ 300 ∧ (∃ C, ClC rs C ∧ (p, q) ∈ C) ∧
  ∀ (r : Option (List Bool)) (v : V) (H' : Hp), Same H H' → PB rs [⟨p, q, []⟩] [] [] r → (∀ w, r = some w → w.length ≤ 1500) → wordV H' r v → Q v H'
abbrev NPt : List Str := ["store", "one", "other", "rows", "number", "seen", "level", "longer", "pair", "word", "left", "right", "behind"]
section
variable {P : Program} {w : World} {K : PySem.W.Frag} {mg : Str → Option Value} {base : Heap}
theorem scParted : FnScope NPt ["store", "one", "other"] (defScope sParted) := ⟨rfl, rfl, rfl, by decide +kernel, rfl, by decide +kernel, by decide +kernel⟩
theorem ok_parted {f : Addr} {fd : FuncData} (F : Fun K "parted" "parted" sParted f fd) (dW : Df K mg "is_whole" sWhole ["thing"]) (dB : Df K mg "is_between" sBetween ["thing", "low", "high"]) (dN : Df K mg "rows_named" sNamed ["onward"]) (dF : Df K mg "face_of" sFace ["row"]) (B : Bl mg) (bset : mg "set" = none) :
    FnOk P w K mg base CX0 3 f fd ["store", "one", "other"] spParted := by
  have GB : FnOk P w K mg base CX0 2 dB.f dB.fd ["thing", "low", "high"] spBetwI := ok_betwI dB.F dW B
  have GN : FnOk P w K mg base CX0 1 dN.f dN.fd ["onward"] spNamed := ok_named dN.F
  have GF : FnOk P w K mg base CX0 1 dF.f dF.fd ["row"] spFace := ok_face dF.F
  refine F.ok scParted (fun vs H Q E h => ?_) (fun cdv A outer s H vs Q E hr h => ?_)
  · obtain ⟨t, rA, v2, p, q, o, rs, rfl, _⟩ := h
    rfl
  · obtain ⟨t, rA, v2, p, q, o, rs, rfl, hT, hR, hO, hG, h35, ⟨C, hC, hpq⟩, qq⟩ := h
    have hr1 : Room 1 _ := hr.mono (by decide)
    refine ⟨_, pss_cons (ps_set (i := 3) scParted.nd rfl (Or.inr rfl) (pe_ix ix_tup (pv 0) pe_int (fun _ _ => rfl)))
      (pss_cons (ps_for PassesOwn.never rfl (pi_tup (pe_tup (pa_cons (pv 1) (pa_cons (pv 2) pa_nil)))) (pg_name (i := 4) scParted.nd rfl (Or.inl rfl))
        (pss_one (ps_if (pt_not (pt_val (pe_call GB hr rfl dB.m dB.F.kp dB.b .nil pass0 (pa_cons (pv 4) (pa_cons pe_int (pa_cons (pe_op op_sub (pe_callB call_len_seq (by rfl) B.len PySem.boot_len (pa_cons (pv 3) pa_nil)) pe_int) pa_nil)))))) (pss_one ps_never) pss_nil)))
      (pss_cons (ps_set (i := 5) scParted.nd rfl (Or.inl rfl) (pe_callTy0 call_setQ (by rfl) bset (by decide +kernel)))
      (pss_cons (ps_set (i := 6) scParted.nd rfl (Or.inl rfl) (pe_lst (pa_cons (pe_tup (pa_cons (pe_tup (pa_cons (pv 1) (pa_cons (pv 2) pa_nil))) (pa_cons (pe_tup pa_nil) pa_nil))) pa_nil)))
      (pss_cons (ps_while PassesOwn.never (pt_truth (pv 6) (fun _ => rfl))
        (pss_cons (ps_set (i := 7) scParted.nd rfl (Or.inl rfl) (pe_lst pa_nil))
        (pss_cons (ps_while PassesOwn.never (pt_truth (pv 6) (fun _ => rfl))
          (pss_cons (ps_asg (pe_bm0 PySem.F.plainAttrs_list PySem.F.slot_list_pop PySem.F.type_list_pop mt_pop (pv 6)) (pg_tup (by rfl) (pgs_cons (pg_name (i := 8) scParted.nd rfl (Or.inl rfl)) (pgs_cons (pg_name (i := 9) scParted.nd rfl (Or.inl rfl)) pgs_nil))))
          (pss_cons (ps_if (pt_cmpR (op_inP hr.u100) (pv 8) (pv 5) (by with_unfolding_all rfl)) (pss_one ps_continue) pss_nil)
          (pss_cons (ps_expr (pe_setM PySem.F.slot_set_add PySem.F.type_set_add (mt_addP hr.u100) (pv 5) (pa_cons (pv 8) pa_nil)))
          (pss_cons (ps_asg (pe_lc (own := [("number", 4)]) (g := gName 4) (te := tOp (rIxT K) (tVar 3) (tVar 4)) (by rfl) scParted.nd (pi_tup (pv 8)) (blkOk_by (own := [("number", 4)]) (N := NPt) (sc := defScope sParted) (by decide +kernel)) (fun _ _ _ _ _ => pg_name (i := 4) scParted.nd rfl (Or.inl rfl)) (fun _ _ _ _ _ => pts_nil) (fun _ _ _ _ _ => pe_ix ix_tup (pv 3) (pv 4) (fun _ _ => rfl)))
            (pg_lst (by rfl) (pgs_cons (pg_name (i := 10) scParted.nd rfl (Or.inl rfl)) (pgs_cons (pg_name (i := 11) scParted.nd rfl (Or.inl rfl)) pgs_nil))))
          (pss_cons (ps_if (pt_cmpR (op_neD hr.units) (pe_call GF hr1 rfl dF.m dF.F.kp dF.b .nil pass0 (pa_cons (pv 10) pa_nil)) (pe_call GF hr1 rfl dF.m dF.F.kp dF.b .nil pass0 (pa_cons (pv 11) pa_nil)) (nomark _)) (pss_one (ps_ret (pv 9))) pss_nil)
          (pss_cons (ps_set (i := 12) scParted.nd rfl (Or.inl rfl) (pe_listZip rfl rfl B.list rfl B.zip (pa_cons (pe_call GN hr1 rfl dN.m dN.F.kp dN.b .nil pass0 (pa_cons (pe_ix ix_tup (pv 10) pe_int (fun _ _ => rfl)) pa_nil)) (pa_cons (pe_call GN hr1 rfl dN.m dN.F.kp dN.b .nil pass0 (pa_cons (pe_ix ix_tup (pv 11) pe_int (fun _ _ => rfl)) pa_nil)) pa_nil))))
          (pss_cons (ps_if (pt_cmpR op_eq (pe_ix ix_tup (pe_ix ix_tup (pv 10) pe_int (fun _ _ => rfl)) pe_int (fun _ _ => rfl)) pe_str (nomark _))
            (pss_one (ps_expr (pe_bm PySem.F.plainAttrs_list PySem.F.slot_list_append PySem.F.type_list_append mt_append (pv 6) (pa_cons (pe_tup (pa_cons (pe_ix ix_list (pv 12) pe_int (fun _ _ => rfl)) (pa_cons (pv 9) pa_nil))) pa_nil)))) pss_nil)
          (pss_one (ps_if (pt_cmpR op_eq (pe_ix ix_tup (pe_ix ix_tup (pv 10) pe_int (fun _ _ => rfl)) pe_int (fun _ _ => rfl)) pe_str (nomark _))
            (pss_one (ps_aug (i := 7) scParted.nd rfl (Or.inl rfl) (pe_lst (pa_cons (pe_tup (pa_cons (pe_ix ix_list (pv 12) pe_int (fun _ _ => rfl)) (pa_cons (pe_op op_catH (pv 9) (pe_tup (pa_cons pe_bl pa_nil))) pa_nil)))
              (pa_cons (pe_tup (pa_cons (pe_ix ix_list (pv 12) pe_int (fun _ _ => rfl)) (pa_cons (pe_op op_catH (pv 9) (pe_tup (pa_cons pe_bl pa_nil))) pa_nil))) pa_nil))) ip_cat)) pss_nil))))))))))
        (pss_one (ps_set (i := 6) scParted.nd rfl (Or.inl rfl) (pe_stepL (pv 7) (pe_un un_neg pe_int)))))))
      (pss_one (ps_ret pe_non)))))), ?read⟩
    case read =>
      have n35 : C.length ≤ 1225 := hC.few
      obtain ⟨p0, p1, q0, q1⟩ := hC.rng _ hpq
      obtain ⟨rvs, hRA, hRows⟩ := hR.at_
      have rlen : rvs.length = rs.length := hRows.length.symm
      -- rows
      refine seq_cut (fun σ' H' => σ' = [some (.ref t), some (.int p), some (.int q), some (.ref rA), none, none, none, none, none, none, none, none, none] ∧ H' = H) (fun nx imp => ?_) ?_
      · exact ⟨_, rfl, t, _, _, _, rfl, rfl, SqT.of hT, at0, imp _ _ ⟨rfl, rfl⟩⟩
      rintro σ H0 ⟨rfl, eH⟩
      subst eH
      -- the two are rows
      refine seq_cut (fun σ' H' => ∃ v4, σ' = [some (.ref t), some (.int p), some (.int q), some (.ref rA), v4, none, none, none, none, none, none, none, none] ∧ Same H0 H') (fun nx imp => ?_) ?_
      · refine ⟨_, rfl, _, rfl, (by show 2 ≤ sizeLine; decide), fun c hc => ⟨c, rfl, ⟨_, SqT.of upd_same⟩, ?_⟩⟩
        have sc := same_new hc (.tup [V.int p, V.int q])
        refine for_tup (xs := [V.int p, V.int q]) (fun i σ H2 => ∃ v4, σ = [some (.ref t), some (.int p), some (.int q), some (.ref rA), v4, none, none, none, none, none, none, none, none] ∧ H2 = upd H0 c (.tup [V.int p, V.int q])) ⟨none, rfl, rfl⟩ (fun i σ H2 _ h => by obtain ⟨_, _, e⟩ := h; rw [e]; exact SqT.of upd_same) ?_ ?_
        · rintro i x σ H2 hx ⟨v4, rfl, rfl⟩
          obtain ⟨z, rfl, z0, z1⟩ : ∃ z : Int, x = .int z ∧ 0 ≤ z ∧ z < rs.length := by
            match i, hx with
            | 0, hx => cases hx; exact ⟨p, rfl, p0, p1⟩
            | 1, hx => cases hx; exact ⟨q, rfl, q0, q1⟩
            | n + 2, hx => simp at hx
          refine ⟨_, rfl, _, rfl, rA, _, rfl, .inr (SqT.of (sc _ _ hRA)), _, _, rfl, rfl, z, 0, _, rfl, z0, ?_, _, rfl, iteF ⟨_, rfl, rfl⟩⟩
          omega
        · rintro σ H2 ⟨v4, rfl, rfl⟩
          exact imp _ _ ⟨v4, rfl, sc⟩
      rintro σ H1 ⟨v4, rfl, s1⟩
      -- seen
      refine seq_cut (fun σ' H' => ∃ sA : Addr, σ' = [some (.ref t), some (.int p), some (.int q), some (.ref rA), v4, some (.ref sA), none, none, none, none, none, none, none] ∧ H1 sA = none ∧ H' = upd H1 sA (setQ sA [])) (fun nx imp => ?_) ?_
      · exact ⟨rfl, fun a ha => imp _ _ ⟨a, rfl, ha, rfl⟩⟩
      rintro σ H2 ⟨sA, rfl, hsA, eH2⟩
      have s12 : Same H1 H2 := by rw [eH2]; exact same_new hsA _
      have hs2 : H2 sA = some (setQ sA []) := by rw [eH2]; exact upd_same
      clear eH2
      -- the first level
      refine seq_cut (fun σ' H' => ∃ lA : Addr, σ' = [some (.ref t), some (.int p), some (.int q), some (.ref rA), v4, some (.ref sA), some (.ref lA), none, none, none, none, none, none] ∧ PtAt C H0 H' rs p q sA lA [] [⟨p, q, []⟩] []) (fun nx imp => ?_) ?_
      · refine ⟨_, rfl, _, rfl, (by show 2 ≤ sizeLine; decide), fun pr hpr => ⟨(by show 0 ≤ sizeLine; decide), fun wd hwd => ⟨(by show 2 ≤ sizeLine; decide), fun a ha => ⟨(by show 1 ≤ sizeLine; decide), fun lA hlA => imp _ _ ⟨lA, rfl, ?_⟩⟩⟩⟩⟩
        have t1 := same_new hpr (.tup [V.int p, V.int q])
        have t2 := same_new hwd (.tup [])
        have t3 := same_new ha (.tup [V.ref pr, V.ref wd])
        have t4 := same_new hlA (.lst [V.ref a])
        have hl2 : H2 lA = none := (t1.trans (t2.trans t3)).free hlA
        refine ⟨s1.trans (s12.trans (t1.trans (t2.trans (t3.trans t4)))), (t1.trans (t2.trans (t3.trans t4))) _ _ hs2, (fun z hz => nomatch hz), ⟨[.ref a], upd_same, .cons ⟨a, pr, wd, rfl, t4 _ _ upd_same, t4 _ _ (t3 _ _ (t2 _ _ upd_same)), t4 _ _ (t3 _ _ upd_same)⟩ .nil⟩,
          ⟨s1.free hsA, (s1.trans s12).free hl2, fun z => by rw [← z, hs2] at hl2; cases hl2⟩, List.nodup_nil, (fun z hz => nomatch hz), fun z hz => ?_, (by show 1 ≤ 1; decide), fun r h => h⟩
        rw [List.append_nil, List.mem_singleton] at hz
        rw [hz]
        exact ⟨hpq, Nat.le_refl _⟩
      rintro σ H3 ⟨lA, rfl, pt⟩
      clear hs2 s12 hsA
      have rowAt : ∀ z : Int, 0 ≤ z → z < rs.length → ∃ (v : V) (r : List Ordr × Onw), atI rvs z = some v ∧ rs[z.toNat]? = some r ∧ rowN rs z = some r ∧ RowAt o H0 v r ∧ r ∈ rs := fun z z0 z1 => by
        have eg : rs[z.toNat]? = some rs[z.toNat] := List.getElem?_eq_getElem (by omega)
        obtain ⟨v, hv, hrow⟩ := paired_getK hRows eg
        have ez : z = ((z.toNat : Nat) : Int) := by omega
        exact ⟨v, _, by rw [ez]; exact atI_nat hv, eg, by rw [rowN_of z0]; exact eg, hrow, List.mem_of_getElem? eg⟩
      -- the search
      refine seq_cut (fun σ' H' => Same H0 H' ∧ PB rs [⟨p, q, []⟩] [] [] none) (fun nx imp => ?_) ?_
      · refine ⟨fun m σ' H' => ∃ (lA : Addr) (kvs : List (Pr × V)) (lv : List It) (v4 v7 v8 v9 v10 v11 v12 : Option V), σ' = [some (.ref t), some (.int p), some (.int q), some (.ref rA), v4, some (.ref sA), some (.ref lA), v7, v8, v9, v10, v11, v12] ∧ m = 3 * (C.length - kvs.length) + lv.length ∧ PtAt C H0 H' rs p q sA lA kvs lv [], ⟨_, lA, _, _, _, _, _, _, _, _, _, rfl, rfl, pt⟩, ?_⟩
        clear pt lA
        rintro m0 σ H4 ⟨lA, kvs0, lv0, w4, w7, w8, w9, w10, w11, w12, rfl, rfl, pt0⟩
        obtain ⟨vs0, hl0, ent0⟩ := pt0.lvl
        refine ⟨_, rfl, !vs0.reverse.isEmpty, .inl ⟨_, SqL.of hl0, rfl⟩, ?_⟩
        by_cases hne : lv0 = []
        · subst hne
          cases ent0
          exact iteF (imp _ _ ⟨pt0.same, pt0.run none .out⟩)
        have ne0 : (!vs0.reverse.isEmpty) = true := by
          cases ent0 with
          | nil => exact absurd rfl hne
          | cons _ _ => simp
        rw [ne0]
        refine iteT ⟨fun σ' H' => ∃ m', m' < 3 * (C.length - kvs0.length) + lv0.length ∧ ∃ (lA : Addr) (kvs : List (Pr × V)) (lv : List It) (v4 v7 v8 v9 v10 v11 v12 : Option V), σ' = [some (.ref t), some (.int p), some (.int q), some (.ref rA), v4, some (.ref sA), some (.ref lA), v7, v8, v9, v10, v11, v12] ∧ m' = 3 * (C.length - kvs.length) + lv.length ∧ PtAt C H0 H' rs p q sA lA kvs lv [], fun σ' H' z => z, ?_⟩
        generalize hT0 : 3 * (C.length - kvs0.length) + lv0.length = T0
        clear hl0 ent0 ne0
        -- longer
        refine seq_cut (fun σ' H' => ∃ oA : Addr, σ' = [some (.ref t), some (.int p), some (.int q), some (.ref rA), w4, some (.ref sA), some (.ref lA), some (.ref oA), w8, w9, w10, w11, w12] ∧ PtAt C H0 H' rs p q sA lA kvs0 lv0 [] ∧ H' oA = some (.lst []) ∧ H0 oA = none ∧ oA ≠ sA ∧ oA ≠ lA) (fun nx2 imp2 => ?_) ?_
        · refine ⟨(by show 0 ≤ sizeLine; decide), fun oA hoA => imp2 _ _ ⟨oA, rfl, pt0.keep (same_new hoA _), upd_same, pt0.same.free hoA, fun z => ?_, fun z => ?_⟩⟩
          · rw [z, pt0.set] at hoA; cases hoA
          · obtain ⟨vs, e, _⟩ := pt0.lvl
            rw [z, e] at hoA
            cases hoA
        rintro σ H5 ⟨oA, rfl, pt1, ho1, ho0, nos, nol⟩
        clear pt0
        -- one level
        refine seq_cut (fun σ' H' => ∃ (kvs : List (Pr × V)) (lo : List It) (v4 v8 v9 v10 v11 v12 : Option V), σ' = [some (.ref t), some (.int p), some (.int q), some (.ref rA), v4, some (.ref sA), some (.ref lA), some (.ref oA), v8, v9, v10, v11, v12] ∧ PtAt C H0 H' rs p q sA lA kvs [] lo ∧ (∃ vs, H' oA = some (.lst vs) ∧ Paired (ItAt H') lo vs) ∧ 3 * (C.length - kvs.length) + lo.length < T0) (fun nx2 imp2 => ?_) ?_
        · refine ⟨fun m σ' H' => ∃ (kvs : List (Pr × V)) (lv lo : List It) (v4 v8 v9 v10 v11 v12 : Option V), σ' = [some (.ref t), some (.int p), some (.int q), some (.ref rA), v4, some (.ref sA), some (.ref lA), some (.ref oA), v8, v9, v10, v11, v12] ∧ m = 3 * (C.length - kvs.length) + lv.length ∧ PtAt C H0 H' rs p q sA lA kvs lv lo ∧ (∃ vs, H' oA = some (.lst vs) ∧ Paired (ItAt H') lo vs) ∧
            3 * (C.length - kvs.length) + lv.length + lo.length ≤ T0 ∧ (lv = [] → 3 * (C.length - kvs.length) + lo.length < T0), ⟨_, _, _, [], _, _, _, _, _, _, rfl, rfl, pt1, ⟨[], ho1, .nil⟩, by rw [hT0]; exact Nat.le_refl _, fun z => absurd z hne⟩, ?_⟩
          clear pt1 ho1 H5 H4
          rintro m1 σ H4 ⟨kvs, lv, lo, w4, w8, w9, w10, w11, w12, rfl, rfl, pt, ⟨ovs, ho, oent⟩, hle, hlt⟩
          obtain ⟨vs, hl, ent⟩ := pt.lvl
          refine ⟨_, rfl, !vs.reverse.isEmpty, .inl ⟨_, SqL.of hl, rfl⟩, ?_⟩
          cases lv with
          | nil =>
            cases ent
            exact iteF (imp2 _ _ ⟨kvs, lo, _, _, _, _, _, _, rfl, pt, ⟨ovs, ho, oent⟩, hlt rfl⟩)
          | cons it lv =>
            obtain ⟨a, b, wd⟩ := it
            cases ent with
            | @cons _ x _ vs' hit ent =>
            have ne1 : (!(x :: vs').reverse.isEmpty) = true := by simp
            rw [ne1]
            refine iteT ⟨fun σ' H' => ∃ m', m' < 3 * (C.length - kvs.length) + ((⟨a, b, wd⟩ : It) :: lv).length ∧ ∃ (kvs : List (Pr × V)) (lv lo : List It) (v4 v8 v9 v10 v11 v12 : Option V), σ' = [some (.ref t), some (.int p), some (.int q), some (.ref rA), v4, some (.ref sA), some (.ref lA), some (.ref oA), v8, v9, v10, v11, v12] ∧ m' = 3 * (C.length - kvs.length) + lv.length ∧ PtAt C H0 H' rs p q sA lA kvs lv lo ∧ (∃ vs, H' oA = some (.lst vs) ∧ Paired (ItAt H') lo vs) ∧
              3 * (C.length - kvs.length) + lv.length + lo.length ≤ T0 ∧ (lv = [] → 3 * (C.length - kvs.length) + lo.length < T0), fun σ' H' z => z, ?_⟩
            obtain ⟨xa, pr, wA, ex, hxa, hpr, hwA⟩ := hit
            subst ex
            rw [List.reverse_cons] at hl
            rw [List.length_cons] at hle
            have few := pt.few
            rw [List.length_cons] at few
            have many := pt.many
            have inr := (pt.lrng _ (List.mem_append.mpr (.inl List.mem_cons_self))).1
            have wlen := (pt.lrng _ (List.mem_append.mpr (.inl List.mem_cons_self))).2
            obtain ⟨a0, a1, b0, b1⟩ := hC.rng _ inr
            have a0 : 0 ≤ a := a0
            have a1 : a < rs.length := a1
            have b0 : 0 ≤ b := b0
            have b1 : b < rs.length := b1
            have wlen : wd.length ≤ kvs.length := wlen
            -- pair, word
            refine seq_cut (fun σ' H' => σ' = [some (.ref t), some (.int p), some (.int q), some (.ref rA), w4, some (.ref sA), some (.ref lA), some (.ref oA), some (.ref pr), some (.ref wA), w10, w11, w12] ∧ H' = upd H4 lA (.lst vs'.reverse)) (fun nx3 imp3 => ?_) ?_
            · refine ⟨_, rfl, .inl ⟨rfl, _, SqL.of hl⟩, lA, _, .ref xa, rfl, rfl, hl, ?_, ?_⟩
              · rw [List.length_append, List.length_singleton, Nat.add_sub_cancel, List.getElem?_append_right (Nat.le_refl _)]
                simp
              · rw [List.dropLast_concat]
                refine ⟨xa, _, rfl, SqT.of ?_, rfl, _, _, rfl, _, _, rfl, rfl, imp3 _ _ ⟨rfl, rfl⟩⟩
                rw [upd_ne (fun z => by rw [z, hl] at hxa; cases hxa)]
                exact hxa
            rintro σ H5 ⟨rfl, eH5⟩
            have k5 : KeepT H4 H5 := by rw [eH5]; exact KeepT.upd hl
            have hl5 : H5 lA = some (.lst vs'.reverse) := by rw [eH5]; exact upd_same
            have hs5 : H5 sA = some (setQ sA kvs) := by rw [eH5, upd_ne pt.n0.2.2]; exact pt.set
            have ho5 : H5 oA = some (.lst ovs) := by rw [eH5, upd_ne nol]; exact ho
            have sm5 : Same H0 H5 := fun c u e => by
              rw [eH5, upd_ne (ne_of_none e pt.n0.2.1)]
              exact pt.same _ _ e
            have key5 : QKs H5 kvs := fun z hz => let ⟨b, e, g⟩ := pt.keys z hz; ⟨b, e, k5 _ _ g⟩
            clear eH5
            -- seen?
            refine seq_cut (fun σ' H' => σ' = [some (.ref t), some (.int p), some (.int q), some (.ref rA), w4, some (.ref sA), some (.ref lA), some (.ref oA), some (.ref pr), some (.ref wA), w10, w11, w12] ∧ H' = H5 ∧ (a, b) ∉ kvs.map (·.1)) (fun nx3 imp3 => ?_) ?_
            · refine ⟨_, rfl, _, rfl, sA, kvs, (a, b), rfl, hs5, key5, ⟨pr, rfl, k5 _ _ hpr⟩, _, rfl, ?_⟩
              by_cases hin : (a, b) ∈ kvs.map (·.1)
              · rw [decide_eq_true hin]
                refine iteT ⟨_, ?_, kvs, lv, lo, _, _, _, _, _, _, rfl, rfl, ?_, ⟨ovs, ho5, Paired.mapP oent fun _ _ z => z.keep k5⟩, by omega, fun z => ?_⟩
                · rw [List.length_cons]; omega
                · refine ⟨sm5, hs5, key5, ⟨vs', hl5, Paired.mapP ent fun _ _ z => z.keep k5⟩, pt.n0, pt.nd, pt.rng, fun z hz => pt.lrng z (List.mem_cons_of_mem _ hz), by omega, fun r hr => pt.run r (.seen hin hr)⟩
                · rw [z] at hle
                  simp only [List.length_nil] at hle
                  omega
              · rw [decide_eq_false hin]
                exact iteF (imp3 _ _ ⟨rfl, rfl, hin⟩)
            rintro σ H5' ⟨rfl, eH, hnin⟩
            subst eH
            have lk : kvs.length + 1 ≤ C.length := by
              have := nd_le (l := (a, b) :: kvs.map (·.1)) (m := C) (List.nodup_cons.mpr ⟨hnin, pt.nd⟩) fun x hx => by
                rcases List.mem_cons.mp hx with z | z
                · rw [z]; exact inr
                · exact pt.rng x z
              rw [List.length_cons, List.length_map] at this
              exact this
            -- add
            refine seq_cut (fun σ' H' => σ' = [some (.ref t), some (.int p), some (.int q), some (.ref rA), w4, some (.ref sA), some (.ref lA), some (.ref oA), some (.ref pr), some (.ref wA), w10, w11, w12] ∧ H' = upd H5' sA (setQ sA (((a, b), .ref pr) :: kvs))) (fun nx3 imp3 => ?_) ?_
            · exact ⟨_, rfl, ⟨sA, kvs, rfl, hs5⟩, _, rfl, sA, kvs, (a, b), .ref pr, rfl, rfl, hs5, key5, ⟨pr, rfl, k5 _ _ hpr⟩, by omega, hnin, imp3 _ _ ⟨rfl, rfl⟩⟩
            rintro σ H6 ⟨rfl, eH6⟩
            have k6 : KeepT H4 H6 := k5.trans (by rw [eH6]; exact KeepT.updD hs5 (fun xs z => nomatch z))
            have hl6 : H6 lA = some (.lst vs'.reverse) := by rw [eH6, upd_ne pt.n0.2.2.symm]; exact hl5
            have hs6 : H6 sA = some (setQ sA (((a, b), .ref pr) :: kvs)) := by rw [eH6]; exact upd_same
            have ho6 : H6 oA = some (.lst ovs) := by rw [eH6, upd_ne nos]; exact ho5
            have sm6 : Same H0 H6 := fun c u e => by
              rw [eH6, upd_ne (ne_of_none e pt.n0.1)]
              exact sm5 _ _ e
            clear eH6 hl5 hs5 ho5 sm5 key5
            obtain ⟨va, ra, ha1, ha2, ha3, ha4, ha5⟩ := rowAt a a0 a1
            obtain ⟨vb, rb, hb1, hb2, hb3, hb4, hb5⟩ := rowAt b b0 b1
            obtain ⟨aA, aT, aB, ays, rfl, ea1, ea2, ea3, ea4⟩ := ha4.at_
            obtain ⟨bA, bT, bB, bys, rfl, eb1, eb2, eb3, eb4⟩ := hb4.at_
            -- left, right
            refine seq_cut (fun σ' H' => σ' = [some (.ref t), some (.int p), some (.int q), some (.ref rA), w4, some (.ref sA), some (.ref lA), some (.ref oA), some (.ref pr), some (.ref wA), some (.ref aA), some (.ref bA), w12] ∧ Same H6 H') (fun nx3 imp3 => ?_) ?_
            · refine ⟨_, rfl, pr, rfl, ⟨_, SqT.of (k6 _ _ hpr)⟩, fun D0 hD0 => ?_⟩
              have hRA6 := sm6 _ _ hRA
              refine lc_tup (K := K) (a := pr) (xs := [V.int a, V.int b]) (fun i H7 => Same H6 H7 ∧ H7 D0 = some (.lst ([V.ref aA, V.ref bA].take i))) ⟨same_new hD0 _, upd_same⟩ (fun i H7 _ z => SqT.of (z.1 _ _ (k6 _ _ hpr))) ?_ ?_
              · rintro i x H7 hx ⟨s7, hd7⟩
                have go : ∀ (z : Int) (y : V), x = .int z → atI rvs z = some y → [V.ref aA, V.ref bA].take (i + 1) = [V.ref aA, V.ref bA].take i ++ [y] → ([V.ref aA, V.ref bA].take i).length ≤ 2 → ∃ v, x = v ∧ ∃ z, v = .int z ∧ ∃ y, atI rvs z = some y ∧ ∃ acc, H7 D0 = some (.lst acc) ∧ acc.length < sizeLine ∧ Same H6 (upd H7 D0 (.lst (acc ++ [y]))) ∧ (upd H7 D0 (.lst (acc ++ [y]))) D0 = some (.lst ([V.ref aA, V.ref bA].take (i + 1))) := fun z y e1 e2 e3 e4 => by
                  refine ⟨_, rfl, z, e1, y, e2, _, hd7, small1000 (by omega), ?_, by rw [upd_same, e3]⟩
                  intro c u e
                  rw [upd_ne (ne_of_none e hD0)]
                  exact s7 _ _ e
                have hyp : ∃ z y, x = .int z ∧ atI rvs z = some y ∧ [V.ref aA, V.ref bA].take (i + 1) = [V.ref aA, V.ref bA].take i ++ [y] := by
                  match i, hx with
                  | 0, hx => cases hx; exact ⟨a, _, rfl, ha1, rfl⟩
                  | 1, hx => cases hx; exact ⟨b, _, rfl, hb1, rfl⟩
                  | n + 2, hx => simp at hx
                obtain ⟨z, y, rfl, e2, e3⟩ := hyp
                have e4 : ([V.ref aA, V.ref bA].take i).length ≤ 2 := by rw [List.length_take]; exact Nat.min_le_right _ _
                refine ⟨rfl, _, rfl, _, rfl, rA, rvs, _, _, rfl, rfl, SqT.of (s7 _ _ hRA6), e2, _, hd7, small1000 (by omega), ?_, by rw [upd_same, e3]⟩
                intro c u e
                rw [upd_ne (ne_of_none e hD0)]
                exact s7 _ _ e
              · rintro H7 ⟨s7, hd7⟩
                exact ⟨D0, _, rfl, SqL.of hd7, rfl, _, _, rfl, _, _, rfl, rfl, imp3 _ _ ⟨rfl, s7⟩⟩
            rintro σ H7 ⟨rfl, s7⟩
            have sm7 := sm6.trans s7
            have sha := shaped_face hO (r := ra) (ordsM_ok ea3) (hG.pl _ ha5)
            have shb := shaped_face hO (r := rb) (ordsM_ok eb3) (hG.pl _ hb5)
            -- faces
            refine seq_cut (fun σ' H' => σ' = [some (.ref t), some (.int p), some (.int q), some (.ref rA), w4, some (.ref sA), some (.ref lA), some (.ref oA), some (.ref pr), some (.ref wA), some (.ref aA), some (.ref bA), w12] ∧ Same H6 H' ∧ face ra = face rb) (fun nx3 imp3 => ?_) ?_
            · refine ⟨_, rfl, aA, o, ra, rfl, ha4.keep (KeepT.of sm7), fun t1 H8 s8 tp1 => ⟨_, rfl, bA, o, rb, rfl, hb4.keep (KeepT.of (sm7.trans s8)), fun t2 H9 s9 tp2 => ?_⟩⟩
              refine ⟨_, _, (tp1.keep (KeepT.of s9)).dp, tp2.dp, sha.1, shb.1, _, rfl, ?_⟩
              rw [faceB_tup]
              have s79 := s7.trans (s8.trans s9)
              by_cases hf : face ra = face rb
              · rw [faceB_iff.mpr hf]
                exact iteF (imp3 _ _ ⟨rfl, s79, hf⟩)
              · rw [show faceB ra rb = false from Bool.eq_false_iff.mpr fun z => hf (faceB_iff.mp z)]
                exact iteT ⟨_, rfl, qq (some wd) _ _ (sm6.trans s79) (pt.run _ (.found hnin ha3 hb3 hf)) (fun w e => by cases e; omega) ⟨wA, rfl, s79 _ _ (k6 _ _ hwA)⟩⟩
            rintro σ H8 ⟨rfl, s8, hf⟩
            clear s7 sm7 H7
            have sm8 := sm6.trans s8
            have tl : (tgts ra.2).length = (tgts rb.2).length := by
              rcases face_cases hf with ⟨cs, h1, h2⟩ | ⟨cs, j, k, h1, h2⟩ | ⟨cs, c, j, k, j', k', h1, h2⟩ <;> first | (rw [h1, h2]; done) | (rw [h1, h2]; rfl)
            have tl2 : (tgts ra.2).length ≤ 2 := by cases ra.2 <;> simp [tgts]
            -- behind
            refine seq_cut (fun σ' H' => ∃ (zA : Addr) (ps : List V), σ' = [some (.ref t), some (.int p), some (.int q), some (.ref rA), w4, some (.ref sA), some (.ref lA), some (.ref oA), some (.ref pr), some (.ref wA), some (.ref aA), some (.ref bA), some (.ref zA)] ∧ Same H6 H' ∧ H' zA = some (.lst ps) ∧ Paired (PairV H') (((tgts ra.2).map V.int).zip ((tgts rb.2).map V.int)) ps) (fun nx3 imp3 => ?_) ?_
            · refine ⟨_, rfl, aA, _, _, _, rfl, rfl, SqT.of (sm8 _ _ ea1), atOne, aB, ra.2, rfl, ea4.keep (KeepT.of sm8), fun c1 H9 s9 hc1 => ?_⟩
              refine ⟨_, rfl, bA, _, _, _, rfl, rfl, SqT.of (s9 _ _ (sm8 _ _ eb1)), atOne, bB, rb.2, rfl, eb4.keep (KeepT.of (sm8.trans s9)), fun c2 H10 s10 hc2 => ?_⟩
              refine ⟨c1, c2, _, _, rfl, SqT.of (s10 _ _ hc1), SqT.of hc2, by rw [List.length_map, List.length_map]; exact tl, by rw [List.length_map]; omega, fun c H11 ps s11 hc pz => imp3 _ _ ⟨c, ps, rfl, s8.trans (s9.trans (s10.trans s11)), hc, pz⟩⟩
            rintro σ H9 ⟨zA, ps, rfl, s9, hz9, pz⟩
            clear s8 sm8 H8
            have sm9 := sm6.trans s9
            have k9 := k6.trans (KeepT.of s9)
            have ent9 := Paired.mapP ent fun _ _ z => ItAt.keep k9 z
            have oent9 := Paired.mapP oent fun _ _ z => ItAt.keep k9 z
            have rest : ∀ z ∈ lv ++ lo, InC C z ∧ z.w.length ≤ kvs.length + 1 := fun z hz => by
              obtain ⟨x1, x2⟩ := pt.lrng z (List.mem_cons_of_mem _ hz)
              exact ⟨x1, by omega⟩
            have tga : ∀ z ∈ tgts ra.2, 0 ≤ z ∧ z < rs.length := hG.tg _ _ ha2
            have tgb : ∀ z ∈ tgts rb.2, 0 ≤ z ∧ z < rs.length := hG.tg _ _ hb2
            have go1 : (V.str (Str.ofString "go") = V.str (Str.ofString "test")) → False := fun z => absurd (V.str.inj z) go_end.2.2.2.2.2
            rcases face_cases hf with ⟨cs, h1, h2⟩ | ⟨cs, j, k, h1, h2⟩ | ⟨cs, c, j, k, j', k', h1, h2⟩
            · -- the end
              rw [h1] at ea4
              have hb := onw_fin ea4
              refine seq_cut (fun σ' H' => σ' = [some (.ref t), some (.int p), some (.int q), some (.ref rA), w4, some (.ref sA), some (.ref lA), some (.ref oA), some (.ref pr), some (.ref wA), some (.ref aA), some (.ref bA), some (.ref zA)] ∧ H' = H9) (fun nx3 imp3 => ?_) ?_
              · refine ⟨_, rfl, aA, _, _, _, rfl, rfl, SqT.of (sm9 _ _ ea1), atOne, aB, _, _, _, rfl, rfl, SqT.of (sm9 _ _ hb), at0, rfl, _, rfl, ?_⟩
                exact ite2 (fun z => absurd (V.str.inj (of_decide_eq_true z)) go_end.2.2.2.1) fun _ => imp3 _ _ ⟨rfl, rfl⟩
              rintro σ H10 ⟨rfl, eH⟩
              subst eH
              refine ⟨_, rfl, aA, _, _, _, rfl, rfl, SqT.of (sm9 _ _ ea1), atOne, aB, _, _, _, rfl, rfl, SqT.of (sm9 _ _ hb), at0, rfl, _, rfl, ?_⟩
              refine ite2 (fun z => absurd (V.str.inj (of_decide_eq_true z)) go_end.2.2.2.2.1) fun _ => ?_
              refine ⟨_, ?_, _, lv, lo, _, _, _, _, _, _, rfl, rfl, pt.more hnin hpr sm9 k9 (s9 _ _ hs6) ⟨vs', s9 _ _ hl6, ent9⟩ rest (by omega) (fun r hr => .fin hnin (by rw [ha3, h1]) (by rw [hb3, h2]) hr), ⟨ovs, s9 _ _ ho6, oent9⟩, ?_, fun z => ?_⟩
              · simp only [List.length_cons]; omega
              · simp only [List.length_cons]; omega
              · rw [z] at hle
                simp only [List.length_cons, List.length_nil] at hle ⊢
                omega
            · -- on
              rw [h1] at ea4 pz tga
              rw [h2] at pz tgb
              have hb := onw_go ea4
              have hj := tga j List.mem_cons_self
              have hk := tgb k List.mem_cons_self
              have pw : Paired (PairV H9) [(V.int j, V.int k)] ps := pz
              clear pz
              cases pw with
              | cons hy pw =>
              cases pw
              obtain ⟨yA, rfl, hyA⟩ := hy
              refine seq_cut (fun σ' H' => ∃ nA : Addr, σ' = [some (.ref t), some (.int p), some (.int q), some (.ref rA), w4, some (.ref sA), some (.ref lA), some (.ref oA), some (.ref pr), some (.ref wA), some (.ref aA), some (.ref bA), some (.ref zA)] ∧ H9 nA = none ∧ H' = upd (upd H9 nA (.tup [.ref yA, .ref wA])) lA (.lst (vs'.reverse ++ [.ref nA]))) (fun nx3 imp3 => ?_) ?_
              · refine ⟨_, rfl, aA, _, _, _, rfl, rfl, SqT.of (sm9 _ _ ea1), atOne, aB, _, _, _, rfl, rfl, SqT.of (sm9 _ _ hb), at0, rfl, _, rfl, ?_⟩
                refine ite2 (fun _ => ?_) fun z => absurd (decide_eq_true rfl) z
                refine ⟨_, rfl, .inl ⟨rfl, _, SqL.of (s9 _ _ hl6)⟩, _, rfl, zA, _, _, _, rfl, rfl, SqL.of hz9, at0, _, rfl, (by show 2 ≤ sizeLine; decide), fun nA hnA => ?_⟩
                have sn := same_new hnA (.tup [V.ref yA, V.ref wA])
                have vl : vs'.length = lv.length := ent.length.symm
                exact ⟨lA, _, _, rfl, rfl, sn _ _ (s9 _ _ hl6), small1500 (by rw [List.length_reverse]; omega), imp3 _ _ ⟨nA, rfl, hnA, rfl⟩⟩
              rintro σ H10 ⟨nA, rfl, hnA, eH⟩
              have sn := same_new hnA (.tup [V.ref yA, V.ref wA])
              have kn : KeepT H9 H10 := by rw [eH]; exact (KeepT.of sn).trans (KeepT.upd (sn _ _ (s9 _ _ hl6)))
              have nln : nA ≠ lA := fun z => by rw [z, s9 _ _ hl6] at hnA; cases hnA
              have sm10 : Same H0 H10 := fun c u e => by
                rw [eH, upd_ne (ne_of_none e pt.n0.2.1)]
                exact sn _ _ (sm9 _ _ e)
              have hs10 : H10 sA = some (setQ sA (((a, b), .ref pr) :: kvs)) := by rw [eH, upd_ne pt.n0.2.2]; exact sn _ _ (s9 _ _ hs6)
              have ho10 : H10 oA = some (.lst ovs) := by rw [eH, upd_ne nol]; exact sn _ _ (s9 _ _ ho6)
              have hl10 : H10 lA = some (.lst (V.ref nA :: vs').reverse) := by rw [eH, upd_same, List.reverse_cons]
              have hn10 : H10 nA = some (.tup [.ref yA, .ref wA]) := by rw [eH, upd_ne nln]; exact upd_same
              clear eH
              refine ⟨_, rfl, aA, _, _, _, rfl, rfl, SqT.of (sm10 _ _ ea1), atOne, aB, _, _, _, rfl, rfl, SqT.of (sm10 _ _ hb), at0, rfl, _, rfl, ?_⟩
              refine ite2 (fun z => absurd (V.str.inj (of_decide_eq_true z)) go_end.2.2.2.2.2) fun _ => ?_
              refine ⟨_, ?_, _, ⟨j, k, wd⟩ :: lv, lo, _, _, _, _, _, _, rfl, rfl, pt.more hnin hpr sm10 (k9.trans kn) hs10 ⟨_, hl10, .cons ⟨nA, yA, wA, rfl, hn10, kn _ _ hyA, (k9.trans kn) _ _ hwA⟩ (Paired.mapP ent9 fun _ _ z => z.keep kn)⟩ (fun z hz => ?_) (by simp only [List.length_cons]; omega) (fun r hr => .go hnin (by rw [ha3, h1]) (by rw [hb3, h2]) hr), ⟨ovs, ho10, Paired.mapP oent9 fun _ _ z => z.keep kn⟩, ?_, fun z => nomatch z⟩
              · simp only [List.length_cons]; omega
              · rcases List.mem_cons.mp hz with z1 | z1
                · rw [z1]
                  exact ⟨hC.go _ _ _ _ _ inr (by rw [ha3, h1]) (by rw [hb3, h2]), by show wd.length ≤ _; omega⟩
                · exact rest z z1
              · simp only [List.length_cons]; omega
            · -- a test
              rw [h1] at ea4 pz tga
              rw [h2] at pz tgb
              obtain ⟨plA, hb, _⟩ := onw_test ea4
              have hj := tga j List.mem_cons_self
              have hk := tga k (List.mem_cons_of_mem _ List.mem_cons_self)
              have hj' := tgb j' List.mem_cons_self
              have hk' := tgb k' (List.mem_cons_of_mem _ List.mem_cons_self)
              have pw : Paired (PairV H9) [(V.int j, V.int j'), (V.int k, V.int k')] ps := pz
              clear pz
              cases pw with
              | cons hy pw =>
              cases pw with
              | cons hy2 pw =>
              cases pw
              obtain ⟨yA, rfl, hyA⟩ := hy
              obtain ⟨yB, rfl, hyB⟩ := hy2
              refine seq_cut (fun σ' H' => σ' = [some (.ref t), some (.int p), some (.int q), some (.ref rA), w4, some (.ref sA), some (.ref lA), some (.ref oA), some (.ref pr), some (.ref wA), some (.ref aA), some (.ref bA), some (.ref zA)] ∧ H' = H9) (fun nx3 imp3 => ?_) ?_
              · refine ⟨_, rfl, aA, _, _, _, rfl, rfl, SqT.of (sm9 _ _ ea1), atOne, aB, _, _, _, rfl, rfl, SqT.of (sm9 _ _ hb), at0, rfl, _, rfl, ?_⟩
                exact ite2 (fun z => absurd (V.str.inj (of_decide_eq_true z)) go_end.2.2.1) fun _ => imp3 _ _ ⟨rfl, rfl⟩
              rintro σ H10 ⟨rfl, eH⟩
              subst eH
              refine ⟨_, rfl, aA, _, _, _, rfl, rfl, SqT.of (sm9 _ _ ea1), atOne, aB, _, _, _, rfl, rfl, SqT.of (sm9 _ _ hb), at0, rfl, _, rfl, ?_⟩
              refine ite2 (fun _ => ?_) fun z => absurd (decide_eq_true rfl) z
              have hw9 := k9 _ _ hwA
              have wl2 : (wd.map V.bl).length + 1 ≤ 2000 := by rw [List.length_map]; omega
              refine ⟨_, rfl, _, rfl, zA, _, _, _, rfl, rfl, SqL.of hz9, atOne, _, rfl, (by show 1 ≤ sizeLine; decide), fun f1 hf1 => ?_⟩
              have t1 := same_new hf1 (.tup [V.bl false])
              refine ⟨wA, f1, _, _, rfl, rfl, t1 _ _ hw9, upd_same, wl2, fun c1 H11 t2 hc1 => ⟨(by show 2 ≤ sizeLine; decide), fun i1 hi1 => ?_⟩⟩
              have t3 := same_new hi1 (.tup [V.ref yB, V.ref c1])
              have t13 := t1.trans (t2.trans t3)
              refine ⟨_, rfl, zA, _, _, _, rfl, rfl, SqL.of (t13 _ _ hz9), at0, _, rfl, (by show 1 ≤ sizeLine; decide), fun f2 hf2 => ?_⟩
              have t4 := same_new hf2 (.tup [V.bl true])
              refine ⟨wA, f2, _, _, rfl, rfl, t4 _ _ (t13 _ _ hw9), upd_same, wl2, fun c2 H12 t5 hc2 => ⟨(by show 2 ≤ sizeLine; decide), fun i2 hi2 => ?_⟩⟩
              have t6 := same_new hi2 (.tup [V.ref yA, V.ref c2])
              refine ⟨(by show 2 ≤ sizeLine; decide), fun nA hnA => ?_⟩
              have t7 := same_new hnA (.lst [V.ref i1, V.ref i2])
              have t17 := t13.trans (t4.trans (t5.trans (t6.trans t7)))
              have ol : ovs.length = lo.length := oent.length.symm
              have ho13 := t17 _ _ (s9 _ _ ho6)
              refine ⟨oA, nA, _, _, rfl, rfl, ho13, upd_same, Nat.le_of_lt (small1500 (by show ovs.length + 2 ≤ 1500; omega)), ?_⟩
              have kn : KeepT H10 (upd (upd (upd H12 i2 (.tup [V.ref yA, V.ref c2])) nA (.lst [V.ref i1, V.ref i2])) oA (.lst (ovs ++ [V.ref i1, V.ref i2]))) := (KeepT.of t17).trans (KeepT.upd ho13)
              have k37 : KeepT (upd H11 i1 (.tup [V.ref yB, V.ref c1])) (upd (upd (upd H12 i2 (.tup [V.ref yA, V.ref c2])) nA (.lst [V.ref i1, V.ref i2])) oA (.lst (ovs ++ [V.ref i1, V.ref i2]))) := (KeepT.of (t4.trans (t5.trans (t6.trans t7)))).trans (KeepT.upd ho13)
              have k67 : KeepT (upd H12 i2 (.tup [V.ref yA, V.ref c2])) (upd (upd (upd H12 i2 (.tup [V.ref yA, V.ref c2])) nA (.lst [V.ref i1, V.ref i2])) oA (.lst (ovs ++ [V.ref i1, V.ref i2]))) := (KeepT.of t7).trans (KeepT.upd ho13)
              have hc1' : ∀ x, H11 c1 = some x → (upd H11 i1 (.tup [V.ref yB, V.ref c1])) c1 = some x := fun x e => t3 _ _ e
              have hc2' : ∀ x, H12 c2 = some x → (upd H12 i2 (.tup [V.ref yA, V.ref c2])) c2 = some x := fun x e => t6 _ _ e
              have em : ∀ (l : List Bool) (b : Bool), l.map V.bl ++ [V.bl b] = (l ++ [b]).map V.bl := fun l b => by rw [List.map_append]; rfl
              rw [em] at hc1 hc2
              generalize hHf : upd (upd (upd H12 i2 (.tup [V.ref yA, V.ref c2])) nA (.lst [V.ref i1, V.ref i2])) oA (.lst (ovs ++ [V.ref i1, V.ref i2])) = Hf at kn k37 k67 ⊢
              have smf : Same H0 Hf := fun c u e => by
                rw [← hHf, upd_ne (ne_of_none e ho0)]
                exact t17 _ _ (sm9 _ _ e)
              have hsf : Hf sA = some (setQ sA (((a, b), .ref pr) :: kvs)) := by rw [← hHf, upd_ne nos.symm]; exact t17 _ _ (s9 _ _ hs6)
              have hlf : Hf lA = some (.lst vs'.reverse) := by rw [← hHf, upd_ne nol.symm]; exact t17 _ _ (s9 _ _ hl6)
              have hof : Hf oA = some (.lst (ovs ++ [V.ref i1, V.ref i2])) := by rw [← hHf, upd_same]
              refine ⟨_, ?_, _, lv, lo ++ [⟨k, k', wd ++ [false]⟩, ⟨j, j', wd ++ [true]⟩], _, _, _, _, _, _, rfl, rfl, pt.more hnin hpr smf (k9.trans kn) hsf ⟨vs', hlf, Paired.mapP ent9 fun _ _ z => z.keep kn⟩ (fun z hz => ?_) (by simp only [List.length_append, List.length_cons, List.length_nil]; omega) (fun r hr => .test hnin (by rw [ha3, h1]) (by rw [hb3, h2]) hr), ⟨_, hof, ?_⟩, ?_, fun z => ?_⟩
              · simp only [List.length_cons]; omega
              · rw [← List.append_assoc] at hz
                rcases List.mem_append.mp hz with z1 | z1
                · exact rest z z1
                rcases List.mem_cons.mp z1 with z1 | z1
                · rw [z1]
                  exact ⟨(hC.test _ _ _ _ _ _ _ _ inr (by rw [ha3, h1]) (by rw [hb3, h2])).2, by show (wd ++ [false]).length ≤ _; rw [List.length_append, List.length_singleton]; omega⟩
                · rw [List.mem_singleton.mp z1]
                  exact ⟨(hC.test _ _ _ _ _ _ _ _ inr (by rw [ha3, h1]) (by rw [hb3, h2])).1, by show (wd ++ [true]).length ≤ _; rw [List.length_append, List.length_singleton]; omega⟩
              · refine paired_snoc2 (Paired.mapP oent9 fun _ _ z => z.keep kn) ⟨i1, yB, c1, rfl, k37 _ _ upd_same, kn _ _ hyB, k37 _ _ (hc1' _ hc1)⟩ ⟨i2, yA, c2, rfl, k67 _ _ upd_same, kn _ _ hyA, k67 _ _ (hc2' _ hc2)⟩
              · simp only [List.length_append, List.length_cons, List.length_nil]; omega
              · rw [z] at hle
                simp only [List.length_append, List.length_cons, List.length_nil] at hle ⊢
                omega
        -- the next level
        rintro σ H6 ⟨kvs, lo, w4, w8, w9, w10, w11, w12, rfl, pt, ⟨ovs, ho, oent⟩, hlt⟩
        refine ⟨_, rfl, _, rfl, oA, ovs, -1, rfl, rfl, .inr rfl, SqL.of ho, fun nA hnA => ?_⟩
        have sn := same_new hnA (.lst (if (-1 : Int) = 1 then ovs else ovs.reverse))
        refine ⟨_, ?_, nA, kvs, lo, _, _, _, _, _, _, _, rfl, rfl, ⟨pt.same.trans sn, sn _ _ pt.set, fun z hz => let ⟨b, e, g⟩ := pt.keys z hz; ⟨b, e, sn _ _ g⟩, ⟨ovs, ?_, Paired.mapP oent fun _ _ z => z.keep (KeepT.of sn)⟩, ⟨pt.n0.1, pt.same.free hnA, fun z => ?_⟩, pt.nd, pt.rng, fun z hz => pt.lrng z (by rw [List.append_nil] at hz; exact hz), ?_, fun r hr => pt.run r ?_⟩⟩
        · exact hlt
        · rw [upd_same]
          rfl
        · rw [← z, pt.set] at hnA
          cases hnA
        · have := pt.few
          simp only [List.length_nil] at this ⊢
          omega
        · by_cases hlo : lo = []
          · subst hlo
            exact hr
          · exact .next hlo hr
      rintro σ H4 ⟨s4, hpb⟩
      exact qq none _ _ s4 hpb (fun w e => nomatch e) rfl
end
end My
set_option Elab.async false
set_option linter.all false
set_option maxRecDepth 100000
set_option maxHeartbeats 4000000
namespace My
open PySem L2 TL Sx
theorem tpall_dp {H : Hp} {K : PySem.W.Frag} : ∀ {xs : List V} {ds : List PyData}, TpAll H xs ds → DpAll K H xs ds
  | _, _, .nil => .nil
  | _, _, .cons a r => .cons a.dp (tpall_dp r)
end My
set_option Elab.async false
set_option linter.all false
set_option maxRecDepth 100000
set_option maxHeartbeats 4000000
namespace L2
open PySem PySem.Spec PyProof.Rows
theorem vals_of_get : ∀ {xs : List V} {us : List Value}, xs.length = us.length → (∀ (i : Nat) (w : Value), us[i]? = some w → ∃ x, xs[i]? = some x ∧ RelV x w) → Vals xs us
  | [], [], _, _ => .nil
  | [], _ :: _, h, _ => by cases h
  | _ :: _, [], h, _ => by cases h
  | x :: xs, u :: us, h, g => by
    refine .cons ?_ (vals_of_get (Nat.succ.inj h) fun i w hw => ?_)
    · obtain ⟨y, hy, r⟩ := g 0 u rfl
      cases hy
      exact r
    · obtain ⟨y, hy, r⟩ := g (i + 1) w (by simpa using hw)
      exact ⟨y, by simpa using hy, r⟩
section
variable {X : Cx}
/-- list(a range) -/
theorem call_list_rng (hc : X.calm = true) : CallR X (.type "list") (fun xs H Q => ∃ (p : Addr) (n : Int), xs = [.ref p] ∧ H p = some (.rng 0 n) ∧ 0 ≤ n ∧ n ≤ 1000 ∧ ∀ l, H l = none → Q (.ref l) (upd H l (.lst ((List.range n.toNat).map fun i => V.int (i : Nat))))) := by
  intro pins s σ H xs us Q I r h
  obtain ⟨p, n, rfl, hp, h0, hn, q⟩ := h
  obtain ⟨u, rfl, rx⟩ := vals1 r
  cases rx
  obtain ⟨t, u, v, e⟩ := (show ObjOk X.prog X.w H s.heap p (.rng 0 n) from I.hok p _ hp)
  refine call_list_range (n := n.toNat) (I.ok.hd hc) e (small_one (by decide) (by decide) (by omega) (by omega)) (by rw [rangeSize_one]; split <;> omega) (by omega) fun h' tk acc' c' hk hS hacc => ?_
  refine ⟨.ref s.heap.objs.size, _, I.laid (t' := tk) hk (Nat.le_refl _) (show ObjOk X.prog X.w _ h' _ (.lst ((List.range n.toNat).map fun i => V.int (i : Nat))) from ⟨?_, acc'.toList, c', ?_, by simpa using hS⟩), rfl, q _ (I.hok.fresh (Nat.le_refl _))⟩
  · rw [List.length_map, List.length_range]
    exact Nat.le_of_lt (small1000 (by omega))
  · refine vals_of_get (by simp [hacc.1]) fun i w hw => ?_
    obtain ⟨t, rfl⟩ := hacc.2 i w (by simpa using hw)
    have hi : i < n.toNat := by
      have := (List.getElem?_eq_some_iff.mp hw).1
      simp [hacc.1] at this
      omega
    refine ⟨.int (i : Nat), by rw [List.getElem?_map, List.getElem?_range hi]; rfl, t, ?_⟩
    simp
end
end L2
set_option Elab.async false
set_option linter.all false
set_option maxRecDepth 100000
set_option maxHeartbeats 2000000
namespace My
open PySem L2 TL Sx
abbrev sUnlike : Stmt := top 30
/-- the mark of a row, in the list at D -/
def MkAt (D : Addr) (H : Hp) (r : List Ordr × Onw) (m : V) : Prop := ∃ (mA tA lA : Addr) (ys xs : List V), m = .ref mA ∧ lA ≠ D ∧ H mA = some (.tup [.ref tA, .ref lA]) ∧ H tA = some (.tup ys) ∧ TpAll H ys (r.1.map ordD) ∧ H lA = some (.lst xs) ∧ TpAll H xs (partsD r.2)
theorem MkAt.keep {D : Addr} {H H' : Hp} {r : List Ordr × Onw} {m : V} (h : MkAt D H r m) (k : KeepT H H') (e : ∀ b xs, b ≠ D → H b = some (.lst xs) → H' b = some (.lst xs)) : MkAt D H' r m := by
  obtain ⟨mA, tA, lA, ys, xs, e1, e2, e3, e4, e5, e6, e7⟩ := h
  exact ⟨mA, tA, lA, ys, xs, e1, e2, k _ _ e3, k _ _ e4, TpAll.keep k e5, e _ _ e2 e6, TpAll.keep k e7⟩
theorem MkAt.dp {K : PySem.W.Frag} {D : Addr} {H : Hp} {r : List Ordr × Onw} {m : V} (h : MkAt D H r m) : Dp K H m (faceD .list r) := by
  obtain ⟨mA, tA, lA, ys, xs, rfl, e2, e3, e4, e5, e6, e7⟩ := h
  exact .tup (SqT.of e3) (.cons (.tup (SqT.of e4) (tpall_dp e5)) (.cons (.lst (SqL.of e6) (tpall_dp e7)) .nil))
def spUnlike : Sp := fun vs H Q _ => ∃ (a b : Addr) (o : OwnD) (ra rb : List Ordr × Onw), vs = [.ref a, .ref b] ∧ OwnOk o ∧ RowAt o H (.ref a) ra ∧ RowAt o H (.ref b) rb ∧ PlcT o ra.2 ∧ PlcT o rb.2 ∧ ∀ H', Same H H' → Q (.bl (!faceB ra rb)) H'
abbrev NUn : List Str := ["this", "that", "marks", "orders", "onward", "part"]
theorem ordsM_okA {o : OwnD} {H : Hp} : ∀ {cs : List Ordr} {ys : List V}, OrdsM o H cs ys → ∀ c ∈ cs, OrdOk o c
  | _, _, .nil => fun c hc => nomatch hc
  | _, _, .cons r t => fun c hc => by
    rcases List.mem_cons.mp hc with z | z
    · rw [z]; exact r.2
    · exact ordsM_okA t c z
section
variable {P : Program} {w : World} {K : PySem.W.Frag} {mg : Str → Option Value} {base : Heap}
theorem scUnlike : FnScope NUn ["this", "that"] (defScope sUnlike) := ⟨rfl, rfl, rfl, by decide +kernel, rfl, by decide +kernel, by decide +kernel⟩
abbrev nonI (x : V) : Bool := match x with | .int _ => false | _ => true
theorem ok_unlike {f : Addr} {fd : FuncData} (F : Fun K "_law_is_unlike" "_law_is_unlike" sUnlike f fd) (B : Bl mg) : FnOk P w K mg base CX0 1 f fd ["this", "that"] spUnlike := by
  refine F.ok scUnlike (fun vs H Q E h => ?_) (fun cdv A outer s H vs Q E hr h => ?_)
  · obtain ⟨a, b, o, ra, rb, rfl, _⟩ := h
    rfl
  · obtain ⟨a, b, o, ra, rb, rfl, hO, hA, hB, pA, pB, q⟩ := h
    refine ⟨_, pss_cons (ps_setLc (i := 2) (own := [("orders", 3), ("onward", 4)]) (g := gTup K 2 (gCons (gName 3) (gCons (gName 4) gNil)))
        (te := tTup (tCons (tVar 3) (tCons (tLc (iTup K (tVar 4)) (gName 5) (tNot (tB (tCB (rIsiK K) (tCons (tVar 5) (tCons (tC (.ty "int")) tNil))))) (tVar 5) [5]) tNil))) (by rfl) scUnlike.nd rfl rfl (sw_true (by rfl) (by rfl) (by rfl) (by rfl)) (pi_list (pe_lst (pa_cons (pv 0) (pa_cons (pv 1) pa_nil)))) (blkOk_by (own := [("orders", 3), ("onward", 4)]) (N := NUn) (sc := defScope sUnlike) (by decide +kernel))
        (fun _ _ _ _ _ => pg_tup (by rfl) (pgs_cons (pg_name (i := 3) scUnlike.nd rfl (Or.inl rfl)) (pgs_cons (pg_name (i := 4) scUnlike.nd rfl (Or.inl rfl)) pgs_nil))) (fun _ _ _ _ _ => pts_nil)
        (fun _ _ _ _ _ => pe_tup (pa_cons (pv 3) (pa_cons (pe_lc (own := [("part", 5)]) (g := gName 5) (tt := tNot (tB (tCB (rIsiK K) (tCons (tVar 5) (tCons (tC (.ty "int")) tNil))))) (te := tVar 5) (by rfl) scUnlike.nd (pi_tup (pv 4)) (blkOk_by (own := [("part", 5)]) (N := NUn) (sc := { kind := .function, names := [(Str.ofString ".0", .local), (Str.ofString "orders", .local), (Str.ofString "onward", .local)], isGenerator := false, isCoroutine := false }) (by decide +kernel)) (fun _ _ _ _ _ => pg_name (i := 5) scUnlike.nd rfl (Or.inl rfl))
          (fun _ _ _ _ _ => pts_one (pt_not (pt_val (pe_callB call_isi (by rfl) B.isi (by decide +kernel) (pa_cons (pv 5) (pa_cons (pe_bltn (v := .ty "int") (by rfl) B.int (by decide +kernel) rfl) pa_nil)))))) (fun _ _ _ _ _ => pv 5)) pa_nil))))
      (pss_one (ps_ret (pe_cmpR (op_neD hr.units) (pe_ix ix_list (pv 2) pe_int (fun _ _ => rfl)) (pe_ix ix_list (pv 2) pe_int (fun _ _ => rfl)) (nomark _)))), ?read⟩
    case read =>
      refine seq_cut (fun σ' H' => ∃ (D : Addr) (m1 m2 : V), σ' = [some (.ref a), some (.ref b), some (.ref D), none, none, none] ∧ Same H H' ∧ H' D = some (.lst [m1, m2]) ∧ MkAt D H' ra m1 ∧ MkAt D H' rb m2) (fun nx imp => ?_) ?_
      · refine ⟨_, rfl, _, rfl, (by show 2 ≤ sizeLine; decide), fun c hc => ⟨c, rfl, ⟨_, SqL.of upd_same⟩, fun D0 hD0 => ?_⟩⟩
        have sc := same_new hc (.lst [V.ref a, V.ref b])
        have hD1 : H D0 = none := sc.free hD0
        have ncD : c ≠ D0 := fun z => by rw [z, upd_same] at hD0; cases hD0
        refine lc_list (xs := [V.ref a, V.ref b]) (fun i H2 => ∃ ms : List V, Same (upd H c (.lst [V.ref a, V.ref b])) H2 ∧ H2 D0 = some (.lst ms) ∧ Paired (MkAt D0 H2) ([ra, rb].take i) ms) ⟨[], same_new hD0 _, upd_same, .nil⟩ (fun i H2 _ h => by obtain ⟨_, s2, _⟩ := h; exact SqL.of (s2 _ _ upd_same)) ?_ ?_
        · rintro i x H2 hx ⟨ms, s2, hd2, hm⟩
          obtain ⟨xA, r, rfl, hrow, er, hi⟩ : ∃ (xA : Addr) (r : List Ordr × Onw), x = .ref xA ∧ RowAt o H (.ref xA) r ∧ [ra, rb].take (i + 1) = [ra, rb].take i ++ [r] ∧ i < 2 := by
            match i, hx with
            | 0, hx => cases hx; exact ⟨a, ra, rfl, hA, rfl, by decide⟩
            | 1, hx => cases hx; exact ⟨b, rb, rfl, hB, rfl, by decide⟩
            | n + 2, hx => simp at hx
          obtain ⟨a', t', b', ys, ea, h1, h2, h3, h4⟩ := (hrow.keep (KeepT.of (sc.trans s2))).at_
          cases ea
          obtain ⟨xs, hb, hx4, hk, _, hf⟩ := onw_parts h4
          have ml : ms.length ≤ 2 := by
            rw [← hm.length, List.length_take]
            exact Nat.le_trans (Nat.min_le_left _ _) (by omega)
          refine ⟨xA, _, rfl, SqT.of h1, rfl, _, _, rfl, _, _, rfl, rfl, rfl, _, rfl, _, rfl, b', rfl, ⟨_, SqT.of hb⟩, fun D1 hD1 => ?_⟩
          have nD : D1 ≠ D0 := (ne_of_none hd2 hD1).symm
          refine lc_tup (K := K) (a := b') (xs := xs) (fun j H3 => Same H2 H3 ∧ H3 D1 = some (.lst ((xs.take j).filter nonI))) ⟨same_new hD1 _, upd_same⟩ (fun j H3 _ z => SqT.of (z.1 _ _ hb)) ?_ ?_
          · rintro j y H3 hy ⟨s3, hd3⟩
            have ll : ((xs.take j).filter nonI).length ≤ 4 := by
              have := List.length_filter_le nonI (xs.take j)
              rw [List.length_take] at this
              omega
            refine ⟨rfl, ?_⟩
            have same3 : ∀ y, Same H2 (upd H3 D1 (.lst ((xs.take j).filter nonI ++ [y]))) := fun y c u ee => by
              rw [upd_ne (ne_of_none ee hD1)]
              exact s3 _ _ ee
            rcases hk y (List.mem_of_getElem? hy) with ⟨z, rfl⟩ | ⟨z, rfl⟩ | ⟨z, zs, rfl, ez⟩
            · refine ⟨_, rfl, _, _, _, true, rfl, .int _, kitII, _, rfl, iteF ⟨s3, ?_⟩⟩
              rw [hd3, List.take_add_one, hy, List.filter_append]
              exact congrArg (fun l => some (HO.lst l)) (List.append_nil _).symm
            · refine ⟨_, rfl, _, _, _, false, rfl, .str _, kitSI, _, rfl, iteT ⟨_, rfl, _, hd3, small1000 (by omega), same3 _, ?_⟩⟩
              rw [upd_same, List.take_add_one, hy, List.filter_append]
              rfl
            · refine ⟨_, rfl, _, _, _, false, rfl, .tup (s3 _ _ ez), kitTI, _, rfl, iteT ⟨_, rfl, _, hd3, small1000 (by omega), same3 _, ?_⟩⟩
              rw [upd_same, List.take_add_one, hy, List.filter_append]
              rfl
          · rintro H3 ⟨s3, hd3⟩
            rw [List.take_length] at hd3
            refine ⟨(by show 2 ≤ sizeLine; decide), fun p hp => ?_⟩
            have s4 := s3.trans (same_new hp (.tup [V.ref t', V.ref D1]))
            have hd4 := s4 _ _ hd2
            have kU : KeepT (upd H3 p (.tup [V.ref t', V.ref D1])) (upd (upd H3 p (.tup [V.ref t', V.ref D1])) D0 (.lst (ms ++ [.ref p]))) := KeepT.upd hd4
            have k24 := (KeepT.of s4).trans kU
            have pD : p ≠ D0 := fun z => by rw [z, s3 _ _ hd2] at hp; cases hp
            refine ⟨_, hd4, small1000 (by omega), ms ++ [.ref p], ?_, upd_same, ?_⟩
            · intro c' u e
              rw [upd_ne (ne_of_none e hD0)]
              exact s4 _ _ (s2 _ _ e)
            · rw [er]
              refine paired_snocK ⟨p, t', D1, ys, _, rfl, nD, kU _ _ upd_same, k24 _ _ h2, TpAll.keep k24 (ordsM_tpA h3), ?_, TpAll.keep k24 hf⟩ (Paired.mapP hm fun _ _ z => z.keep k24 fun b xs nb e => ?_)
              · rw [upd_ne nb]
                exact s4 _ _ e
              · rw [upd_ne nD]
                exact (same_new hp _) _ _ hd3
        · rintro H2 ⟨ms, s2, hd2, hm⟩
          have hw : Paired (MkAt D0 H2) [ra, rb] ms := hm
          clear hm
          cases hw with
          | cons m1 hw =>
          cases hw with
          | cons m2 hw =>
          cases hw
          exact imp _ _ ⟨D0, _, _, rfl, sc.trans s2, hd2, m1, m2⟩
      rintro σ H1 ⟨D, m1, m2, rfl, s1, hD, k1, k2⟩
      obtain ⟨_, _, _, _, _, _, _, ma3, _⟩ := hA.at_
      obtain ⟨_, _, _, _, _, _, _, mb3, _⟩ := hB.at_
      refine ⟨_, rfl, D, _, _, _, rfl, rfl, SqL.of hD, at0, _, rfl, D, _, _, _, rfl, rfl, SqL.of hD, atOne, _, _, k1.dp, k2.dp, (shaped_face hO (ordsM_okA ma3) pA).2, (shaped_face hO (ordsM_okA mb3) pB).2, ?_⟩
      rw [faceB_lst]
      exact q H1 s1
end
end My
set_option Elab.async false
set_option linter.all false
set_option maxRecDepth 100000
set_option maxHeartbeats 4000000
namespace My
open PySem L2 TL
def cdF (n : Nat) : List Bool → Nat
  | [] => n
  | b :: v => cdF (2 * n + (if b then 1 else 0)) v
def cd (w : List Bool) : Nat := cdF 1 w
theorem cdF_app (v u : List Bool) : ∀ n, cdF n (u ++ v) = cdF (cdF n u) v := by
  induction u with
  | nil => intro n; rfl
  | cons b u ih => intro n; exact ih _
theorem cdF_mono : ∀ (v : List Bool) {n m : Nat}, n ≤ m → cdF n v ≤ cdF m v
  | [], _, _, h => h
  | b :: v, n, m, h => cdF_mono v (by omega)
theorem cdF_ge : ∀ (v : List Bool) (n : Nat), n ≤ cdF n v
  | [], n => Nat.le_refl n
  | b :: v, n => Nat.le_trans (by omega) (cdF_ge v _)
theorem cd_app (u v : List Bool) : cd (u ++ v) = cdF (cd u) v := cdF_app v u 1
theorem cd_le {a b : List Bool} (h : cd a ≤ cd b) (v : List Bool) : cd (a ++ v) ≤ cd (b ++ v) := by
  rw [cd_app, cd_app]
  exact cdF_mono v h
theorem cd_ge (a v : List Bool) : cd a ≤ cd (a ++ v) := by
  rw [cd_app]
  exact cdF_ge v _
theorem cd_ff (a : List Bool) : cd (a ++ [false]) = 2 * cd a := by
  rw [cd_app]
  rfl
theorem cd_tt (a : List Bool) : cd (a ++ [true]) = 2 * cd a + 1 := by
  rw [cd_app]
  rfl
/-- where a pair is looked at no later than n: among those gone through, or in the lists -/
def At (S : List (Int × Int)) (W : Int × Int → List Bool) (l : List It) (x : Int × Int) (n : Nat) : Prop := (x ∈ S ∧ cd (W x) ≤ n) ∨ ∃ t ∈ l, (t.p, t.q) = x ∧ cd t.w ≤ n
def CloW (g : Prog) (S : List (Int × Int)) (W : Int × Int → List Bool) (l : List It) : Prop := ∀ p q, (p, q) ∈ S → (∃ cs, rowN g p = some (cs, .fin) ∧ rowN g q = some (cs, .fin)) ∨
  (∃ cs j k, rowN g p = some (cs, .go j) ∧ rowN g q = some (cs, .go k) ∧ At S W l (j, k) (cd (W (p, q)))) ∨
  ∃ cs c j k j' k', rowN g p = some (cs, .test c j k) ∧ rowN g q = some (cs, .test c j' k') ∧ At S W l (j, j') (2 * cd (W (p, q)) + 1) ∧ At S W l (k, k') (2 * cd (W (p, q)))
theorem CloW.mono {g : Prog} {S S' : List (Int × Int)} {W W' : Int × Int → List Bool} {l l' : List It} (h : CloW g S W l) (hS : ∀ x, x ∈ S' → x ∈ S) (hW : ∀ x, x ∈ S' → W' x = W x) (m : ∀ x n, At S W l x n → At S' W' l' x n) : CloW g S' W' l' := fun p q hm => by
  rw [hW _ hm]
  rcases h p q (hS _ hm) with z | ⟨cs, j, k, a, b, c⟩ | ⟨cs, c, j, k, j', k', a, b, d, e⟩
  · exact .inl z
  · exact .inr (.inl ⟨cs, j, k, a, b, m _ _ c⟩)
  · exact .inr (.inr ⟨cs, c, j, k, j', k', a, b, m _ _ d, m _ _ e⟩)
/-- a word behind a pair gone through goes by a pair in the lists, no later -/
theorem CloW.route {g : Prog} {S : List (Int × Int)} {W : Int × Int → List Bool} {l : List It} (c : CloW g S W l) {p q : Int} {v : List Bool} (h : Parts g p q v) : (p, q) ∈ S → ∃ t ∈ l, ∃ v', Parts g t.p t.q v' ∧ cd (t.w ++ v') ≤ cd (W (p, q) ++ v) := by
  have step : ∀ {j k : Int} {v : List Bool} {a : List Bool}, Parts g j k v → ((j, k) ∈ S → ∃ t ∈ l, ∃ v', Parts g t.p t.q v' ∧ cd (t.w ++ v') ≤ cd (W (j, k) ++ v)) → At S W l (j, k) (cd a) → ∃ t ∈ l, ∃ v', Parts g t.p t.q v' ∧ cd (t.w ++ v') ≤ cd (a ++ v) := by
    intro j k v a hp ih hA
    rcases hA with ⟨m, le⟩ | ⟨t, ht, e, le⟩
    · obtain ⟨t, ht, v', h1, h2⟩ := ih m
      exact ⟨t, ht, v', h1, Nat.le_trans h2 (cd_le le v)⟩
    · cases e
      exact ⟨t, ht, v, hp, cd_le le v⟩
  induction h with
  | @here p q r s e1 e2 d =>
    intro m
    rcases c _ _ m with ⟨cs, a, b⟩ | ⟨cs, j, k, a, b, z⟩ | ⟨cs, c, j, k, j', k', a, b, _, z⟩
    · rw [e1] at a; rw [e2] at b; cases a; cases b; exact absurd rfl d
    · rw [e1] at a; rw [e2] at b; cases a; cases b; exact absurd rfl d
    · rw [e1] at a; rw [e2] at b; cases a; cases b; exact absurd rfl d
  | go e1 e2 hp ih =>
    intro m
    rcases c _ _ m with ⟨cs, a, b⟩ | ⟨cs, j, k, a, b, z⟩ | ⟨cs, c, j, k, j', k', a, b, _, z⟩
    · rw [e1] at a; cases a
    · rw [e1] at a; rw [e2] at b; cases a; cases b
      exact step hp ih z
    · rw [e1] at a; cases a
  | @tt p q j k j' k' cs c' w e1 e2 hp ih =>
    intro m
    rcases c _ _ m with ⟨cs, a, b⟩ | ⟨cs, j, k, a, b, z⟩ | ⟨cs, c, j, k, j', k', a, b, z, _⟩
    · rw [e1] at a; cases a
    · rw [e1] at a; cases a
    · rw [e1] at a; rw [e2] at b; cases a; cases b
      rw [← cd_tt] at z
      obtain ⟨t, ht, v', h1, h2⟩ := step hp ih z
      exact ⟨t, ht, v', h1, by rw [List.append_assoc] at h2; exact h2⟩
  | @ff p q j k j' k' cs c' w e1 e2 hp ih =>
    intro m
    rcases c _ _ m with ⟨cs, a, b⟩ | ⟨cs, j, k, a, b, z⟩ | ⟨cs, c, j, k, j', k', a, b, _, z⟩
    · rw [e1] at a; cases a
    · rw [e1] at a; cases a
    · rw [e1] at a; rw [e2] at b; cases a; cases b
      rw [← cd_ff] at z
      obtain ⟨t, ht, v', h1, h2⟩ := step hp ih z
      exact ⟨t, ht, v', h1, by rw [List.append_assoc] at h2; exact h2⟩
/-- the lists in their order -/
structure Ord5 (B : Nat) (lv lo : List It) (S : List (Int × Int)) (W : Int × Int → List Bool) : Prop where
  a : lv.Pairwise fun x y => cd x.w < cd y.w
  b : lo.Pairwise fun x y => cd x.w < cd y.w
  c : ∀ x ∈ lv, B ≤ 2 * cd x.w ∧ cd x.w < B
  d : ∀ y ∈ lo, B ≤ cd y.w ∧ cd y.w < 2 * B
  e : ∀ x ∈ lv, ∀ y ∈ lo, cd y.w < 2 * cd x.w
  s : ∀ x ∈ S, ∀ t ∈ lv ++ lo, cd (W x) ≤ cd t.w
def setW (W : Int × Int → List Bool) (x : Int × Int) (u : List Bool) : Int × Int → List Bool := fun y => if y = x then u else W y
theorem setW_same {W : Int × Int → List Bool} {x : Int × Int} {u : List Bool} : setW W x u x = u := if_pos rfl
theorem setW_ne {W : Int × Int → List Bool} {x y : Int × Int} {u : List Bool} (h : y ≠ x) : setW W x u y = W y := if_neg h
theorem CloW.add {g : Prog} {S : List (Int × Int)} {W : Int × Int → List Bool} {p q : Int} {u : List Bool} {l0 l' : List It} (C : CloW g S W (⟨p, q, u⟩ :: l0)) (n : (p, q) ∉ S) (sub : ∀ t ∈ l0, t ∈ l')
    (new : (∃ cs, rowN g p = some (cs, .fin) ∧ rowN g q = some (cs, .fin)) ∨ (∃ cs j k, rowN g p = some (cs, .go j) ∧ rowN g q = some (cs, .go k) ∧ At ((p, q) :: S) (setW W (p, q) u) l' (j, k) (cd u)) ∨
      ∃ cs c j k j' k', rowN g p = some (cs, .test c j k) ∧ rowN g q = some (cs, .test c j' k') ∧ At ((p, q) :: S) (setW W (p, q) u) l' (j, j') (2 * cd u + 1) ∧ At ((p, q) :: S) (setW W (p, q) u) l' (k, k') (2 * cd u)) :
    CloW g ((p, q) :: S) (setW W (p, q) u) l' := by
  have ne : ∀ x, x ∈ S → x ≠ (p, q) := fun x hx z => n (z ▸ hx)
  have mv : ∀ x k, At S W (⟨p, q, u⟩ :: l0) x k → At ((p, q) :: S) (setW W (p, q) u) l' x k := fun x k hA => by
    rcases hA with ⟨z, le⟩ | ⟨t, ht, e3, le⟩
    · exact .inl ⟨List.mem_cons_of_mem _ z, by rw [setW_ne (ne x z)]; exact le⟩
    · rcases List.mem_cons.mp ht with rfl | ht
      · cases e3; exact .inl ⟨List.mem_cons_self, by rw [setW_same]; exact le⟩
      · exact .inr ⟨t, sub t ht, e3, le⟩
  intro p' q' hm
  rcases List.mem_cons.mp hm with z | z
  · cases z
    rw [setW_same]
    exact new
  · rw [setW_ne (ne _ z)]
    rcases C p' q' z with y | ⟨cs, j, k, a, b, c⟩ | ⟨cs, c, j, k, j', k', a, b, d, e⟩
    · exact .inl y
    · exact .inr (.inl ⟨cs, j, k, a, b, mv _ _ c⟩)
    · exact .inr (.inr ⟨cs, c, j, k, j', k', a, b, mv _ _ d, mv _ _ e⟩)
theorem PB.first {g : Prog} {lv lo : List It} {S : List (Int × Int)} {r : Option (List Bool)} (h : PB g lv lo S r) : ∀ {w : List Bool} {W : Int × Int → List Bool} {B : Nat}, r = some w → Ord5 B lv lo S W → CloW g S W (lv ++ lo) →
    ∀ t ∈ lv ++ lo, ∀ v, Parts g t.p t.q v → cd w ≤ cd (t.w ++ v) := by
  induction h with
  | out => intro w W B e; cases e
  | @next lo S r n _ ih =>
    intro w W B e O C t ht v hv
    refine ih e (B := 2 * B) (W := W) ⟨O.b, .nil, fun x hx => ?_, fun y hy => (nomatch hy), fun x _ y hy => (nomatch hy), fun x hx t ht => O.s x hx t (by rw [List.append_nil] at ht; exact ht)⟩ (by rw [List.append_nil]; exact C) t (by rw [List.append_nil]; exact ht) v hv
    have := O.d x hx
    omega
  | @seen p q u lv lo S r m _ ih =>
    intro w W B e O C t ht v hv
    have hle : cd (W (p, q)) ≤ cd u := O.s _ m ⟨p, q, u⟩ List.mem_cons_self
    have O2 : Ord5 B lv lo S W := ⟨(List.pairwise_cons.mp O.a).2, O.b, fun x hx => O.c x (List.mem_cons_of_mem _ hx), O.d, fun x hx => O.e x (List.mem_cons_of_mem _ hx), fun x hx t ht => O.s x hx t (List.mem_cons_of_mem _ ht)⟩
    have C2 : CloW g S W (lv ++ lo) := C.mono (fun _ z => z) (fun _ _ => rfl) fun x n hA => by
      rcases hA with z | ⟨t, ht, e1, le⟩
      · exact .inl z
      · rcases List.mem_cons.mp ht with rfl | ht
        · cases e1; exact .inl ⟨m, Nat.le_trans hle le⟩
        · exact .inr ⟨t, ht, e1, le⟩
    rcases List.mem_cons.mp ht with rfl | ht
    · obtain ⟨t, ht, v', h1, h2⟩ := C2.route hv m
      exact Nat.le_trans (ih e O2 C2 t ht v' h1) (Nat.le_trans h2 (cd_le hle v))
    · exact ih e O2 C2 t ht v hv
  | @found p q u lv lo S a b n e1 e2 d =>
    intro w W B e O C t ht v hv
    cases e
    have h1 := O.c ⟨p, q, u⟩ List.mem_cons_self
    have h1 : B ≤ 2 * cd u ∧ cd u < B := h1
    refine Nat.le_trans ?_ (cd_ge t.w v)
    rcases List.mem_cons.mp ht with rfl | ht
    · exact Nat.le_refl _
    · rcases List.mem_append.mp ht with z | z
      · exact Nat.le_of_lt ((List.pairwise_cons.mp O.a).1 t z)
      · have := O.d t z
        omega
  | @fin p q u lv lo S r cs n e1 e2 _ ih =>
    intro w W B e O C t ht v hv
    have ne : ∀ x, x ∈ S → x ≠ (p, q) := fun x hx z => n (z ▸ hx)
    obtain ⟨hu, ht2⟩ := List.pairwise_cons.mp O.a
    have h1 : B ≤ 2 * cd u ∧ cd u < B := O.c ⟨p, q, u⟩ List.mem_cons_self
    have least : ∀ t ∈ lv ++ lo, cd u ≤ cd t.w := fun t ht => by
      rcases List.mem_append.mp ht with z | z
      · exact Nat.le_of_lt (hu t z)
      · have := O.d t z
        omega
    have O2 : Ord5 B lv lo ((p, q) :: S) (setW W (p, q) u) := ⟨ht2, O.b, fun x hx => O.c x (List.mem_cons_of_mem _ hx), O.d, fun x hx => O.e x (List.mem_cons_of_mem _ hx), fun x hx t ht => by
      rcases List.mem_cons.mp hx with rfl | hx
      · rw [setW_same]; exact least t ht
      · rw [setW_ne (ne x hx)]; exact O.s x hx t (List.mem_cons_of_mem _ ht)⟩
    have C2 : CloW g ((p, q) :: S) (setW W (p, q) u) (lv ++ lo) := CloW.add (l0 := lv ++ lo) C n (fun _ z => z) (.inl ⟨cs, e1, e2⟩)
    rcases List.mem_cons.mp ht with rfl | ht
    · cases hv with
      | here f1 f2 d => rw [e1] at f1; rw [e2] at f2; cases f1; cases f2; exact absurd rfl d
      | go f1 _ _ => rw [e1] at f1; cases f1
      | tt f1 _ _ => rw [e1] at f1; cases f1
      | ff f1 _ _ => rw [e1] at f1; cases f1
    · exact ih e O2 C2 t ht v hv
  | @go p q j k u lv lo S r cs n e1 e2 _ ih =>
    intro w W B e O C t ht v hv
    have ne : ∀ x, x ∈ S → x ≠ (p, q) := fun x hx z => n (z ▸ hx)
    obtain ⟨hu, ht2⟩ := List.pairwise_cons.mp O.a
    have h1 : B ≤ 2 * cd u ∧ cd u < B := O.c ⟨p, q, u⟩ List.mem_cons_self
    have least : ∀ t ∈ lv ++ lo, cd u ≤ cd t.w := fun t ht => by
      rcases List.mem_append.mp ht with z | z
      · exact Nat.le_of_lt (hu t z)
      · have := O.d t z
        omega
    have O2 : Ord5 B (⟨j, k, u⟩ :: lv) lo ((p, q) :: S) (setW W (p, q) u) := ⟨List.pairwise_cons.mpr ⟨hu, ht2⟩, O.b, fun x hx => by
      rcases List.mem_cons.mp hx with rfl | hx
      · exact h1
      · exact O.c x (List.mem_cons_of_mem _ hx), O.d, fun x hx => by
      rcases List.mem_cons.mp hx with rfl | hx
      · exact O.e ⟨p, q, u⟩ List.mem_cons_self
      · exact O.e x (List.mem_cons_of_mem _ hx), fun x hx t ht => by
      rcases List.mem_cons.mp hx with rfl | hx
      · rw [setW_same]
        rcases List.mem_cons.mp ht with rfl | ht
        · exact Nat.le_refl _
        · exact least t ht
      · rw [setW_ne (ne x hx)]
        rcases List.mem_cons.mp ht with rfl | ht
        · exact O.s x hx ⟨p, q, u⟩ List.mem_cons_self
        · exact O.s x hx t (List.mem_cons_of_mem _ ht)⟩
    have C2 : CloW g ((p, q) :: S) (setW W (p, q) u) (⟨j, k, u⟩ :: lv ++ lo) := CloW.add (l0 := lv ++ lo) C n (fun _ z => List.mem_cons_of_mem _ z) (.inr (.inl ⟨cs, j, k, e1, e2, .inr ⟨⟨j, k, u⟩, List.mem_cons_self, rfl, Nat.le_refl _⟩⟩))
    rcases List.mem_cons.mp ht with rfl | ht
    · cases hv with
      | here f1 f2 d => rw [e1] at f1; rw [e2] at f2; cases f1; cases f2; exact absurd rfl d
      | go f1 f2 h => rw [e1] at f1; rw [e2] at f2; cases f1; cases f2; exact ih e O2 C2 ⟨j, k, u⟩ List.mem_cons_self v h
      | tt f1 _ _ => rw [e1] at f1; cases f1
      | ff f1 _ _ => rw [e1] at f1; cases f1
    · exact ih e O2 C2 t (List.mem_cons_of_mem _ ht) v hv
  | @test p q j k j' k' u lv lo S r cs c n e1 e2 _ ih =>
    intro w W B e O C t ht v hv
    have ne : ∀ x, x ∈ S → x ≠ (p, q) := fun x hx z => n (z ▸ hx)
    obtain ⟨hu, ht2⟩ := List.pairwise_cons.mp O.a
    have h1 : B ≤ 2 * cd u ∧ cd u < B := O.c ⟨p, q, u⟩ List.mem_cons_self
    have hlo : ∀ y ∈ lo, cd y.w < 2 * cd u := O.e ⟨p, q, u⟩ List.mem_cons_self
    have lw : ∀ y ∈ lo ++ [⟨k, k', u ++ [false]⟩, ⟨j, j', u ++ [true]⟩], y ∈ lo ∨ cd y.w = 2 * cd u ∨ cd y.w = 2 * cd u + 1 := fun y hy => by
      rcases List.mem_append.mp hy with z | z
      · exact .inl z
      · rcases List.mem_cons.mp z with rfl | z
        · exact .inr (.inl (cd_ff u))
        · rw [List.mem_singleton.mp z]
          exact .inr (.inr (cd_tt u))
    have least : ∀ t ∈ lv ++ (lo ++ [⟨k, k', u ++ [false]⟩, ⟨j, j', u ++ [true]⟩]), cd u ≤ cd t.w := fun t ht => by
      rcases List.mem_append.mp ht with z | z
      · exact Nat.le_of_lt (hu t z)
      · rcases lw t z with z | z | z
        · have := O.d t z
          omega
        · omega
        · omega
    have O2 : Ord5 B lv (lo ++ [⟨k, k', u ++ [false]⟩, ⟨j, j', u ++ [true]⟩]) ((p, q) :: S) (setW W (p, q) u) := by
      refine ⟨ht2, List.pairwise_append.mpr ⟨O.b, List.pairwise_cons.mpr ⟨fun y hy => ?_, List.pairwise_singleton _ _⟩, fun x hx y hy => ?_⟩, fun x hx => O.c x (List.mem_cons_of_mem _ hx), fun y hy => ?_, fun x hx y hy => ?_, fun x hx t ht => ?_⟩
      · rw [List.mem_singleton.mp hy]
        show cd (u ++ [false]) < cd (u ++ [true])
        rw [cd_ff, cd_tt]
        omega
      · have := hlo x hx
        rcases List.mem_cons.mp hy with rfl | hy
        · show cd x.w < cd (u ++ [false])
          rw [cd_ff]; omega
        · rw [List.mem_singleton.mp hy]
          show cd x.w < cd (u ++ [true])
          rw [cd_tt]; omega
      · rcases lw y hy with z | z | z
        · exact O.d y z
        · omega
        · omega
      · have hx1 := hu x hx
        have hx1 : cd u < cd x.w := hx1
        rcases lw y hy with z | z | z
        · exact O.e x (List.mem_cons_of_mem _ hx) y z
        · omega
        · omega
      · rcases List.mem_cons.mp hx with rfl | hx
        · rw [setW_same]; exact least t ht
        · rw [setW_ne (ne x hx)]
          exact Nat.le_trans (O.s x hx ⟨p, q, u⟩ List.mem_cons_self) (least t ht)
    have C2 : CloW g ((p, q) :: S) (setW W (p, q) u) (lv ++ (lo ++ [⟨k, k', u ++ [false]⟩, ⟨j, j', u ++ [true]⟩])) := CloW.add (l0 := lv ++ lo) C n (fun t z => by
        rcases List.mem_append.mp z with z | z
        · exact List.mem_append.mpr (.inl z)
        · exact List.mem_append.mpr (.inr (List.mem_append.mpr (.inl z))))
      (.inr (.inr ⟨cs, c, j, k, j', k', e1, e2, .inr ⟨⟨j, j', u ++ [true]⟩, by simp, rfl, Nat.le_of_eq (cd_tt u)⟩, .inr ⟨⟨k, k', u ++ [false]⟩, by simp, rfl, Nat.le_of_eq (cd_ff u)⟩⟩))
    rcases List.mem_cons.mp ht with rfl | ht
    · cases hv with
      | here f1 f2 d => rw [e1] at f1; rw [e2] at f2; cases f1; cases f2; exact absurd rfl d
      | go f1 _ _ => rw [e1] at f1; cases f1
      | @tt _ _ _ _ _ _ _ _ v' f1 f2 h =>
        rw [e1] at f1; rw [e2] at f2; cases f1; cases f2
        have z := ih e O2 C2 ⟨j, j', u ++ [true]⟩ (by simp) v' h
        rw [List.append_assoc] at z
        exact z
      | @ff _ _ _ _ _ _ _ _ v' f1 f2 h =>
        rw [e1] at f1; rw [e2] at f2; cases f1; cases f2
        have z := ih e O2 C2 ⟨k, k', u ++ [false]⟩ (by simp) v' h
        rw [List.append_assoc] at z
        exact z
    · refine ih e O2 C2 t ?_ v hv
      rcases List.mem_append.mp ht with z | z
      · exact List.mem_append.mpr (.inl z)
      · exact List.mem_append.mpr (.inr (List.mem_append.mpr (.inl z)))
/-- the word told is the first of all that part -/
theorem PB.least {g : Prog} {p q : Int} {w : List Bool} (h : PB g [⟨p, q, []⟩] [] [] (some w)) : ∀ v, Parts g p q v → cd w ≤ cd v := fun v hv => by
  have := h.first (W := fun _ => []) (B := 2) rfl ⟨List.pairwise_singleton _ _, .nil, fun x hx => by rw [List.mem_singleton.mp hx]; exact ⟨(by show 2 ≤ 2 * cd []; decide), (by show cd [] < 2; decide)⟩, fun y hy => (nomatch hy), fun x _ y hy => (nomatch hy), fun x hx => (nomatch hx)⟩ (fun p q hm => (nomatch hm)) ⟨p, q, []⟩ List.mem_cons_self v hv
  exact this
end My
set_option Elab.async false
set_option linter.all false
set_option maxRecDepth 100000
set_option maxHeartbeats 4000000
namespace My
open PySem L2 TL
/-- a word that parts is no longer than the rank of the row -/
theorem parts_short {g : Prog} {rk : Int → Nat} (hr : ∀ (i : Nat) r, g[i]? = some r → ∀ t ∈ tgts r.2, rk t < rk i) {p q : Int} {w : List Bool} (h : Parts g p q w) : w.length ≤ rk p := by
  have fall : ∀ {p : Int} {r : List Ordr × Onw} {t : Int}, rowN g p = some r → t ∈ tgts r.2 → rk t < rk p := fun {p r t} e ht => by
    obtain ⟨p0, p1, e1⟩ := rowN_rng e
    have z := hr p.toNat r e1 t ht
    have ep : ((p.toNat : Nat) : Int) = p := by omega
    rw [ep] at z
    exact z
  induction h with
  | here _ _ _ => exact Nat.zero_le _
  | go e1 _ _ ih =>
    have := fall e1 List.mem_cons_self
    omega
  | tt e1 _ _ ih =>
    have := fall e1 List.mem_cons_self
    rw [List.length_cons]
    omega
  | ff e1 _ _ ih =>
    have := fall e1 (List.mem_cons_of_mem _ List.mem_cons_self)
    rw [List.length_cons]
    omega
/-- all words of a length, in their order -/
def allW : Nat → List (List Bool)
  | 0 => [[]]
  | n + 1 => (allW n).flatMap fun w => [w ++ [false], w ++ [true]]
theorem flat2_get {α β : Type} (f g : α → β) : ∀ (l : List α) (i : Nat), (l.flatMap fun a => [f a, g a])[i]? = (l[i / 2]?).map fun a => if i % 2 = 0 then f a else g a
  | [], i => by simp
  | a :: l, 0 => by simp
  | a :: l, 1 => by simp
  | a :: l, i + 2 => by
    have ih := flat2_get f g l i
    have e : (i + 2) / 2 = i / 2 + 1 := by omega
    have e2 : (i + 2) % 2 = i % 2 := by omega
    rw [e, e2, List.getElem?_cons_succ, ← ih]
    simp [List.flatMap_cons]
theorem allW_len : ∀ n, (allW n).length = 2 ^ n
  | 0 => rfl
  | n + 1 => by
    have : ∀ l : List (List Bool), (l.flatMap fun w => [w ++ [false], w ++ [true]]).length = 2 * l.length := by
      intro l
      induction l with
      | nil => rfl
      | cons a l ih => rw [List.flatMap_cons, List.length_append, ih, List.length_cons]; simp; omega
    show ((allW n).flatMap _).length = _
    rw [this, allW_len n, Nat.pow_succ]
    omega
/-- the i-th of them is the one of the number 2^n + i -/
theorem allW_cd : ∀ (n i : Nat) (w : List Bool), (allW n)[i]? = some w → cd w = 2 ^ n + i ∧ w.length = n
  | 0, i, w, h => by
    have hi : i < 1 := (List.getElem?_eq_some_iff.mp h).1
    have e : i = 0 := by omega
    subst e
    cases h
    exact ⟨rfl, rfl⟩
  | n + 1, i, w, h => by
    have h : ((allW n).flatMap fun w => [w ++ [false], w ++ [true]])[i]? = some w := h
    rw [flat2_get (fun w : List Bool => w ++ [false]) (fun w => w ++ [true])] at h
    cases e : (allW n)[i / 2]? with
    | none => rw [e] at h; cases h
    | some u =>
      rw [e] at h
      have h : (if i % 2 = 0 then u ++ [false] else u ++ [true]) = w := Option.some.inj h
      obtain ⟨c1, c2⟩ := allW_cd n (i / 2) u e
      rw [Nat.pow_succ]
      by_cases z : i % 2 = 0
      · rw [if_pos z] at h
        rw [← h, cd_ff, c1, List.length_append, c2]
        exact ⟨by omega, rfl⟩
      · rw [if_neg z] at h
        rw [← h, cd_tt, c1, List.length_append, c2]
        exact ⟨by omega, rfl⟩
theorem cdF_len : ∀ (v : List Bool) (n : Nat), n * 2 ^ v.length ≤ cdF n v ∧ cdF n v < (n + 1) * 2 ^ v.length
  | [], n => by simp [cdF]
  | b :: v, n => by
    obtain ⟨h1, h2⟩ := cdF_len v (2 * n + (if b then 1 else 0))
    rw [List.length_cons, Nat.pow_succ]
    show _ ≤ cdF (2 * n + (if b then 1 else 0)) v ∧ cdF (2 * n + (if b then 1 else 0)) v < _
    cases b with
    | true =>
      have h1 : (2 * n + 1) * 2 ^ v.length ≤ cdF (2 * n + 1) v := h1
      have h2 : cdF (2 * n + 1) v < (2 * n + 1 + 1) * 2 ^ v.length := h2
      refine ⟨Nat.le_trans ?_ h1, Nat.lt_of_lt_of_le h2 ?_⟩
      · rw [Nat.add_mul, Nat.mul_comm (2 ^ v.length) 2, ← Nat.mul_assoc, Nat.mul_comm n 2]; omega
      · rw [Nat.mul_comm (2 ^ v.length) 2, ← Nat.mul_assoc, Nat.add_mul n 1 2]; exact Nat.le_of_eq (by congr 1; omega)
    | false =>
      have h1 : (2 * n + 0) * 2 ^ v.length ≤ cdF (2 * n + 0) v := h1
      have h2 : cdF (2 * n + 0) v < (2 * n + 0 + 1) * 2 ^ v.length := h2
      refine ⟨Nat.le_trans ?_ h1, Nat.lt_of_lt_of_le h2 ?_⟩
      · rw [Nat.mul_comm (2 ^ v.length) 2, ← Nat.mul_assoc, Nat.mul_comm n 2]; exact Nat.le_refl _
      · rw [Nat.mul_comm (2 ^ v.length) 2, ← Nat.mul_assoc]; exact Nat.mul_le_mul_right _ (by omega)
theorem cd_lt (v : List Bool) : cd v < 2 ^ (v.length + 1) := by
  have := (cdF_len v 1).2
  rw [Nat.pow_succ, Nat.mul_comm]
  exact this
theorem cdF_inj : ∀ (u v : List Bool) (n m : Nat), u.length = v.length → cdF n u = cdF m v → n = m ∧ u = v
  | [], [], n, m, _, h => ⟨h, rfl⟩
  | [], _ :: _, _, _, l, _ => by cases l
  | _ :: _, [], _, _, l, _ => by cases l
  | a :: u, b :: v, n, m, l, h => by
    have l : u.length = v.length := by simpa using l
    obtain ⟨h1, h2⟩ := cdF_inj u v _ _ l h
    subst h2
    cases a <;> cases b <;> simp at h1 <;> first | exact ⟨by omega, rfl⟩ | (exfalso; omega)
theorem cd_inj {u v : List Bool} (h : cd u = cd v) : u = v := by
  have l : u.length = v.length := by
    have a := cdF_len u 1
    have b := cdF_len v 1
    have h : cdF 1 u = cdF 1 v := h
    rw [h] at a
    by_cases c : u.length < v.length
    · have : 2 ^ (u.length + 1) ≤ 2 ^ v.length := Nat.pow_le_pow_right (by decide) c
      rw [Nat.pow_succ] at this
      omega
    · by_cases d : v.length < u.length
      · have : 2 ^ (v.length + 1) ≤ 2 ^ u.length := Nat.pow_le_pow_right (by decide) d
        rw [Nat.pow_succ] at this
        omega
      · omega
  exact (cdF_inj u v 1 1 l h).2
end My
set_option Elab.async false
set_option linter.all false
set_option maxRecDepth 100000
set_option maxHeartbeats 4000000
namespace My
open PySem L2 TL
/-- a word followed from a pair of rows, one constructor for each way of the loop; b: what is told -/
inductive PBB (g : Prog) : Int → Int → List Bool → Bool → Prop
  | here {p q : Int} {w : List Bool} {r s : List Ordr × Onw} : rowN g p = some r → rowN g q = some s → face r ≠ face s → PBB g p q w (decide (w = []))
  | fin {p q : Int} {w : List Bool} {cs : List Ordr} : rowN g p = some (cs, .fin) → rowN g q = some (cs, .fin) → PBB g p q w false
  | go {p q j k : Int} {cs : List Ordr} {w : List Bool} {b : Bool} : rowN g p = some (cs, .go j) → rowN g q = some (cs, .go k) → PBB g j k w b → PBB g p q w b
  | out {p q j k j' k' : Int} {cs : List Ordr} {c : Plc} : rowN g p = some (cs, .test c j k) → rowN g q = some (cs, .test c j' k') → PBB g p q [] false
  | tt {p q j k j' k' : Int} {cs : List Ordr} {c : Plc} {w : List Bool} {b : Bool} : rowN g p = some (cs, .test c j k) → rowN g q = some (cs, .test c j' k') → PBB g j j' w b → PBB g p q (true :: w) b
  | ff {p q j k j' k' : Int} {cs : List Ordr} {c : Plc} {w : List Bool} {b : Bool} : rowN g p = some (cs, .test c j k) → rowN g q = some (cs, .test c j' k') → PBB g k k' w b → PBB g p q (false :: w) b
theorem PBB.told {g : Prog} {p q : Int} {w : List Bool} {b : Bool} (h : PBB g p q w b) : b = true ↔ Parts g p q w := by
  induction h with
  | @here p q w r s e1 e2 d =>
    constructor
    · intro z
      rw [of_decide_eq_true z]
      exact .here e1 e2 d
    · intro z
      cases z with
      | here _ _ _ => exact decide_eq_true rfl
      | go f1 f2 _ => rw [e1] at f1; rw [e2] at f2; cases f1; cases f2; exact absurd rfl d
      | tt f1 f2 _ => rw [e1] at f1; rw [e2] at f2; cases f1; cases f2; exact absurd rfl d
      | ff f1 f2 _ => rw [e1] at f1; rw [e2] at f2; cases f1; cases f2; exact absurd rfl d
  | fin e1 e2 =>
    refine ⟨fun z => (by cases z), fun z => ?_⟩
    cases z with
    | here f1 f2 d => rw [e1] at f1; rw [e2] at f2; cases f1; cases f2; exact absurd rfl d
    | go f1 _ _ => rw [e1] at f1; cases f1
    | tt f1 _ _ => rw [e1] at f1; cases f1
    | ff f1 _ _ => rw [e1] at f1; cases f1
  | go e1 e2 _ ih =>
    refine ⟨fun z => .go e1 e2 (ih.mp z), fun z => ?_⟩
    cases z with
    | here f1 f2 d => rw [e1] at f1; rw [e2] at f2; cases f1; cases f2; exact absurd rfl d
    | go f1 f2 h => rw [e1] at f1; rw [e2] at f2; cases f1; cases f2; exact ih.mpr h
    | tt f1 _ _ => rw [e1] at f1; cases f1
    | ff f1 _ _ => rw [e1] at f1; cases f1
  | out e1 e2 =>
    refine ⟨fun z => (by cases z), fun z => ?_⟩
    cases z with
    | here f1 f2 d => rw [e1] at f1; rw [e2] at f2; cases f1; cases f2; exact absurd rfl d
    | go f1 _ _ => rw [e1] at f1; cases f1
  | tt e1 e2 _ ih =>
    refine ⟨fun z => .tt e1 e2 (ih.mp z), fun z => ?_⟩
    cases z with
    | go f1 _ _ => rw [e1] at f1; cases f1
    | tt f1 f2 h => rw [e1] at f1; rw [e2] at f2; cases f1; cases f2; exact ih.mpr h
  | ff e1 e2 _ ih =>
    refine ⟨fun z => .ff e1 e2 (ih.mp z), fun z => ?_⟩
    cases z with
    | go f1 _ _ => rw [e1] at f1; cases f1
    | ff f1 f2 h => rw [e1] at f1; rw [e2] at f2; cases f1; cases f2; exact ih.mpr h
/-- where the ranks fall there is always an answer -/
theorem PBB.ex {g : Prog} {rk : Int → Nat} (ht : ∀ (i : Nat) r, g[i]? = some r → ∀ t ∈ tgts r.2, 0 ≤ t ∧ t < g.length) (hr : ∀ (i : Nat) r, g[i]? = some r → ∀ t ∈ tgts r.2, rk t < rk i) :
    ∀ (n : Nat) (p q : Int) (w : List Bool), rk p < n → 0 ≤ p → p < g.length → 0 ≤ q → q < g.length → ∃ b, PBB g p q w b
  | 0, _, _, _, h, _, _, _, _ => absurd h (Nat.not_lt_zero _)
  | n + 1, p, q, w, h, p0, p1, q0, q1 => by
    have row : ∀ z : Int, 0 ≤ z → z < g.length → ∃ r, rowN g z = some r ∧ (∀ t ∈ tgts r.2, 0 ≤ t ∧ t < g.length) ∧ ∀ t ∈ tgts r.2, rk t < rk z := fun z z0 z1 => by
      have eg : g[z.toNat]? = some g[z.toNat] := List.getElem?_eq_getElem (by omega)
      have ez : ((z.toNat : Nat) : Int) = z := by omega
      refine ⟨_, by rw [rowN_of z0]; exact eg, ht _ _ eg, fun t h => ?_⟩
      have := hr _ _ eg t h
      rw [ez] at this
      exact this
    obtain ⟨r, e1, r1, r2⟩ := row p p0 p1
    obtain ⟨s, e2, s1, s2⟩ := row q q0 q1
    by_cases d : face r = face s
    · rcases face_cases d with ⟨cs, h1, h2⟩ | ⟨cs, j, k, h1, h2⟩ | ⟨cs, c, j, k, j', k', h1, h2⟩
      · subst h1 h2
        exact ⟨_, .fin e1 e2⟩
      · subst h1 h2
        have a := r1 j List.mem_cons_self
        have b := s1 k List.mem_cons_self
        have z := r2 j List.mem_cons_self
        obtain ⟨x, hx⟩ := PBB.ex ht hr n j k w (by omega) a.1 a.2 b.1 b.2
        exact ⟨x, .go e1 e2 hx⟩
      · subst h1 h2
        have a := r1 j List.mem_cons_self
        have a' := r1 k (List.mem_cons_of_mem _ List.mem_cons_self)
        have b := s1 j' List.mem_cons_self
        have b' := s1 k' (List.mem_cons_of_mem _ List.mem_cons_self)
        have z := r2 j List.mem_cons_self
        have z' := r2 k (List.mem_cons_of_mem _ List.mem_cons_self)
        match w with
        | [] => exact ⟨_, .out e1 e2⟩
        | true :: w =>
          obtain ⟨x, hx⟩ := PBB.ex ht hr n j j' w (by omega) a.1 a.2 b.1 b.2
          exact ⟨x, .tt e1 e2 hx⟩
        | false :: w =>
          obtain ⟨x, hx⟩ := PBB.ex ht hr n k k' w (by omega) a'.1 a'.2 b'.1 b'.2
          exact ⟨x, .ff e1 e2 hx⟩
    · exact ⟨_, .here e1 e2 d⟩
end My
set_option Elab.async false
set_option linter.all false
set_option maxRecDepth 100000
set_option maxHeartbeats 2000000
namespace My
open PySem L2 TL Sx
abbrev sPartsBy : Stmt := top 31
theorem lay_bls : ∀ w : List Bool, PyData.canLayAll0 (w.map PyData.bool) = true ∧ PyData.depthAll (w.map PyData.bool) = 0
  | [] => ⟨rfl, rfl⟩
  | b :: w => by
    obtain ⟨h1, h2⟩ := lay_bls w
    refine ⟨?_, ?_⟩
    · show (true && PyData.canLayAll0 (w.map PyData.bool)) = true
      rw [h1]
      rfl
    · show max 0 (PyData.depthAll (w.map PyData.bool)) = 0
      rw [h2]
      rfl
theorem shaped_bls (w : List Bool) : SeqAt.shaped (.list (w.map PyData.bool)) = true := shaped_of (lay_bls w).1 (by show PyData.depthAll (w.map PyData.bool) + 1 ≤ 60; rw [(lay_bls w).2]; decide)
theorem dp_bls {K : PySem.W.Frag} {H : Hp} : ∀ w : List Bool, DpAll K H (w.map V.bl) (w.map PyData.bool)
  | [] => .nil
  | b :: w => .cons (.bl b) (dp_bls w)
theorem eqv_bls (w : List Bool) : PyData.eqv (.list (w.map PyData.bool)) (.list []) = decide (w = []) := by
  cases w with
  | nil => rfl
  | cons b w => rfl
def spPartsBy : Sp := fun vs H Q _ => ∃ (rA wA : Addr) (p q : Int) (o : OwnD) (rs : Prog) (w : List Bool) (rk : Int → Nat) (bb : Bool), vs = [.ref rA, .int p, .int q, .ref wA] ∧ ProgAt o H rA rs ∧ H wA = some (.tup (w.map V.bl)) ∧ OwnOk o ∧ (∀ r ∈ rs, PlcT o r.2) ∧ (∀ (i : Nat) r, rs[i]? = some r → ∀ t ∈ tgts r.2, rk t < rk (i : Nat)) ∧ w.length ≤ 1500 ∧ PBB rs p q w bb ∧
  ∀ H', Same H H' → Q (.bl bb) H'
abbrev NPb : List Str := ["rows", "this", "that", "word", "left", "onward", "further", "at"]
section
variable {P : Program} {w : World} {K : PySem.W.Frag} {mg : Str → Option Value} {base : Heap}
theorem scPartsBy : FnScope NPb ["rows", "this", "that", "word"] (defScope sPartsBy) := ⟨rfl, rfl, rfl, by decide +kernel, rfl, by decide +kernel, by decide +kernel⟩
theorem ok_partsBy {f : Addr} {fd : FuncData} (F : Fun K "_law_parts_by" "_law_parts_by" sPartsBy f fd) (dU : Df K mg "_law_is_unlike" sUnlike ["this", "that"]) (B : Bl mg) : FnOk P w K mg base CX0 2 f fd ["rows", "this", "that", "word"] spPartsBy := by
  have GU : FnOk P w K mg base CX0 1 dU.f dU.fd ["this", "that"] spUnlike := ok_unlike dU.F B
  refine F.ok scPartsBy (fun vs H Q E h => ?_) (fun cdv A outer s H vs Q E hr h => ?_)
  · obtain ⟨rA, wA, p, q, o, rs, wd, rk, bb, rfl, _⟩ := h
    rfl
  · obtain ⟨rA, wA, p, q, o, rs, wd, rk, bb, rfl, hR, hW, hO, hP, hK, hl, hp, qq⟩ := h
    refine ⟨_, pss_cons (ps_set (i := 4) scPartsBy.nd rfl (Or.inl rfl) (pe_callTy call_list_of (by rfl) B.list (by decide +kernel) (pa_cons (pv 3) pa_nil)))
      (pss_cons (ps_while PassesOwn.never (pt_not (pt_val (pe_call GU hr rfl dU.m dU.F.kp dU.b .nil pass0 (pa_cons (pe_ix ix_tup (pv 0) (pv 1) (fun _ _ => rfl)) (pa_cons (pe_ix ix_tup (pv 0) (pv 2) (fun _ _ => rfl)) pa_nil)))))
        (pss_cons (ps_par (i := 5) (j := 6) (by rfl) scPartsBy.nd rfl rfl (by decide) (by rfl) (by rfl) (pa_cons (pe_ix ix_tup (pe_ix ix_tup (pv 0) (pv 1) (fun _ _ => rfl)) pe_int (fun _ _ => rfl)) (pa_cons (pe_ix ix_tup (pe_ix ix_tup (pv 0) (pv 2) (fun _ _ => rfl)) pe_int (fun _ _ => rfl)) pa_nil)) (by rfl))
        (pss_cons (ps_if (PW.pt (pw_or (pt_cmpR op_eq (pe_ix ix_tup (pv 5) pe_int (fun _ _ => rfl)) pe_str (nomark _)) (pw_or1 (PW.pt (pw_and (pt_cmpR op_eq (pe_ix ix_tup (pv 5) pe_int (fun _ _ => rfl)) pe_str (nomark _)) (pw_and1 (pt_cmpR (op_eqD hr.units) (pv 4) (pe_lst pa_nil) (nomark _))))))))
          (pss_one (ps_ret pe_bl)) pss_nil)
        (pss_cons (ps_set (i := 7) scPartsBy.nd rfl (Or.inl rfl) pe_int)
        (pss_cons (ps_if (pt_cmpR op_eq (pe_ix ix_tup (pv 5) pe_int (fun _ _ => rfl)) pe_str (nomark _))
          (pss_one (ps_set (i := 7) scPartsBy.nd rfl (Or.inl rfl) (pe_ix ix_list (pe_lst (pa_cons pe_int (pa_cons pe_int pa_nil))) (pe_callTy call_int1 (by rfl) B.int (by decide +kernel) (pa_cons (pe_bm PySem.F.plainAttrs_list PySem.F.slot_list_pop PySem.F.type_list_pop mt_popAt (pv 4) (pa_cons pe_int pa_nil)) pa_nil)) (fun _ _ => rfl)))) pss_nil)
        (pss_one (ps_par (i := 1) (j := 2) (by rfl) scPartsBy.nd rfl rfl (by decide) (by rfl) (by rfl) (pa_cons (pe_ix ix_tup (pv 5) (pv 7) (fun _ _ => rfl)) (pa_cons (pe_ix ix_tup (pv 6) (pv 7) (fun _ _ => rfl)) pa_nil)) (by rfl))))))))
      (pss_one (ps_ret (pe_cmpR (op_eqD hr.units) (pv 4) (pe_lst pa_nil) (nomark _))))), ?read⟩
    case read =>
      obtain ⟨rvs, hRA, hRows⟩ := hR.at_
      have rlen : rvs.length = rs.length := hRows.length.symm
      refine seq_cut (fun σ' H' => ∃ L : Addr, σ' = [some (.ref rA), some (.int p), some (.int q), some (.ref wA), some (.ref L), none, none, none] ∧ H L = none ∧ Same H H' ∧ H' L = some (.lst (wd.map V.bl))) (fun nx imp => ?_) ?_
      · exact ⟨_, rfl, wA, _, rfl, .inr (SqT.of hW), fun L hL => imp _ _ ⟨L, rfl, hL, same_new hL _, upd_same⟩⟩
      rintro σ H1 ⟨L, rfl, hL, s1, hL1⟩
      have rowAt : ∀ (z : Int) (r : List Ordr × Onw), rowN rs z = some r → ∃ v : V, atI rvs z = some v ∧ RowAt o H v r ∧ PlcT o r.2 ∧ ∀ t ∈ tgts r.2, rk t < rk z := fun z r hz => by
        obtain ⟨z0, z1, eg⟩ := rowN_rng hz
        obtain ⟨v, hv, hrow⟩ := paired_getK hRows eg
        have ez : z = ((z.toNat : Nat) : Int) := by omega
        exact ⟨v, by rw [ez]; exact atI_nat hv, hrow, hP r (List.mem_of_getElem? eg), by rw [ez]; exact hK _ _ eg⟩
      refine seq_cut (fun σ' H' => ∃ v1 v2 v5 v6 v7, σ' = [some (.ref rA), v1, v2, some (.ref wA), some (.ref L), v5, v6, v7] ∧ Same H H' ∧ ∃ wd : List Bool, H' L = some (.lst (wd.map V.bl)) ∧ bb = decide (wd = [])) (fun nx imp => ?_) ?_
      · refine ⟨fun m σ' H' => ∃ (p q : Int) (wd : List Bool) (v5 v6 v7 : Option V), σ' = [some (.ref rA), some (.int p), some (.int q), some (.ref wA), some (.ref L), v5, v6, v7] ∧ m = rk p ∧ Same H H' ∧ H' L = some (.lst (wd.map V.bl)) ∧ wd.length ≤ 1500 ∧ PBB rs p q wd bb, ⟨_, p, q, wd, _, _, _, rfl, rfl, s1, hL1, hl, hp⟩, ?_⟩
        clear s1 hL1 hl hp H1 hW p q wd
        rintro m σ H1 ⟨p, q, wd, w5, w6, w7, rfl, rfl, s1, hL1, hl, hp⟩
        have hRA1 := s1 _ _ hRA
        obtain ⟨r, rr, hr1, hr2⟩ : ∃ r rr, rowN rs p = some r ∧ rowN rs q = some rr := by cases hp <;> exact ⟨_, _, by assumption, by assumption⟩
        obtain ⟨v1, a1, a2, a3, a4⟩ := rowAt p r hr1
        obtain ⟨v2, b1, b2, b3, b4⟩ := rowAt q rr hr2
        obtain ⟨aA, aT, aB, ays, rfl, ea1, ea2, ea3, ea4⟩ := a2.at_
        obtain ⟨bA, bT, bB, bys, rfl, eb1, eb2, eb3, eb4⟩ := b2.at_
        refine ⟨_, rfl, _, rfl, rA, _, _, _, rfl, rfl, SqT.of hRA1, a1, _, rfl, _, rfl, rA, _, _, _, rfl, rfl, SqT.of hRA1, b1, aA, bA, o, r, rr, rfl, hO, a2.keep (KeepT.of s1), b2.keep (KeepT.of s1), a3, b3, fun H2 s2 => ⟨_, rfl, ?_⟩⟩
        have s12 := s1.trans s2
        have hL2 := s2 _ _ hL1
        by_cases hf : face r = face rr
        · rw [faceB_iff.mpr hf]
          refine iteT ⟨fun σ' H' => ∃ m', m' < rk p ∧ ∃ (p q : Int) (wd : List Bool) (v5 v6 v7 : Option V), σ' = [some (.ref rA), some (.int p), some (.int q), some (.ref wA), some (.ref L), v5, v6, v7] ∧ m' = rk p ∧ Same H H' ∧ H' L = some (.lst (wd.map V.bl)) ∧ wd.length ≤ 1500 ∧ PBB rs p q wd bb, fun σ' H' z => z, ?_⟩
          refine seq_cut (fun σ' H' => σ' = [some (.ref rA), some (.int p), some (.int q), some (.ref wA), some (.ref L), some (.ref aB), some (.ref bB), w7] ∧ H' = H2) (fun nx2 imp2 => ?_) ?_
          · refine ⟨_, rfl, _, rfl, rA, _, _, _, rfl, rfl, SqT.of (s12 _ _ hRA), a1, aA, _, _, _, rfl, rfl, SqT.of (s12 _ _ ea1), atOne, _, rfl, _, rfl, rA, _, _, _, rfl, rfl, SqT.of (s12 _ _ hRA), b1, bA, _, _, _, rfl, rfl, SqT.of (s12 _ _ eb1), atOne, _, _, rfl, imp2 _ _ ⟨rfl, rfl⟩⟩
          rintro σ H3 ⟨rfl, eH⟩
          subst eH
          cases hp with
          | here e1 e2 d =>
            rw [hr1] at e1
            rw [hr2] at e2
            cases e1
            cases e2
            exact absurd hf d
          | fin e1 e2 =>
            rw [hr1] at e1
            rw [hr2] at e2
            cases e1
            cases e2
            have ob := s12 _ _ (onw_fin ea4)
            refine ⟨_, rfl, aB, _, _, _, rfl, rfl, SqT.of ob, at0, rfl, _, rfl, ?_⟩
            rw [decide_eq_true rfl]
            exact iteT (iteT (qq _ s12))
          | out e1 e2 =>
            rw [hr1] at e1
            rw [hr2] at e2
            cases e1
            cases e2
            obtain ⟨plA, ob, _⟩ := onw_test ea4
            have ob := s12 _ _ ob
            refine ⟨_, rfl, aB, _, _, _, rfl, rfl, SqT.of ob, at0, rfl, _, rfl, ?_⟩
            rw [decide_eq_false (fun z => absurd (V.str.inj z) go_end.2.1)]
            refine iteF ⟨_, rfl, aB, _, _, _, rfl, rfl, SqT.of ob, at0, rfl, _, rfl, ?_⟩
            rw [decide_eq_true rfl]
            refine iteT ⟨_, rfl, (by show 0 ≤ sizeLine; decide), fun e0 he0 => ?_⟩
            have t1 := same_new he0 (.lst [])
            refine ⟨.list (([] : List Bool).map PyData.bool), .list [], .lst (SqL.of (t1 _ _ hL2)) (dp_bls _), .lst (SqL.of upd_same) .nil, shaped_bls _, shaped_bls [], _, rfl, ?_⟩
            rw [eqv_bls, decide_eq_true rfl]
            exact iteT (qq _ (s12.trans t1))
          | @go _ _ j k cs _ _ e1 e2 hp =>
            rw [hr1] at e1
            rw [hr2] at e2
            cases e1
            cases e2
            have ob := s12 _ _ (onw_go ea4)
            have fb := s12 _ _ (onw_go eb4)
            refine seq_cut (fun σ' H' => σ' = [some (.ref rA), some (.int p), some (.int q), some (.ref wA), some (.ref L), some (.ref aB), some (.ref bB), w7] ∧ H' = H3) (fun nx2 imp2 => ?_) ?_
            · refine ⟨_, rfl, aB, _, _, _, rfl, rfl, SqT.of ob, at0, rfl, _, rfl, ?_⟩
              rw [decide_eq_false (fun z => absurd (V.str.inj z) go_end.1)]
              refine iteF ⟨_, rfl, aB, _, _, _, rfl, rfl, SqT.of ob, at0, rfl, _, rfl, ?_⟩
              rw [decide_eq_false (fun z => absurd (V.str.inj z) go_end.2.2.2.2.2)]
              exact iteF (iteF (imp2 _ _ ⟨rfl, rfl⟩))
            rintro σ H4 ⟨rfl, eH⟩
            subst eH
            refine seq_cut (fun σ' H' => σ' = [some (.ref rA), some (.int p), some (.int q), some (.ref wA), some (.ref L), some (.ref aB), some (.ref bB), some (.int 1)] ∧ H' = H4) (fun nx2 imp2 => imp2 _ _ ⟨rfl, rfl⟩) ?_
            rintro σ H5 ⟨rfl, eH⟩
            subst eH
            refine seq_cut (fun σ' H' => σ' = [some (.ref rA), some (.int p), some (.int q), some (.ref wA), some (.ref L), some (.ref aB), some (.ref bB), some (.int 1)] ∧ H' = H5) (fun nx2 imp2 => ?_) ?_
            · refine ⟨_, rfl, aB, _, _, _, rfl, rfl, SqT.of ob, at0, rfl, _, rfl, ?_⟩
              rw [decide_eq_false (fun z => absurd (V.str.inj z) go_end.2.2.2.2.2)]
              exact iteF (imp2 _ _ ⟨rfl, rfl⟩)
            rintro σ H6 ⟨rfl, eH⟩
            subst eH
            refine ⟨_, rfl, _, rfl, aB, _, _, _, rfl, rfl, SqT.of ob, atOne, _, rfl, _, rfl, bB, _, _, _, rfl, rfl, SqT.of fb, atOne, _, _, rfl, _, a4 j List.mem_cons_self, j, k, wd, _, _, _, rfl, rfl, s12, hL2, hl, hp⟩
          | @tt _ _ j k j' k' cs c wd _ e1 e2 hp =>
            rw [hr1] at e1
            rw [hr2] at e2
            cases e1
            cases e2
            obtain ⟨plA, ob, _⟩ := onw_test ea4
            obtain ⟨plB, fb, _⟩ := onw_test eb4
            have ob := s12 _ _ ob
            have fb := s12 _ _ fb
            refine seq_cut (fun σ' H' => σ' = [some (.ref rA), some (.int p), some (.int q), some (.ref wA), some (.ref L), some (.ref aB), some (.ref bB), w7] ∧ Same H3 H') (fun nx2 imp2 => ?_) ?_
            · refine ⟨_, rfl, aB, _, _, _, rfl, rfl, SqT.of ob, at0, rfl, _, rfl, ?_⟩
              rw [decide_eq_false (fun z => absurd (V.str.inj z) go_end.2.1)]
              refine iteF ⟨_, rfl, aB, _, _, _, rfl, rfl, SqT.of ob, at0, rfl, _, rfl, ?_⟩
              rw [decide_eq_true rfl]
              refine iteT ⟨_, rfl, (by show 0 ≤ sizeLine; decide), fun e0 he0 => ?_⟩
              have t1 := same_new he0 (.lst [])
              refine ⟨.list ((true :: wd).map PyData.bool), .list [], .lst (SqL.of (t1 _ _ hL2)) (dp_bls _), .lst (SqL.of upd_same) .nil, shaped_bls _, shaped_bls [], _, rfl, ?_⟩
              rw [eqv_bls, decide_eq_false (fun z => nomatch z)]
              exact iteF (imp2 _ _ ⟨rfl, t1⟩)
            rintro σ H4 ⟨rfl, t1⟩
            refine seq_cut (fun σ' H' => σ' = [some (.ref rA), some (.int p), some (.int q), some (.ref wA), some (.ref L), some (.ref aB), some (.ref bB), some (.int 1)] ∧ H' = H4) (fun nx2 imp2 => imp2 _ _ ⟨rfl, rfl⟩) ?_
            rintro σ H5 ⟨rfl, eH⟩
            subst eH
            refine seq_cut (fun σ' H' => σ' = [some (.ref rA), some (.int p), some (.int q), some (.ref wA), some (.ref L), some (.ref aB), some (.ref bB), some (.int 2)] ∧ Same H H' ∧ H' L = some (.lst (wd.map V.bl)) ∧ H' aB = some (.tup [.str (Str.ofString "test"), .ref plA, .int j, .int k]) ∧ H' bB = some (.tup [.str (Str.ofString "test"), .ref plB, .int j', .int k'])) (fun nx2 imp2 => ?_) ?_
            · refine ⟨_, rfl, aB, _, _, _, rfl, rfl, SqT.of (t1 _ _ ob), at0, rfl, _, rfl, ?_⟩
              rw [decide_eq_true rfl]
              refine iteT ⟨(by show 2 ≤ sizeLine; decide), fun e1 he1 => ?_⟩
              have t2 := t1.trans (same_new he1 (.lst [V.int 3, V.int 2]))
              have nL : e1 ≠ L := fun z => by rw [z, t1 _ _ hL2] at he1; cases he1
              refine ⟨_, rfl, .inl ⟨rfl, _, SqL.of (t2 _ _ hL2)⟩, L, _, 0, 0, .bl true, rfl, rfl, t2 _ _ hL2, by decide, by decide, seqIndex_of (Int.le_refl 0) (by rw [List.length_map, List.length_cons]; omega), rfl, .inr ⟨true, rfl, ?_⟩⟩
              refine ⟨e1, [.int 3, .int 2], 1, .int 2, rfl, rfl, SqL.of ?_, rfl, imp2 _ _ ⟨rfl, ?_, ?_, ?_, ?_⟩⟩
              · rw [upd_ne nL]
                exact upd_same
              · intro c u e
                rw [upd_ne (ne_of_none e hL)]
                exact t2 _ _ (s12 _ _ e)
              · rw [upd_same]
                rfl
              · rw [upd_ne (fun z => by rw [z, hL2] at ob; cases ob)]
                exact t2 _ _ ob
              · rw [upd_ne (fun z => by rw [z, hL2] at fb; cases fb)]
                exact t2 _ _ fb
            rintro σ H6 ⟨rfl, s6, hL6, ob6, fb6⟩
            refine ⟨_, rfl, _, rfl, aB, _, _, _, rfl, rfl, SqT.of ob6, rfl, _, rfl, _, rfl, bB, _, _, _, rfl, rfl, SqT.of fb6, rfl, _, _, rfl, _, a4 j List.mem_cons_self, j, j', wd, _, _, _, rfl, rfl, s6, hL6, by rw [List.length_cons] at hl; omega, hp⟩
          | @ff _ _ j k j' k' cs c wd _ e1 e2 hp =>
            rw [hr1] at e1
            rw [hr2] at e2
            cases e1
            cases e2
            obtain ⟨plA, ob, _⟩ := onw_test ea4
            obtain ⟨plB, fb, _⟩ := onw_test eb4
            have ob := s12 _ _ ob
            have fb := s12 _ _ fb
            refine seq_cut (fun σ' H' => σ' = [some (.ref rA), some (.int p), some (.int q), some (.ref wA), some (.ref L), some (.ref aB), some (.ref bB), w7] ∧ Same H3 H') (fun nx2 imp2 => ?_) ?_
            · refine ⟨_, rfl, aB, _, _, _, rfl, rfl, SqT.of ob, at0, rfl, _, rfl, ?_⟩
              rw [decide_eq_false (fun z => absurd (V.str.inj z) go_end.2.1)]
              refine iteF ⟨_, rfl, aB, _, _, _, rfl, rfl, SqT.of ob, at0, rfl, _, rfl, ?_⟩
              rw [decide_eq_true rfl]
              refine iteT ⟨_, rfl, (by show 0 ≤ sizeLine; decide), fun e0 he0 => ?_⟩
              have t1 := same_new he0 (.lst [])
              refine ⟨.list ((false :: wd).map PyData.bool), .list [], .lst (SqL.of (t1 _ _ hL2)) (dp_bls _), .lst (SqL.of upd_same) .nil, shaped_bls _, shaped_bls [], _, rfl, ?_⟩
              rw [eqv_bls, decide_eq_false (fun z => nomatch z)]
              exact iteF (imp2 _ _ ⟨rfl, t1⟩)
            rintro σ H4 ⟨rfl, t1⟩
            refine seq_cut (fun σ' H' => σ' = [some (.ref rA), some (.int p), some (.int q), some (.ref wA), some (.ref L), some (.ref aB), some (.ref bB), some (.int 1)] ∧ H' = H4) (fun nx2 imp2 => imp2 _ _ ⟨rfl, rfl⟩) ?_
            rintro σ H5 ⟨rfl, eH⟩
            subst eH
            refine seq_cut (fun σ' H' => σ' = [some (.ref rA), some (.int p), some (.int q), some (.ref wA), some (.ref L), some (.ref aB), some (.ref bB), some (.int 3)] ∧ Same H H' ∧ H' L = some (.lst (wd.map V.bl)) ∧ H' aB = some (.tup [.str (Str.ofString "test"), .ref plA, .int j, .int k]) ∧ H' bB = some (.tup [.str (Str.ofString "test"), .ref plB, .int j', .int k'])) (fun nx2 imp2 => ?_) ?_
            · refine ⟨_, rfl, aB, _, _, _, rfl, rfl, SqT.of (t1 _ _ ob), at0, rfl, _, rfl, ?_⟩
              rw [decide_eq_true rfl]
              refine iteT ⟨(by show 2 ≤ sizeLine; decide), fun e1 he1 => ?_⟩
              have t2 := t1.trans (same_new he1 (.lst [V.int 3, V.int 2]))
              have nL : e1 ≠ L := fun z => by rw [z, t1 _ _ hL2] at he1; cases he1
              refine ⟨_, rfl, .inl ⟨rfl, _, SqL.of (t2 _ _ hL2)⟩, L, _, 0, 0, .bl false, rfl, rfl, t2 _ _ hL2, by decide, by decide, seqIndex_of (Int.le_refl 0) (by rw [List.length_map, List.length_cons]; omega), rfl, .inr ⟨false, rfl, ?_⟩⟩
              refine ⟨e1, [.int 3, .int 2], 0, .int 3, rfl, rfl, SqL.of ?_, rfl, imp2 _ _ ⟨rfl, ?_, ?_, ?_, ?_⟩⟩
              · rw [upd_ne nL]
                exact upd_same
              · intro c u e
                rw [upd_ne (ne_of_none e hL)]
                exact t2 _ _ (s12 _ _ e)
              · rw [upd_same]
                rfl
              · rw [upd_ne (fun z => by rw [z, hL2] at ob; cases ob)]
                exact t2 _ _ ob
              · rw [upd_ne (fun z => by rw [z, hL2] at fb; cases fb)]
                exact t2 _ _ fb
            rintro σ H6 ⟨rfl, s6, hL6, ob6, fb6⟩
            refine ⟨_, rfl, _, rfl, aB, _, _, _, rfl, rfl, SqT.of ob6, atThree, _, rfl, _, rfl, bB, _, _, _, rfl, rfl, SqT.of fb6, atThree, _, _, rfl, _, a4 k (List.mem_cons_of_mem _ List.mem_cons_self), k, k', wd, _, _, _, rfl, rfl, s6, hL6, by rw [List.length_cons] at hl; omega, hp⟩
        · rw [show faceB r rr = false from Bool.eq_false_iff.mpr fun z => hf (faceB_iff.mp z)]
          refine iteF (imp _ _ ⟨_, _, _, _, _, rfl, s12, ?_⟩)
          cases hp with
          | here e1 e2 d => exact ⟨wd, hL2, rfl⟩
          | fin e1 e2 => rw [hr1] at e1; rw [hr2] at e2; cases e1; cases e2; exact absurd rfl hf
          | go e1 e2 hp => rw [hr1] at e1; rw [hr2] at e2; cases e1; cases e2; exact absurd rfl hf
          | out e1 e2 => rw [hr1] at e1; rw [hr2] at e2; cases e1; cases e2; exact absurd rfl hf
          | tt e1 e2 hp => rw [hr1] at e1; rw [hr2] at e2; cases e1; cases e2; exact absurd rfl hf
          | ff e1 e2 hp => rw [hr1] at e1; rw [hr2] at e2; cases e1; cases e2; exact absurd rfl hf
      rintro σ H2 ⟨v1, v2, v5, v6, v7, rfl, s2, wd, hL2, eb⟩
      refine ⟨_, rfl, (by show 0 ≤ sizeLine; decide), fun e0 he0 => ?_⟩
      have t1 := same_new he0 (.lst [])
      refine ⟨.list (wd.map PyData.bool), .list [], .lst (SqL.of (t1 _ _ hL2)) (dp_bls _), .lst (SqL.of upd_same) .nil, shaped_bls wd, shaped_bls [], ?_⟩
      rw [eqv_bls, ← eb]
      exact qq _ (s2.trans t1)
end
end My
set_option Elab.async false
set_option linter.all false
set_option maxRecDepth 100000
set_option maxHeartbeats 4000000
namespace My
open PySem L2 TL Sx
abbrev sPut : Stmt := top 28
abbrev sLaid : Stmt := top 29
theorem paired_of {α β : Type} {R : α → β → Prop} : ∀ {xs : List α} {ys : List β}, xs.length = ys.length → (∀ (j : Nat) (x : α) (y : β), xs[j]? = some x → ys[j]? = some y → R x y) → Paired R xs ys
  | [], [], _, _ => .nil
  | [], _ :: _, e, _ => by cases e
  | _ :: _, [], e, _ => by cases e
  | x :: xs, y :: ys, e, h => .cons (h 0 x y rfl rfl) (paired_of (by simpa using e) fun j a b ha hb => h (j + 1) a b (by simpa using ha) (by simpa using hb))
def numOf (ns : List Int) (t : Int) : Int := ns.getD t.toNat 0
def spPutN : Sp := fun vs H Q _ => ∃ (b nA : Addr) (u : Onw) (ns : List Int), vs = [.ref b, .ref nA] ∧ Tp H (.ref b) (onwD u) ∧ H nA = some (.lst (ns.map V.int)) ∧ (∀ t ∈ tgts u, 0 ≤ t ∧ t < ns.length) ∧ ∀ (c : Addr) (H' : Hp), Same H H' → Tp H' (.ref c) (onwD (renO (numOf ns) u)) → Q (.ref c) H'
abbrev NPu : List Str := ["onward", "numbers", "this"]
/-- the row of p, laid -/
def laidRow (g : Prog) (ns : List Int) (j : Nat) : List Ordr × Onw := ((g.getD j ([], .fin)).1, renO (numOf ns) (g.getD j ([], .fin)).2)
def laidP (g : Prog) (ns : List Int) : Prog := (List.range g.length).map fun (p : Nat) => laidRow g ns (ns.idxOf (p : Int))
structure PermN (n : Nat) (ns : List Int) : Prop where
  pm : ns.Perm ((List.range n).map fun (i : Nat) => (i : Int))
theorem PermN.len {n : Nat} {ns : List Int} (h : PermN n ns) : ns.length = n := by rw [h.pm.length_eq, List.length_map, List.length_range]
theorem PermN.mem {n : Nat} {ns : List Int} (h : PermN n ns) {x : Int} : x ∈ ns ↔ 0 ≤ x ∧ x < n := by
  rw [h.pm.mem_iff, List.mem_map]
  constructor
  · rintro ⟨i, hi, rfl⟩
    have := List.mem_range.mp hi
    omega
  · rintro ⟨h0, h1⟩
    exact ⟨x.toNat, List.mem_range.mpr (by omega), by omega⟩
theorem PermN.nd {n : Nat} {ns : List Int} (h : PermN n ns) : ns.Nodup := by
  refine h.pm.nodup_iff.mpr ?_
  exact List.pairwise_map.mpr (List.nodup_range.imp fun {a b} h e => h (by omega))
theorem PermN.rng {n : Nat} {ns : List Int} (h : PermN n ns) {t : Int} (h0 : 0 ≤ t) (h1 : t < n) : 0 ≤ numOf ns t ∧ numOf ns t < n := by
  unfold numOf
  have l := h.len
  have e : ns[t.toNat]? = some ns[t.toNat] := List.getElem?_eq_getElem (by omega)
  rw [List.getD_eq_getElem?_getD, e]
  exact h.mem.mp (List.getElem_mem _)
theorem PermN.idx {n : Nat} {ns : List Int} (h : PermN n ns) {t : Int} (h0 : 0 ≤ t) (h1 : t < n) : ns.idxOf (numOf ns t) = t.toNat := by
  unfold numOf
  have l := h.len
  have lt : t.toNat < ns.length := by omega
  have e : ns[t.toNat]? = some ns[t.toNat] := List.getElem?_eq_getElem lt
  rw [List.getD_eq_getElem?_getD, e]
  exact h.nd.idxOf_getElem _ lt
theorem PermN.inv {n : Nat} {ns : List Int} (h : PermN n ns) {p : Nat} (hp : p < n) : ns.idxOf (p : Int) < n ∧ ns[ns.idxOf (p : Int)]? = some (p : Int) := by
  have m : (p : Int) ∈ ns := h.mem.mpr (by omega)
  have l := List.idxOf_lt_length_of_mem m
  rw [h.len] at l
  refine ⟨l, ?_⟩
  rw [List.getElem?_eq_getElem (by rw [h.len]; exact l)]
  simp
theorem onw_of {o : OwnD} {m : Int} {u : Onw} (h1 : PlcT o u) (h2 : ∀ t ∈ tgts u, 0 ≤ t ∧ t < m) : OnwOk o m (-1) u := by
  cases u with
  | fin => trivial
  | go j =>
    have := h2 j List.mem_cons_self
    exact ⟨by omega, this.2⟩
  | test c x y =>
    have a := h2 x List.mem_cons_self
    have b := h2 y (List.mem_cons_of_mem _ List.mem_cons_self)
    exact ⟨h1 c x y rfl, ⟨by omega, a.2⟩, by omega, b.2⟩
/-- no row goes on in a ring: the ranks fall -/
def Ranked (rs : Prog) : Prop := ∃ rk : Int → Nat, (∀ p, rk p ≤ rs.length) ∧ ∀ (i : Nat) r, rs[i]? = some r → ∀ t ∈ tgts r.2, rk t < rk i
/-- the rows of a chain, laid anywhere, are good -/
theorem laid_good {o : OwnD} {g : Prog} {ns : List Int} (hP : PermN g.length ns) (hPk : ProgOk o g.length g) : (laidP g ns).length = g.length ∧ RowsGood o (laidP g ns) ∧ Ranked (laidP g ns) := by
  have ll : (laidP g ns).length = g.length := by unfold laidP; rw [List.length_map, List.length_range]
  have row : ∀ (i : Nat) r, (laidP g ns)[i]? = some r → ∃ (j : Nat) (cs : List Ordr) (u : Onw), j = ns.idxOf (i : Int) ∧ g[j]? = some (cs, u) ∧ r = (cs, renO (numOf ns) u) := fun i r hr => by
    have hi := (List.getElem?_eq_some_iff.mp hr).1
    rw [ll] at hi
    unfold laidP at hr
    rw [List.getElem?_map, List.getElem?_eq_getElem (by rw [List.length_range]; exact hi), List.getElem_range] at hr
    have hr : laidRow g ns (ns.idxOf (i : Int)) = r := Option.some.inj hr
    obtain ⟨k1, k2⟩ := hP.inv hi
    have eg : g[ns.idxOf (i : Int)]? = some g[ns.idxOf (i : Int)] := List.getElem?_eq_getElem k1
    refine ⟨_, g[ns.idxOf (i : Int)].1, g[ns.idxOf (i : Int)].2, rfl, eg, ?_⟩
    rw [← hr]
    unfold laidRow
    rw [List.getD_eq_getElem?_getD, eg]
    rfl
  have tg : ∀ (i : Nat) r, (laidP g ns)[i]? = some r → OnwOk o g.length (-1) r.2 := fun i r hr => by
    obtain ⟨j, cs, u, _, eg, rfl⟩ := row i r hr
    have ok : OnwOk o g.length (j : Nat) u := hPk j _ eg
    refine onw_of (ok.plcT.ren _) fun t ht => ?_
    have ht : t ∈ tgts (renO (numOf ns) u) := ht
    rw [tgts_ren] at ht
    obtain ⟨t', ht', rfl⟩ := List.mem_map.mp ht
    have := ok.tg t' ht'
    exact hP.rng (by omega) this.2
  refine ⟨ll, ⟨fun i r hr t ht => ?_, fun r hr => ?_⟩, fun p => g.length - ns.idxOf p, fun p => by rw [ll]; exact Nat.sub_le _ _, fun i r hr t ht => ?_⟩
  · rw [ll]
    have := (tg i r hr).tg t ht
    omega
  · obtain ⟨i, hi⟩ := List.mem_iff_getElem?.mp hr
    exact (tg i r hi).plcT
  · have hi := (List.getElem?_eq_some_iff.mp hr).1
    rw [ll] at hi
    obtain ⟨j, cs, u, ej, eg, rfl⟩ := row i r hr
    have ok : OnwOk o g.length (j : Nat) u := hPk j _ eg
    have ht : t ∈ tgts (renO (numOf ns) u) := ht
    rw [tgts_ren] at ht
    obtain ⟨t', ht', rfl⟩ := List.mem_map.mp ht
    have o2 := ok.tg t' ht'
    show g.length - ns.idxOf (numOf ns t') < g.length - ns.idxOf ((i : Nat) : Int)
    rw [hP.idx (by omega) o2.2, ← ej]
    have := (hP.inv hi).1
    omega
def spLaid : Sp := fun vs H Q _ => ∃ (k p : Addr) (n : Nat) (o : OwnD) (most : Nat), vs = [.ref k, .ref p, .int most] ∧ Sack H k n ∧ n < 1000 ∧ Tp H (.ref p) (ownD o) ∧ OwnOk o ∧ 1 ≤ most ∧ most ≤ 30 ∧
  ∀ (t rA : Addr) (v2 : V) (rs : Prog) (H' : Hp), SameBut k H H' → Sack H' k (n + 6000) → H' t = some (.tup [.ref rA, v2]) → ProgAt o H' rA rs → RowsGood o rs → Ranked rs → 1 ≤ rs.length → rs.length ≤ most → Q (.ref t) H'
abbrev NLd : List Str := ["bag", "kit", "most", "pool", "prog", "left", "numbers", "rows", "k", "names", "name"]
section
variable {P : Program} {w : World} {K : PySem.W.Frag} {mg : Str → Option Value} {base : Heap}
theorem scPut : FnScope NPu ["onward", "numbers"] (defScope sPut) := ⟨rfl, rfl, rfl, by decide +kernel, rfl, by decide +kernel, by decide +kernel⟩
theorem scLaid : FnScope NLd ["bag", "kit", "most"] (defScope sLaid) := ⟨rfl, rfl, rfl, by decide +kernel, rfl, by decide +kernel, by decide +kernel⟩
theorem ok_putN {f : Addr} {fd : FuncData} (F : Fun K "_law_put" "_law_put" sPut f fd) (B : Bl mg) : FnOk P w K mg base CX0 1 f fd ["onward", "numbers"] spPutN := by
  refine F.ok scPut (fun vs H Q E h => ?_) (fun cdv A outer s H vs Q E hr h => ?_)
  · obtain ⟨b, nA, u, ns, rfl, _⟩ := h
    rfl
  · obtain ⟨b, nA, u, ns, rfl, hB, hN, hT, q⟩ := h
    refine ⟨_, pss_one (ps_ret (pe_callTy call_tuple_of (by rfl) B.tup (by decide +kernel) (pa_cons (pe_lc (own := [("this", 2)]) (g := gName 2) (te := tIf (tB (tCB (rIsiK K) (tCons (tVar 2) (tCons (tC (.ty "int")) tNil)))) (tOp (rIxL K) (tVar 1) (tVar 2)) (tVar 2)) (by rfl) scPut.nd (pi_tup (pv 0)) (blkOk_by (own := [("this", 2)]) (N := NPu) (sc := defScope sPut) (by decide +kernel)) (fun _ _ _ _ _ => pg_name (i := 2) scPut.nd rfl (Or.inl rfl)) (fun _ _ _ _ _ => pts_nil)
      (fun _ _ _ _ _ => pe_ifExp (pt_val (pe_callB call_isi (by rfl) B.isi (by decide +kernel) (pa_cons (pv 2) (pa_cons (pe_bltn (v := .ty "int") (by rfl) B.int (by decide +kernel) rfl) pa_nil)))) (pe_ix ix_list (pv 1) (pv 2) (fun _ _ => rfl)) (pv 2))) pa_nil))), ?read⟩
    case read =>
      obtain ⟨xs, ys, hb, hl, hl10, hel, htp⟩ : ∃ xs ys : List V, H b = some (.tup xs) ∧ xs.length = ys.length ∧ xs.length ≤ 10 ∧ (∀ (i : Nat) (x y : V), xs[i]? = some x → ys[i]? = some y → (∃ t : Int, x = .int t ∧ 0 ≤ t ∧ t < ns.length ∧ y = .int (numOf ns t)) ∨ (((∃ z, x = .str z) ∨ ∃ a zs, x = .ref a ∧ H a = some (.tup zs)) ∧ y = x)) ∧
          (∀ (c : Addr) (H' : Hp), Same H H' → H' c = some (.tup ys) → Tp H' (.ref c) (onwD (renO (numOf ns) u))) := by
        cases u with
        | fin =>
          refine ⟨_, _, onw_fin hB, rfl, (by show 1 ≤ 10; decide), fun i x y hx hy => ?_, fun c H' s e => .tup e (.cons (.str _) .nil)⟩
          rw [hx] at hy
          cases hy
          rw [List.mem_singleton.mp (List.mem_of_getElem? hx)]
          exact .inr ⟨.inl ⟨_, rfl⟩, rfl⟩
        | go j =>
          have hj := hT j List.mem_cons_self
          refine ⟨_, [.str (Str.ofString "go"), .int (numOf ns j)], onw_go hB, rfl, (by show 2 ≤ 10; decide), fun i x y hx hy => ?_, fun c H' s e => .tup e (.cons (.str _) (.cons (.int _) .nil))⟩
          match i, hx, hy with
          | 0, hx, hy => cases hx; cases hy; exact .inr ⟨.inl ⟨_, rfl⟩, rfl⟩
          | 1, hx, hy => cases hx; cases hy; exact .inl ⟨j, rfl, hj.1, hj.2, rfl⟩
          | n + 2, hx, _ => simp at hx
        | test c i0 j =>
          obtain ⟨a, e, ta⟩ := onw_test hB
          obtain ⟨a', zs, ea, ez⟩ := plc_ref ta
          cases ea
          have hi := hT i0 List.mem_cons_self
          have hj := hT j (List.mem_cons_of_mem _ List.mem_cons_self)
          refine ⟨_, [.str (Str.ofString "test"), .ref a, .int (numOf ns i0), .int (numOf ns j)], e, rfl, (by show 4 ≤ 10; decide), fun i x y hx hy => ?_, fun c H' s e => .tup e (.cons (.str _) (.cons (ta.keep (KeepT.of s)) (.cons (.int _) (.cons (.int _) .nil))))⟩
          match i, hx, hy with
          | 0, hx, hy => cases hx; cases hy; exact .inr ⟨.inl ⟨_, rfl⟩, rfl⟩
          | 1, hx, hy => cases hx; cases hy; exact .inr ⟨.inr ⟨_, _, rfl, ez⟩, rfl⟩
          | 2, hx, hy => cases hx; cases hy; exact .inl ⟨i0, rfl, hi.1, hi.2, rfl⟩
          | 3, hx, hy => cases hx; cases hy; exact .inl ⟨j, rfl, hj.1, hj.2, rfl⟩
          | n + 4, hx, _ => simp at hx
      refine ⟨_, rfl, b, rfl, ⟨_, SqT.of hb⟩, fun D hD => ?_⟩
      refine lc_tup (K := K) (a := b) (xs := xs) (fun i H3 => H3 D = some (.lst (ys.take i)) ∧ Same H H3) ⟨upd_same, same_new hD _⟩ (fun i H3 _ z => SqT.of (z.2 _ _ hb)) (fun i x H3 hx z => ?_) (fun H3 z => ?_)
      · obtain ⟨z1, z3⟩ := z
        have hi := (List.getElem?_eq_some_iff.mp hx).1
        obtain ⟨y, hy⟩ : ∃ y, ys[i]? = some y := ⟨_, List.getElem?_eq_getElem (by omega)⟩
        have fin : ∃ acc, H3 D = some (.lst acc) ∧ acc.length < sizeLine ∧ upd H3 D (.lst (acc ++ [y])) D = some (.lst (ys.take (i + 1))) ∧ Same H (upd H3 D (.lst (acc ++ [y]))) := by
          refine ⟨_, z1, small1000 (by rw [List.length_take]; omega), ?_, ?_⟩
          · rw [upd_same, List.take_add_one, hy]; rfl
          · intro b' u ee
            rw [upd_ne (ne_of_none ee hD)]
            exact z3 _ _ ee
        refine ⟨rfl, ?_⟩
        rcases hel i x y hx hy with ⟨t, rfl, t0, t1, rfl⟩ | ⟨hk, rfl⟩
        · have hat : atI (ns.map V.int) t = some (.int (numOf ns t)) := by
            have e : t = ((t.toNat : Nat) : Int) := by omega
            have e2 : (ns.map V.int)[t.toNat]? = some (.int (numOf ns t)) := by
              rw [List.getElem?_map, List.getElem?_eq_getElem (by omega)]
              unfold numOf
              rw [List.getD_eq_getElem?_getD, List.getElem?_eq_getElem (by omega)]
              rfl
            rw [e]
            exact atI_nat (by rw [← e]; exact e2)
          exact ⟨_, rfl, _, _, _, true, rfl, .int _, kitII, _, rfl, iteT ⟨_, rfl, _, rfl, nA, _, _, _, rfl, rfl, SqL.of (z3 _ _ hN), hat, fin⟩⟩
        · rcases hk with ⟨z, rfl⟩ | ⟨a, zs, rfl, ez⟩
          · exact ⟨_, rfl, _, _, _, false, rfl, .str _, kitSI, _, rfl, iteF ⟨_, rfl, fin⟩⟩
          · exact ⟨_, rfl, _, _, _, false, rfl, .tup (z3 _ _ ez), kitTI, _, rfl, iteF ⟨_, rfl, fin⟩⟩
      · obtain ⟨z1, z3⟩ := z
        rw [hl, List.take_length] at z1
        refine ⟨D, _, rfl, .inl ⟨SqL.of z1, fun c hc => ?_⟩⟩
        have sc := same_new hc (.tup ys)
        exact q c _ (z3.trans sc) (htp c _ (z3.trans sc) upd_same)
theorem ok_laid {f : Addr} {fd : FuncData} (F : Fun K "_law_laid" "_law_laid" sLaid f fd) (D : DfO K mg) (dO : Df K mg "_law_orders" sOrders ["bag", "kit"]) (dN : Df K mg "_law_names" sNamesL ["bag", "many"]) (dC : Df K mg "_law_chain" sChain ["bag", "kit", "many", "pool"]) (dU : Df K mg "_law_put" sPut ["onward", "numbers"]) (B : Bl mg) :
    FnOk P w K mg base CX0 7 f fd ["bag", "kit", "most"] spLaid := by
  have dP := D.pull
  have GP : FnOk P w K mg base CX0 1 dP.f dP.fd ["bag", "many"] spPull := ok_pull dP.F
  have GO : FnOk P w K mg base CX0 6 dO.f dO.fd ["bag", "kit"] spOrders := ok_orders dO.F D B
  have GN : FnOk P w K mg base CX0 2 dN.f dN.fd ["bag", "many"] spNm5 := ok_namesL dN.F dP B
  have GC : FnOk P w K mg base CX0 3 dC.f dC.fd ["bag", "kit", "many", "pool"] spChain := ok_chain dC.F dP D.place B
  have GU : FnOk P w K mg base CX0 1 dU.f dU.fd ["onward", "numbers"] spPutN := ok_putN dU.F B
  refine F.ok scLaid (fun vs H Q E h => ?_) (fun cdv A outer s H vs Q E hr h => ?_)
  · obtain ⟨k, p, n, o, most, rfl, _⟩ := h
    rfl
  · obtain ⟨k, p, n, o, most, rfl, S0, hn, hT, hO, hm1, hm2, q⟩ := h
    have hr1 : Room 1 _ := hr.mono (by decide)
    have hr2 : Room 2 _ := hr.mono (by decide)
    have hr3 : Room 3 _ := hr.mono (by decide)
    refine ⟨_, pss_cons (ps_setLc (i := 3) (own := [("k", 8)]) (g := gName 8) (te := tCall spOrders [] E0 (tCons (tVar 0) (tCons (tVar 1) tNil))) (by rfl) scLaid.nd rfl rfl (sw_true (by rfl) (by rfl) (by rfl) (by rfl))
        (pi_range1 rfl B.range (pa_cons (pe_op op_add pe_int (pe_call GP hr1 rfl dP.m dP.F.kp dP.b .nil pass0 (pa_cons (pv 0) (pa_cons pe_int pa_nil)))) pa_nil)) (blkOk_by (own := [("k", 8)]) (N := NLd) (sc := defScope sLaid) (by decide +kernel))
        (fun _ _ _ _ _ => pg_name (i := 8) scLaid.nd rfl (Or.inl rfl)) (fun _ _ _ _ _ => pts_nil)
        (fun _ _ _ _ _ => pe_call GO hr rfl dO.m dO.F.kp dO.b .nil pass0 (pa_cons (pv 0) (pa_cons (pv 1) pa_nil))))
      (pss_cons (ps_set (i := 4) scLaid.nd rfl (Or.inl rfl) (pe_call GC hr3 rfl dC.m dC.F.kp dC.b .nil pass0 (pa_cons (pv 0) (pa_cons (pv 1) (pa_cons (pe_op op_add pe_int (pe_call GP hr1 rfl dP.m dP.F.kp dP.b .nil pass0 (pa_cons (pv 0) (pa_cons (pv 2) pa_nil)))) (pa_cons (pv 3) pa_nil))))))
      (pss_cons (ps_set (i := 5) scLaid.nd rfl (Or.inr rfl) (pe_callTy (call_list_rng rfl) (by rfl) B.list (by decide +kernel) (pa_cons (pe_rng rfl B.range (pa_cons (pe_callB call_len_seq (by rfl) B.len PySem.boot_len (pa_cons (pv 4) pa_nil)) pa_nil)) pa_nil)))
      (pss_cons (ps_setLc (i := 6) (own := [("k", 8)]) (g := gName 8) (te := tBM K "list" rPopAt (tVar 5) (tCons (tCall spPull [] E0 (tCons (tVar 0) (tCons (tCB (rLenK K) (tCons (tVar 5) tNil)) tNil))) tNil)) (by rfl) scLaid.nd rfl rfl (sw_true (by rfl) (by rfl) (by rfl) (by rfl))
        (pi_range1 rfl B.range (pa_cons (pe_callB call_len_seq (by rfl) B.len PySem.boot_len (pa_cons (pv 4) pa_nil)) pa_nil)) (blkOk_by (own := [("k", 8)]) (N := NLd) (sc := defScope sLaid) (by decide +kernel))
        (fun _ _ _ _ _ => pg_name (i := 8) scLaid.nd rfl (Or.inl rfl)) (fun _ _ _ _ _ => pts_nil)
        (fun _ _ _ _ _ => pe_bm PySem.F.plainAttrs_list PySem.F.slot_list_pop PySem.F.type_list_pop mt_popAt (pv 5) (pa_cons (pe_call GP hr1 rfl dP.m dP.F.kp dP.b .nil pass0 (pa_cons (pv 0) (pa_cons (pe_callB call_len_seq (by rfl) B.len PySem.boot_len (pa_cons (pv 5) pa_nil)) pa_nil))) pa_nil)))
      (pss_cons (ps_set (i := 7) scLaid.nd rfl (Or.inr rfl) (pe_lc (own := [("k", 8)]) (g := gName 8) (te := tC .non) (by rfl) scLaid.nd (pi_tup (pv 4)) (blkOk_by (own := [("k", 8)]) (N := NLd) (sc := defScope sLaid) (by decide +kernel)) (fun _ _ _ _ _ => pg_name (i := 8) scLaid.nd rfl (Or.inl rfl)) (fun _ _ _ _ _ => pts_nil) (fun _ _ _ _ _ => pe_non)))
      (pss_cons (ps_for PassesOwn.never rfl (pi_range1 rfl B.range (pa_cons (pe_callB call_len_seq (by rfl) B.len PySem.boot_len (pa_cons (pv 4) pa_nil)) pa_nil)) (pg_name (i := 8) scLaid.nd rfl (Or.inl rfl))
        (pss_one (ps_asg (pe_tup (pa_cons (pe_ix ix_tup (pe_ix ix_tup (pv 4) (pv 8) (fun _ _ => rfl)) pe_int (fun _ _ => rfl)) (pa_cons (pe_call GU hr1 rfl dU.m dU.F.kp dU.b .nil pass0 (pa_cons (pe_ix ix_tup (pe_ix ix_tup (pv 4) (pv 8) (fun _ _ => rfl)) pe_int (fun _ _ => rfl)) (pa_cons (pv 6) pa_nil))) pa_nil))) (pg_sub (pv 7) (pe_ix ix_list (pv 6) (pv 8) (fun _ _ => rfl)) set_list))))
      (pss_cons (ps_set (i := 9) scLaid.nd rfl (Or.inl rfl) (pe_callB cr_sortedS (by rfl) B.sorted (by decide +kernel) (pa_cons (pe_call GN hr2 rfl dN.m dN.F.kp dN.b .nil pass0 (pa_cons (pv 0) (pa_cons (pe_op op_add pe_int (pe_call GP hr1 rfl dP.m dP.F.kp dP.b .nil pass0 (pa_cons (pv 0) (pa_cons pe_int pa_nil)))) pa_nil))) pa_nil)))
      (pss_one (ps_ret (pe_tup (pa_cons (pe_callTy call_tuple_of (by rfl) B.tup (by decide +kernel) (pa_cons (pv 7) pa_nil)) (pa_cons (pe_callTy call_tuple_of (by rfl) B.tup (by decide +kernel) (pa_cons (pe_lc (own := [("name", 10)]) (g := gName 10) (te := tTup (tCons (tVar 10) (tCons (tCall spPull [] E0 (tCons (tVar 0) (tCons (tCB (rLenK K) (tCons (tVar 7) tNil)) tNil))) tNil))) (by rfl) scLaid.nd (pi_list (pv 9)) (blkOk_by (own := [("name", 10)]) (N := NLd) (sc := defScope sLaid) (by decide +kernel)) (fun _ _ _ _ _ => pg_name (i := 10) scLaid.nd rfl (Or.inl rfl)) (fun _ _ _ _ _ => pts_nil)
        (fun _ _ _ _ _ => pe_tup (pa_cons (pv 10) (pa_cons (pe_call GP hr1 rfl dP.m dP.F.kp dP.b .nil pass0 (pa_cons (pv 0) (pa_cons (pe_callB call_len_seq (by rfl) B.len PySem.boot_len (pa_cons (pv 7) pa_nil)) pa_nil))) pa_nil)))) pa_nil)) pa_nil))))))))))), ?read⟩
    case read =>
      have nek : ∀ {H1 : Hp} {m : Nat} {b : Addr}, Sack H1 k m → H1 b = none → b ≠ k := fun S hb => by
        obtain ⟨_, _, _, z, _⟩ := S
        exact (ne_of_none z hb).symm
      have fre : ∀ {H1 : Hp} {b : Addr}, SameBut k H H1 → H1 b = none → b ≠ k → H b = none := fun {H1 b} sb hb nb => by
        cases e : H b with
        | none => rfl
        | some u => rw [sb _ _ e nb] at hb; cases hb
      -- pool
      refine seq_cut (fun σ' H' => ∃ (pl : Addr) (pvs : List V) (pool : List (List Ordr)), σ' = [some (.ref k), some (.ref p), some (.int most), some (.ref pl), none, none, none, none, none, none, none] ∧ Sack H' k (n + 310) ∧ SameBut k H H' ∧ H' pl = some (.lst pvs) ∧ pl ≠ k ∧ PoolAt o H' pool pvs ∧ 0 < pvs.length ∧ pvs.length ≤ 3) (fun nx imp => ?_) ?_
      · refine ⟨_, rfl, k, 2, n, rfl, S0, by omega, by decide, by decide, fun r1 H1 a1 b1 sb1 S1 => ⟨_, _, rfl, rfl, _, rfl, by omega, by omega, fun D0 hD0 => ?_⟩⟩
        have nDk := nek S1 hD0
        have hD00 := fre sb1 hD0 nDk
        refine lc_range (lo := 0) (n := ((1 : Int) + r1).toNat) (fun j H4 => ∃ (pvs : List V) (pool : List (List Ordr)), H4 D0 = some (.lst pvs) ∧ pvs.length = j ∧ PoolAt o H4 pool pvs ∧ Sack H4 k (n + 1 + 100 * j) ∧ SameBut k H H4)
          ⟨[], [], upd_same, rfl, .nil, S1.same (same_new hD0 _), sb1.trans (SameBut.new hD0)⟩ ?_ ?_
        · rintro j H4 hj ⟨pvs, pool, d1, d2, d3, S4, sb4⟩
          refine ⟨rfl, _, rfl, _, rfl, k, p, n + 1 + 100 * j, o, rfl, S4, by omega, hT.keep (S0.keepT sb4), hO, fun a ys cs H5 sb5 S5 ha oM _ => ?_⟩
          have d5 := sb5 _ _ d1 nDk
          have kU : KeepT H5 (upd H5 D0 (.lst (pvs ++ [.ref a]))) := KeepT.upd d5
          refine ⟨pvs, d5, small1000 (by omega), pvs ++ [.ref a], pool ++ [cs], upd_same, ?_, ?_, ?_, ?_⟩
          · rw [List.length_append, d2]; rfl
          · exact paired_snocK ⟨a, ys, rfl, kU _ _ ha, oM.keep kU⟩ (PoolAt.keep ((S4.keepT sb5).trans kU) d3)
          · exact (S5.updK nDk).mono (by omega)
          · exact (sb4.trans sb5).updNew hD00
        · rintro H4 ⟨pvs, pool, d1, d2, d3, S4, sb4⟩
          exact imp _ _ ⟨D0, pvs, pool, rfl, S4.mono (by omega), sb4, d1, nDk, d3, by omega, by omega⟩
      rintro σ H1 ⟨pl, pvs, pool, rfl, S1, sb1, hpl1, nlk, hPl1, hp0, hp3⟩
      -- prog
      refine seq_cut (fun σ' H' => ∃ (gA : Addr) (g : Prog), σ' = [some (.ref k), some (.ref p), some (.int most), some (.ref pl), some (.ref gA), none, none, none, none, none, none] ∧ Sack H' k (n + 4400) ∧ SameBut k H H' ∧ ProgAt o H' gA g ∧ 1 ≤ g.length ∧ g.length ≤ most ∧ ProgOk o g.length g) (fun nx imp => ?_) ?_
      · refine ⟨_, rfl, _, rfl, _, rfl, _, rfl, k, most, n + 310, rfl, S1, by omega, by omega, by omega, fun r6 H6 a6 b6 sb6 S6 => ⟨_, _, rfl, rfl, _, rfl, ?_⟩⟩
        have er6 : (1 : Int) + r6 = (((1 + r6).toNat : Nat) : Int) := by omega
        refine ⟨k, p, pl, n + 311, o, (1 + r6).toNat, pvs, pool, (by rw [← er6]; rfl), S6, by omega, hT.keep ((S0.keepT sb1).trans (S1.keepT sb6)), hO, by omega, sb6 _ _ hpl1 nlk, nlk, PoolAt.keep (S1.keepT sb6) hPl1, hp0, by omega, fun a vs g H7 sb7 S7 ha hR hg hPk => ?_⟩
        exact imp _ _ ⟨a, g, rfl, S7.mono (by omega), sb1.trans (sb6.trans sb7), ⟨vs, ha, hR⟩, by omega, by omega, by rw [hg]; exact hPk⟩
      rintro σ H2 ⟨gA, g, rfl, S2, sb2, hG2, hg1, hg4, hPk⟩
      obtain ⟨gvs, hgA2, hgR2⟩ := hG2.at_
      have gl : gvs.length = g.length := hgR2.length.symm
      -- left
      refine seq_cut (fun σ' H' => ∃ (lA : Addr), σ' = [some (.ref k), some (.ref p), some (.int most), some (.ref pl), some (.ref gA), some (.ref lA), none, none, none, none, none] ∧ Same H2 H' ∧ H2 lA = none ∧ H' lA = some (.lst (((List.range g.length).map fun (i : Nat) => (i : Int)).map V.int))) (fun nx imp => ?_) ?_
      · refine ⟨_, rfl, gA, gvs, rfl, .inr (SqT.of hgA2), g.length, by rw [gl], fun r hr => ⟨r, g.length, rfl, upd_same, by omega, by omega, fun l hl => ?_⟩⟩
        have sr := same_new hr (.rng 0 g.length)
        refine imp _ _ ⟨l, rfl, sr.trans (same_new hl _), sr.free hl, ?_⟩
        rw [upd_same, Int.toNat_natCast, List.map_map]
        rfl
      rintro σ H3 ⟨lA, rfl, s3, flA, hl3⟩
      have nlAk := nek S2 flA
      have flH := fre sb2 flA nlAk
      -- numbers
      refine seq_cut (fun σ' H' => ∃ (nA : Addr) (ns : List Int), σ' = [some (.ref k), some (.ref p), some (.int most), some (.ref pl), some (.ref gA), some (.ref lA), some (.ref nA), none, none, none, none] ∧ Sack H' k (n + 4800) ∧ SameBut k H H' ∧ H' nA = some (.lst (ns.map V.int)) ∧ nA ≠ k ∧ PermN g.length ns ∧ KeepT H2 H') (fun nx imp => ?_) ?_
      · refine ⟨_, rfl, gA, gvs, rfl, .inr (SqT.of (s3 _ _ hgA2)), _, rfl, by omega, by omega, fun D0 hD0 => ?_⟩
        have S3 := S2.same s3
        have nDk := nek S3 hD0
        have nDl : lA ≠ D0 := ne_of_none hl3 hD0
        have hD00 := fre (sb2.trans s3.but) hD0 nDk
        refine lc_range (lo := 0) (n := ((gvs.length : Nat) : Int).toNat) (fun i H4 => ∃ ns rest : List Int, H4 D0 = some (.lst (ns.map V.int)) ∧ H4 lA = some (.lst (rest.map V.int)) ∧ ns.length = i ∧ rest.length + i = g.length ∧ (ns ++ rest).Perm ((List.range g.length).map fun (i : Nat) => (i : Int)) ∧ Sack H4 k (n + 4400 + i) ∧ SameBut k H H4 ∧ KeepT H2 H4)
          ⟨[], (List.range g.length).map fun (i : Nat) => (i : Int), upd_same, by rw [upd_ne nDl]; exact hl3, rfl, by rw [List.length_map, List.length_range]; rfl, .refl _, S3.same (same_new hD0 _), (sb2.trans s3.but).trans (SameBut.new hD0), KeepT.of (s3.trans (same_new hD0 _))⟩ ?_ ?_
        · rintro i H4 hi ⟨ns, rest, d1, d2, d3, d4, d5, S4, sb4, k4⟩
          have hi : i < g.length := by omega
          refine ⟨rfl, _, rfl, .inl ⟨rfl, _, SqL.of d2⟩, _, rfl, _, rfl, lA, _, rfl, .inl (SqL.of d2), k, _, n + 4400 + i, rfl, S4, by omega, (by rw [List.length_map]; omega), (by rw [List.length_map]; omega), fun r5 H5 a5 b5 sb5 S5 => ?_⟩
          have b5' : r5 < (rest.length : Nat) := by rw [List.length_map] at b5; exact b5
          have hr5 : r5.toNat < rest.length := by omega
          have d15 := sb5 _ _ d1 nDk
          have d25 := sb5 _ _ d2 nlAk
          refine ⟨lA, _, r5, r5.toNat, .int rest[r5.toNat], rfl, rfl, d25, by omega, by omega, seqIndex_of a5 b5, (by rw [List.getElem?_map, List.getElem?_eq_getElem hr5]; rfl), ?_⟩
          refine ⟨_, (by rw [upd_ne nDl.symm]; exact d15), ?_, ns ++ [rest[r5.toNat]], rest.eraseIdx r5.toNat, ?_, ?_, ?_, ?_, ?_, ?_, ?_, ?_⟩
          · rw [List.length_map]
            exact small1000 (by omega)
          · rw [upd_same, List.map_append]; rfl
          · rw [upd_ne nDl, upd_same, erase_mapK]
          · rw [List.length_append, d3]; rfl
          · rw [List.length_eraseIdx, if_pos hr5]
            omega
          · rw [List.append_assoc]
            exact ((erase_perm rest r5.toNat hr5).append_left ns).trans d5
          · exact (S5.updK nlAk).updK nDk
          · exact ((sb4.trans sb5).updNew flH).updNew hD00
          · have u1 : KeepT H5 (upd H5 lA (.lst ((rest.map V.int).eraseIdx r5.toNat))) := KeepT.upd d25
            have u2 : KeepT (upd H5 lA (.lst ((rest.map V.int).eraseIdx r5.toNat))) (upd (upd H5 lA (.lst ((rest.map V.int).eraseIdx r5.toNat))) D0 (.lst (ns.map V.int ++ [V.int rest[r5.toNat]]))) := KeepT.upd (by rw [upd_ne nDl.symm]; exact d15)
            exact k4.trans ((S4.keepT sb5).trans (u1.trans u2))
        · rintro H4 ⟨ns, rest, d1, d2, d3, d4, d5, S4, sb4, k4⟩
          have e0 : rest = [] := List.eq_nil_of_length_eq_zero (by omega)
          rw [e0, List.append_nil] at d5
          exact imp _ _ ⟨D0, ns, rfl, S4.mono (by omega), sb4, d1, nDk, ⟨d5⟩, k4⟩
      rintro σ H4 ⟨nA, ns, rfl, S4, sb4, hn4, nAk, hPN, k24⟩
      have nl := hPN.len
      -- rows
      refine seq_cut (fun σ' H' => ∃ (rA : Addr), σ' = [some (.ref k), some (.ref p), some (.int most), some (.ref pl), some (.ref gA), some (.ref lA), some (.ref nA), some (.ref rA), none, none, none] ∧ Same H4 H' ∧ H4 rA = none ∧ H' rA = some (.lst (List.replicate g.length V.non))) (fun nx imp => ?_) ?_
      · refine ⟨_, rfl, gA, rfl, ⟨_, SqT.of (k24 _ _ hgA2)⟩, fun D0 hD0 => ?_⟩
        refine lc_tup (K := K) (a := gA) (xs := gvs) (fun i H5 => H5 D0 = some (.lst (List.replicate i V.non)) ∧ Same H4 H5) ⟨upd_same, same_new hD0 _⟩ (fun i H5 _ z => SqT.of (z.2 _ _ (k24 _ _ hgA2))) (fun i x H5 hx z => ?_) (fun H5 z => ?_)
        · obtain ⟨z1, z3⟩ := z
          have hi := (List.getElem?_eq_some_iff.mp hx).1
          refine ⟨rfl, _, z1, small1000 (by rw [List.length_replicate]; omega), ?_, ?_⟩
          · rw [upd_same, List.replicate_succ']
          · intro b' u ee
            rw [upd_ne (ne_of_none ee hD0)]
            exact z3 _ _ ee
        · obtain ⟨z1, z3⟩ := z
          rw [gl] at z1
          exact imp _ _ ⟨D0, rfl, z3, hD0, z1⟩
      rintro σ H5 ⟨rA, rfl, s5, frA, hr5⟩
      have nrk := nek S4 frA
      have frH := fre sb4 frA nrk
      have nrn : rA ≠ nA := (ne_of_none hn4 frA).symm
      -- the rows are put
      refine seq_cut (fun σ' H' => ∃ (xs : List V) (v8 : Option V), σ' = [some (.ref k), some (.ref p), some (.int most), some (.ref pl), some (.ref gA), some (.ref lA), some (.ref nA), some (.ref rA), v8, none, none] ∧ Sack H' k (n + 4800) ∧ SameBut k H H' ∧ H' rA = some (.lst xs) ∧ RowsAt o H' (laidP g ns) xs) (fun nx imp => ?_) ?_
      · refine ⟨_, rfl, gA, gvs, rfl, .inr (SqT.of (s5 _ _ (k24 _ _ hgA2))), _, rfl, by omega, by omega, ?_⟩
        refine for_range (lo := 0) (n := ((gvs.length : Nat) : Int).toNat) (fun i σ H6 => ∃ (xs : List V) (v8 : Option V), σ = [some (.ref k), some (.ref p), some (.int most), some (.ref pl), some (.ref gA), some (.ref lA), some (.ref nA), some (.ref rA), v8, none, none] ∧ Sack H6 k (n + 4800) ∧ SameBut k H H6 ∧ KeepT H2 H6 ∧ H6 nA = some (.lst (ns.map V.int)) ∧ H6 rA = some (.lst xs) ∧ xs.length = g.length ∧ ∀ j : Nat, j < i → ∃ v, xs[(ns.getD j 0).toNat]? = some v ∧ RowAt o H6 v (laidRow g ns j))
          ⟨_, none, rfl, S4.same s5, sb4.trans s5.but, k24.trans (KeepT.of s5), s5 _ _ hn4, hr5, List.length_replicate, fun j hj => absurd hj (Nat.not_lt_zero _)⟩ ?_ ?_
        · rintro i σ H6 hi ⟨xs, v8, rfl, S6, sb6, k6, hn6, hr6, xl, hrow⟩
          have hi : i < g.length := by omega
          have e0 : (0 : Int) + (i : Nat) = (i : Nat) := by omega
          obtain ⟨cs, u, eg⟩ : ∃ cs u, g[i]? = some (cs, u) := ⟨_, _, List.getElem?_eq_getElem hi⟩
          obtain ⟨vs', ra, t, b, ys, y1, y2, y3, y4, y5, y6⟩ := (hG2.keep k6).row eg
          have okU : OnwOk o g.length (i : Nat) u := hPk i _ eg
          have tg := okU.tg
          have hni : ns[i]? = some (ns.getD i 0) := by rw [List.getD_eq_getElem?_getD, List.getElem?_eq_getElem (by omega)]; rfl
          obtain ⟨p0, p1⟩ := hPN.mem.mp (List.mem_of_getElem? hni)
          generalize ep : ns.getD i 0 = pp at hni p0 p1
          refine ⟨_, rfl, _, rfl, gA, _, _, _, rfl, rfl, SqT.of y1, (by rw [e0]; exact y2), ra, _, _, _, rfl, rfl, SqT.of y3, at0, _, rfl, _, rfl, gA, _, _, _, rfl, rfl, SqT.of y1, (by rw [e0]; exact y2), ra, _, _, _, rfl, rfl, SqT.of y3, atOne, _, rfl, b, nA, u, ns, rfl, y6, hn6, (fun t ht => by have := tg t ht; omega), fun c H7 s7 tc => ⟨(by show 2 ≤ sizeLine; decide), fun d hd => ?_⟩⟩
          have s8 := s7.trans (same_new hd (.tup [V.ref t, V.ref c]))
          have hr8 := s8 _ _ hr6
          have hat : atI (ns.map V.int) (0 + (i : Nat)) = some (.int pp) := by
            rw [e0]
            refine atI_nat ?_
            rw [List.getElem?_map, hni]
            rfl
          have kU : KeepT (upd H7 d (.tup [V.ref t, V.ref c])) (upd (upd H7 d (.tup [V.ref t, V.ref c])) rA (.lst (xs.set pp.toNat (.ref d)))) := KeepT.upd hr8
          have k68 := (KeepT.of s8).trans kU
          have lrow : laidRow g ns i = (cs, renO (numOf ns) u) := by
            unfold laidRow
            rw [List.getD_eq_getElem?_getD, eg]
            rfl
          refine ⟨_, rfl, _, rfl, _, rfl, nA, _, _, _, rfl, rfl, SqL.of (s8 _ _ hn6), hat, rA, xs, pp, pp.toNat, rfl, rfl, hr8, ?_, xs.set pp.toNat (.ref d), _, rfl, ?_, ?_, k6.trans k68, ?_, upd_same, by rw [List.length_set]; exact xl, fun j hj => ?_⟩
          · unfold ixN
            rw [if_pos p0, if_pos (by omega)]
          · exact (S6.same s8).updK nrk
          · exact (sb6.trans s8.but).updNew frH
          · rw [upd_ne nrn.symm]
            exact s8 _ _ hn6
          · by_cases c' : j = i
            · subst c'
              refine ⟨.ref d, ?_, ?_⟩
              · rw [ep, List.getElem?_set, if_pos rfl, if_pos (by omega)]
              · rw [lrow]
                exact ⟨d, t, c, ys, rfl, kU _ _ upd_same, k68 _ _ y4, y5.keep k68, (tc.keep (KeepT.of (same_new hd _))).keep kU⟩
            · obtain ⟨v, hv, hra⟩ := hrow j (by omega)
              refine ⟨v, ?_, hra.keep k68⟩
              have hnj : ns[j]? = some (ns.getD j 0) := by rw [List.getD_eq_getElem?_getD, List.getElem?_eq_getElem (by omega)]; rfl
              have ne : ns.getD j 0 ≠ pp := fun z => by
                rw [z] at hnj
                exact c' (nodup_at hPN.nd hnj hni)
              obtain ⟨q0, q1⟩ := hPN.mem.mp (List.mem_of_getElem? hnj)
              rw [List.getElem?_set, if_neg (by omega)]
              exact hv
        · rintro σ H6 ⟨xs, v8, rfl, S6, sb6, k6, hn6, hr6, xl, hrow⟩
          refine imp _ _ ⟨xs, v8, rfl, S6, sb6, hr6, ?_⟩
          refine paired_of (by unfold laidP; rw [List.length_map, List.length_range, xl]) fun pp r v hr hv => ?_
          have hpp := (List.getElem?_eq_some_iff.mp hv).1
          unfold laidP at hr
          rw [List.getElem?_map, List.getElem?_eq_getElem (by rw [List.length_range]; omega), List.getElem_range] at hr
          have hr : laidRow g ns (ns.idxOf (pp : Int)) = r := Option.some.inj hr
          obtain ⟨i1, i2⟩ := hPN.inv (p := pp) (by omega)
          obtain ⟨v', hv', hra⟩ := hrow (ns.idxOf (pp : Int)) (by omega)
          rw [List.getD_eq_getElem?_getD, i2] at hv'
          have hv' : xs[((pp : Nat) : Int).toNat]? = some v' := hv'
          rw [Int.toNat_natCast, hv] at hv'
          cases hv'
          rw [← hr]
          exact hra
      rintro σ H6 ⟨xs, v8, rfl, S6, sb6, hr6, hRs6⟩
      have xl : xs.length = g.length := by rw [← hRs6.length]; unfold laidP; rw [List.length_map, List.length_range]
      -- names
      refine seq_cut (fun σ' H' => ∃ (mA : Addr) (ys : List Str), σ' = [some (.ref k), some (.ref p), some (.int most), some (.ref pl), some (.ref gA), some (.ref lA), some (.ref nA), some (.ref rA), v8, some (.ref mA), none] ∧ Sack H' k (n + 5000) ∧ SameBut k H6 H' ∧ H' mA = some (.lst (ys.map V.str)) ∧ mA ≠ k ∧ ys ≠ [] ∧ ys.length ≤ 10 ∧ (∀ x ∈ ys, IsName x)) (fun nx imp => ?_) ?_
      · refine ⟨_, rfl, _, rfl, k, 4, n + 4800, rfl, S6, by omega, by decide, by decide, fun r7 H7 a7 b7 sb7 S7 => ⟨_, _, rfl, rfl, ?_⟩⟩
        have er7 : (1 : Int) + r7 = (((1 + r7).toNat : Nat) : Int) := by omega
        refine ⟨k, (1 + r7).toNat, n + 4801, (by rw [← er7]; rfl), S7, by omega, by omega, fun l nms H8 hl8 sb8 S8 hL8 nd hAll hnl hne => ?_⟩
        refine ⟨l, nms, rfl, SqL.of hL8, by omega, fun ys a pm sd ha => ?_⟩
        have ylen : ys.length = nms.length := pm.length_eq
        have hne1 := hne (by omega)
        refine imp _ _ ⟨a, ys, rfl, (S8.same (same_new ha _)).mono (by omega), sb7.trans (sb8.trans (SameBut.new ha)), upd_same, nek S8 ha, fun z => by rw [z] at ylen; simp at ylen; omega, by omega, fun x hx => hAll x (pm.mem_iff.mp hx)⟩
      rintro σ H7 ⟨mA, ys, rfl, S7, sb7, hm7, nmk, yne, yl, yN⟩
      have hr7 := sb7 _ _ hr6 nrk
      have k67 := S6.keepT sb7
      -- the two tuples
      refine ⟨_, rfl, rA, _, rfl, .inl ⟨SqL.of hr7, fun ta hta => ?_⟩⟩
      have s8 := same_new hta (.tup xs)
      have ntk := nek S7 hta
      refine ⟨_, rfl, mA, rfl, ⟨_, SqL.of (s8 _ _ hm7)⟩, fun D0 hD0 => ?_⟩
      have S8 := S7.same s8
      have nDk := nek S8 hD0
      have hD7 : H7 D0 = none := s8.free hD0
      refine lc_list (K := K) (a := mA) (xs := ys.map V.str) (fun i H9 => ∃ (svs : List V), H9 D0 = some (.lst svs) ∧ svs.length = i ∧ Sack H9 k (n + 5000 + i) ∧ SameBut k (upd H7 ta (.tup xs)) H9)
        ⟨[], upd_same, rfl, S8.same (same_new hD0 _), SameBut.new hD0⟩ (fun i H9 _ h => by obtain ⟨_, _, _, _, sb⟩ := h; exact SqL.of (sb _ _ (s8 _ _ hm7) nmk)) ?_ ?_
      · rintro i v H9 hx ⟨svs, d1, d4, S9, sb9⟩
        rw [List.getElem?_map] at hx
        cases ht : ys[i]? with
        | none => rw [ht] at hx; cases hx
        | some x =>
          rw [ht] at hx
          have hx : V.str x = v := Option.some.inj hx
          subst hx
          have hi : i < ys.length := (List.getElem?_eq_some_iff.mp ht).1
          have hr9 := sb9 _ _ (s8 _ _ hr7) nrk
          refine ⟨rfl, _, rfl, _, rfl, _, rfl, rA, _, rfl, .inl (SqL.of hr9), k, _, n + 5000 + i, rfl, S9, by omega, by omega, by omega, fun r10 H10 a10 b10 sb10 S10 => ⟨(by show 2 ≤ sizeLine; decide), fun d hd => ?_⟩⟩
          have d110 := sb10 _ _ d1 nDk
          have sd := same_new hd (.tup [V.str x, V.int r10])
          have d111 := sd _ _ d110
          have kU : KeepT (upd H10 d (.tup [V.str x, V.int r10])) (upd (upd H10 d (.tup [V.str x, V.int r10])) D0 (.lst (svs ++ [.ref d]))) := KeepT.upd d111
          have k911 := (S9.keepT sb10).trans ((KeepT.of sd).trans kU)
          refine ⟨svs, d111, small1000 (by omega), svs ++ [.ref d], upd_same, by rw [List.length_append, d4]; rfl, ?_, ?_⟩
          · exact ((S10.same sd).updK nDk).mono (by omega)
          · exact (sb9.trans (sb10.trans sd.but)).updNew hD0
      · rintro H9 ⟨svs, d1, d4, S9, sb9⟩
        rw [List.length_map] at S9
        refine ⟨D0, _, rfl, .inl ⟨SqL.of d1, fun sa hsa => ⟨(by show 2 ≤ sizeLine; decide), fun t ht => ?_⟩⟩⟩
        have s10 := same_new hsa (.tup svs)
        have s11 := same_new ht (.tup [V.ref ta, V.ref sa])
        have s12 := s10.trans s11
        have k812 := (S8.keepT sb9).trans (KeepT.of s12)
        have k612 := k67.trans ((KeepT.of s8).trans k812)
        have hxF : RowsAt o (upd (upd H9 sa (.tup svs)) t (.tup [V.ref ta, V.ref sa])) (laidP g ns) xs := hRs6.keep k612
        obtain ⟨ll, lg, lr⟩ := laid_good hPN hPk
        exact q t ta _ (laidP g ns) _ (sb6.trans (sb7.trans (s8.but.trans (sb9.trans s12.but)))) ((S9.same s12).mono (by omega)) upd_same ⟨xs, k812 _ _ upd_same, hxF⟩ lg lr (by rw [ll]; exact hg1) (by rw [ll]; exact hg4)
end
end My
set_option Elab.async false
set_option linter.all false
set_option maxRecDepth 100000
set_option maxHeartbeats 4000000
namespace My
open PySem L2 TL Sx
def rA1 : Plc := .reg (Str.ofString "a")
def lgRow (m i : Nat) : List Ordr × Onw := if i < m then ([], .test rA1 ((i : Nat) + 1) ((i : Nat) + 1)) else if i = m then ([.put rA1 0], .fin) else if i ≤ 2 * m then ([], .test rA1 ((i : Nat) + 1) ((i : Nat) + 1)) else ([.put rA1 1], .fin)
def lgProg (m : Nat) : Prog := (List.range (2 * m + 2)).map (lgRow m)
theorem lgLen (m : Nat) : (lgProg m).length = 2 * m + 2 := by unfold lgProg; rw [List.length_map, List.length_range]
theorem lgN {m : Nat} {i : Nat} (h : i < 2 * m + 2) : rowN (lgProg m) ((i : Nat) : Int) = some (lgRow m i) := by
  rw [rowN_of (Int.natCast_nonneg i), Int.toNat_natCast]
  unfold lgProg
  rw [List.getElem?_map, List.getElem?_range h]
  rfl
theorem lgT {m k : Nat} (h : k < m) : lgRow m k = ([], .test rA1 ((k : Nat) + 1) ((k : Nat) + 1)) := if_pos h
theorem lgE (m : Nat) : lgRow m m = ([.put rA1 0], .fin) := by unfold lgRow; rw [if_neg (Nat.lt_irrefl m), if_pos rfl]
theorem lgT2 {m k : Nat} (h : k < m) : lgRow m (m + 1 + k) = ([], .test rA1 (((m + 1 + k : Nat) : Int) + 1) (((m + 1 + k : Nat) : Int) + 1)) := by
  unfold lgRow; rw [if_neg (by omega), if_neg (by omega), if_pos (by omega)]
theorem lgE2 (m : Nat) : lgRow m (m + 1 + m) = ([.put rA1 1], .fin) := by unfold lgRow; rw [if_neg (by omega), if_neg (by omega), if_neg (by omega)]
theorem lgAll {m : Nat} {i : Nat} (h : i < 2 * m + 2) : (∃ t : Nat, t = i + 1 ∧ i + 1 < 2 * m + 2 ∧ lgRow m i = ([], .test rA1 (t : Nat) (t : Nat))) ∨ (i = m ∧ lgRow m i = ([.put rA1 0], .fin)) ∨ (i = 2 * m + 1 ∧ lgRow m i = ([.put rA1 1], .fin)) := by
  rcases Nat.lt_or_ge i m with h1 | h1
  · exact .inl ⟨i + 1, rfl, by omega, by rw [lgT h1]; rfl⟩
  · obtain ⟨k, rfl⟩ : ∃ k, i = m + k := ⟨i - m, by omega⟩
    cases k with
    | zero => exact .inr (.inl ⟨rfl, lgE m⟩)
    | succ k =>
      have e : m + (k + 1) = m + 1 + k := by omega
      rw [e]
      rcases Nat.lt_or_ge k m with h2 | h2
      · exact .inl ⟨m + 1 + k + 1, rfl, by omega, by rw [lgT2 h2]; rfl⟩
      · have : k = m := by omega
        subst this
        exact .inr (.inr ⟨by omega, lgE2 k⟩)
theorem lg_len1 {m : Nat} {p q : Int} {w : List Bool} (h : Parts (lgProg m) p q w) : ∀ k : Nat, p = (k : Nat) → k ≤ m → q = ((m + 1 + k : Nat) : Int) → w.length = m - k := by
  induction h with
  | @here p q r s e1 e2 d =>
    rintro k rfl hk rfl
    rw [lgN (by omega)] at e1 e2
    cases e1; cases e2
    rcases Nat.lt_or_ge k m with z | z
    · rw [lgT z, lgT2 z] at d
      exact absurd rfl d
    · show 0 = _
      omega
  | @go p q j k cs w e1 e2 hp ih =>
    rintro k rfl hk rfl
    rw [lgN (by omega)] at e1
    rcases Nat.lt_or_ge k m with z | z
    · rw [lgT z] at e1; cases e1
    · have : k = m := by omega
      subst this
      rw [lgE] at e1; cases e1
  | @tt p q j k j' k' cs c w e1 e2 hp ih =>
    rintro k rfl hk rfl
    rw [lgN (by omega)] at e1 e2
    rcases Nat.lt_or_ge k m with z | z
    · rw [lgT z] at e1; rw [lgT2 z] at e2
      cases e1; cases e2
      have := ih (k + 1) (by omega) (by omega) (by omega)
      rw [List.length_cons, this]
      omega
    · have : k = m := by omega
      subst this
      rw [lgE] at e1; cases e1
  | @ff p q j k j' k' cs c w e1 e2 hp ih =>
    rintro k rfl hk rfl
    rw [lgN (by omega)] at e1 e2
    rcases Nat.lt_or_ge k m with z | z
    · rw [lgT z] at e1; rw [lgT2 z] at e2
      cases e1; cases e2
      have := ih (k + 1) (by omega) (by omega) (by omega)
      rw [List.length_cons, this]
      omega
    · have : k = m := by omega
      subst this
      rw [lgE] at e1; cases e1
theorem lg_len2 {m : Nat} {p q : Int} {w : List Bool} (h : Parts (lgProg m) p q w) : ∀ k : Nat, p = (k : Nat) → k < m → q = ((k + 1 : Nat) : Int) → w.length = m - 1 - k := by
  induction h with
  | @here p q r s e1 e2 d =>
    rintro k rfl hk rfl
    rw [lgN (by omega)] at e1 e2
    cases e1; cases e2
    rcases Nat.lt_or_ge (k + 1) m with z | z
    · rw [lgT hk, lgT z] at d
      exact absurd rfl d
    · show 0 = _
      omega
  | @go p q j k cs w e1 e2 hp ih =>
    rintro k rfl hk rfl
    rw [lgN (by omega), lgT hk] at e1
    cases e1
  | @tt p q j k j' k' cs c w e1 e2 hp ih =>
    rintro k rfl hk rfl
    rw [lgN (by omega)] at e1 e2
    rcases Nat.lt_or_ge (k + 1) m with z | z
    · rw [lgT hk] at e1; rw [lgT z] at e2
      cases e1; cases e2
      have := ih (k + 1) (by omega) (by omega) (by omega)
      rw [List.length_cons, this]
      omega
    · have : m = k + 1 := by omega
      subst this
      rw [lgE] at e2; cases e2
  | @ff p q j k j' k' cs c w e1 e2 hp ih =>
    rintro k rfl hk rfl
    rw [lgN (by omega)] at e1 e2
    rcases Nat.lt_or_ge (k + 1) m with z | z
    · rw [lgT hk] at e1; rw [lgT z] at e2
      cases e1; cases e2
      have := ih (k + 1) (by omega) (by omega) (by omega)
      rw [List.length_cons, this]
      omega
    · have : m = k + 1 := by omega
      subst this
      rw [lgE] at e2; cases e2
theorem lg_ex1 {m : Nat} : ∀ (n k : Nat), k + n = m → Parts (lgProg m) (k : Nat) ((m + 1 + k : Nat) : Int) (List.replicate n false)
  | 0, k, h => by
    have : k = m := by omega
    subst this
    refine .here (lgN (by omega)) (lgN (by omega)) ?_
    rw [lgE, lgE2]
    intro z
    cases z
  | n + 1, k, h => by
    have e1 := lgN (m := m) (i := k) (by omega)
    have e2 := lgN (m := m) (i := m + 1 + k) (by omega)
    rw [lgT (by omega)] at e1
    rw [lgT2 (by omega)] at e2
    exact .ff e1 e2 (lg_ex1 n (k + 1) (by omega))
theorem lg_ex2 {m : Nat} : ∀ (n k : Nat), k + 1 + n = m → Parts (lgProg m) (k : Nat) ((k + 1 : Nat) : Int) (List.replicate n false)
  | 0, k, h => by
    have : m = k + 1 := by omega
    subst this
    refine .here (lgN (by omega)) (lgN (by omega)) ?_
    rw [lgE, lgT (by omega)]
    intro z
    cases z
  | n + 1, k, h => by
    have e1 := lgN (m := m) (i := k) (by omega)
    have e2 := lgN (m := m) (i := k + 1) (by omega)
    rw [lgT (by omega)] at e1
    rw [lgT (by omega)] at e2
    exact .ff e1 e2 (lg_ex2 n (k + 1) (by omega))
theorem cdF_rep : ∀ n k : Nat, cdF k (List.replicate n false) = k * 2 ^ n
  | 0, k => by show k = _; omega
  | n + 1, k => by
    show cdF (2 * k + 0) (List.replicate n false) = _
    rw [cdF_rep n, Nat.pow_succ, Nat.add_zero, Nat.mul_comm 2 k, Nat.mul_assoc, Nat.mul_comm 2]
theorem lg_word {g : Prog} {p q : Int} {r : Option (List Bool)} {n : Nat} (pb : PB g [⟨p, q, []⟩] [] [] r) (h : Parts g p q (List.replicate n false)) (hl : ∀ w, Parts g p q w → w.length = n) : r = some (List.replicate n false) := by
  obtain ⟨w, rfl, hp⟩ := pb.told ⟨_, h⟩
  have h1 := pb.least _ h
  have h2 := (cdF_len w 1).1
  rw [hl w hp] at h2
  have h3 : cd (List.replicate n false) = 1 * 2 ^ n := cdF_rep n 1
  have h4 : 1 * 2 ^ n ≤ cd w := h2
  rw [cd_inj (by omega : cd w = cd (List.replicate n false))]
def lgC (m : Nat) : List (Int × Int) := (List.range (m + 1)).map (fun (k : Nat) => ((k : Int), ((m + 1 + k : Nat) : Int))) ++ (List.range m).map (fun (k : Nat) => ((k : Int), ((k + 1 : Nat) : Int)))
theorem lgC1 {m k : Nat} (h : k ≤ m) : ((k : Int), ((m + 1 + k : Nat) : Int)) ∈ lgC m := List.mem_append.mpr (.inl (List.mem_map.mpr ⟨k, List.mem_range.mpr (by omega), rfl⟩))
theorem lgC2 {m k : Nat} (h : k < m) : ((k : Int), ((k + 1 : Nat) : Int)) ∈ lgC m := List.mem_append.mpr (.inr (List.mem_map.mpr ⟨k, List.mem_range.mpr h, rfl⟩))
theorem lgC_cases {m : Nat} {p q : Int} (h : (p, q) ∈ lgC m) : (∃ k : Nat, k ≤ m ∧ p = (k : Nat) ∧ q = ((m + 1 + k : Nat) : Int)) ∨ ∃ k : Nat, k < m ∧ p = (k : Nat) ∧ q = ((k + 1 : Nat) : Int) := by
  rcases List.mem_append.mp h with z | z
  · obtain ⟨k, hk, e⟩ := List.mem_map.mp z
    have := List.mem_range.mp hk
    cases e
    exact .inl ⟨k, by omega, rfl, rfl⟩
  · obtain ⟨k, hk, e⟩ := List.mem_map.mp z
    have := List.mem_range.mp hk
    cases e
    exact .inr ⟨k, this, rfl, rfl⟩
theorem lg_clC {m : Nat} (hm : m ≤ 60) : ClC (lgProg m) (lgC m) := by
  refine ⟨fun x hx => ?_, fun p q cs j k hC e1 e2 => ?_, fun p q cs c j k j' k' hC e1 e2 => ?_, ?_⟩
  · rw [lgLen]
    rcases lgC_cases (p := x.1) (q := x.2) hx with ⟨k, h1, h2, h3⟩ | ⟨k, h1, h2, h3⟩ <;> omega
  · exfalso
    rcases lgC_cases hC with ⟨a, h1, rfl, rfl⟩ | ⟨a, h1, rfl, rfl⟩
    · rw [lgN (by omega)] at e1
      rcases lgAll (m := m) (i := a) (by omega) with ⟨t, _, _, z⟩ | ⟨_, z⟩ | ⟨_, z⟩ <;> (rw [z] at e1; cases e1)
    · rw [lgN (by omega)] at e1
      rcases lgAll (m := m) (i := a) (by omega) with ⟨t, _, _, z⟩ | ⟨_, z⟩ | ⟨_, z⟩ <;> (rw [z] at e1; cases e1)
  · rcases lgC_cases hC with ⟨a, h1, rfl, rfl⟩ | ⟨a, h1, rfl, rfl⟩
    · rw [lgN (by omega)] at e1 e2
      rcases Nat.lt_or_ge a m with z | z
      · rw [lgT z] at e1; rw [lgT2 z] at e2
        cases e1; cases e2
        have := lgC1 (m := m) (k := a + 1) (by omega)
        exact ⟨this, this⟩
      · have : a = m := by omega
        subst this
        rw [lgE] at e1; cases e1
    · rw [lgN (by omega)] at e1 e2
      rcases Nat.lt_or_ge (a + 1) m with z | z
      · rw [lgT h1] at e1; rw [lgT z] at e2
        cases e1; cases e2
        have := lgC2 (m := m) (k := a + 1) (by omega)
        exact ⟨this, this⟩
      · have : m = a + 1 := by omega
        subst this
        rw [lgE] at e2; cases e2
  · unfold lgC
    rw [List.length_append, List.length_map, List.length_map, List.length_range, List.length_range]
    omega
/-- a machine for them -/
def lgO : OwnD := ⟨1, [Str.ofString "a"], 0, 1, 1, 0⟩
theorem lg_good (m : Nat) : RowsGood lgO (lgProg m) := by
  have row : ∀ (i : Nat) r, (lgProg m)[i]? = some r → i < 2 * m + 2 ∧ r = lgRow m i := fun i r hr => by
    have hi := (List.getElem?_eq_some_iff.mp hr).1
    rw [lgLen] at hi
    unfold lgProg at hr
    rw [List.getElem?_map, List.getElem?_range hi] at hr
    cases hr
    exact ⟨hi, rfl⟩
  constructor
  · intro i r hr t ht
    obtain ⟨hi, rfl⟩ := row i r hr
    rw [lgLen]
    rcases lgAll hi with ⟨t', h1, h2, z⟩ | ⟨_, z⟩ | ⟨_, z⟩
    · rw [z] at ht
      have ht : t ∈ [((t' : Nat) : Int), ((t' : Nat) : Int)] := ht
      have : t = (t' : Nat) := by
        rcases List.mem_cons.mp ht with e | e
        · exact e
        · exact List.mem_singleton.mp e
      omega
    · rw [z] at ht; cases ht
    · rw [z] at ht; cases ht
  · intro r hr c j k e
    obtain ⟨i, hi0⟩ := List.getElem?_of_mem hr
    obtain ⟨hi, rfl⟩ := row i r hi0
    rcases lgAll hi with ⟨t', h1, h2, z⟩ | ⟨_, z⟩ | ⟨_, z⟩
    · rw [z] at e
      cases e
      exact List.mem_singleton.mpr rfl
    · rw [z] at e; cases e
    · rw [z] at e; cases e
end My
set_option Elab.async false
set_option linter.all false
set_option maxRecDepth 100000
set_option maxHeartbeats 4000000
namespace My
open PySem L2 TL Sx
abbrev sWordDue : Stmt := top 32
def WdAt (H : Hp) (w : List Bool) (v : V) : Prop := ∃ a, v = .ref a ∧ H a = some (.tup (w.map V.bl))
theorem WdAt.keep {H H' : Hp} (s : Same H H') {w : List Bool} {v : V} (h : WdAt H w v) : WdAt H' w v := by
  obtain ⟨a, e, h1⟩ := h
  exact ⟨a, e, s _ _ h1⟩
def WdsAt (H : Hp) (L : Addr) (ws : List (List Bool)) : Prop := ∃ vs, H L = some (.lst vs) ∧ Paired (WdAt H) ws vs
theorem WdsAt.keep {H H' : Hp} (s : Same H H') {L : Addr} {ws : List (List Bool)} (h : WdsAt H L ws) : WdsAt H' L ws := by
  obtain ⟨vs, e, h1⟩ := h
  exact ⟨vs, s _ _ e, Paired.mapP h1 fun _ _ z => z.keep s⟩
theorem pow9 {n : Nat} (h : n ≤ 9) : 2 ^ n ≤ 512 := Nat.le_trans (Nat.pow_le_pow_right (by decide) h) (by decide)
def spWordDue : Sp := fun vs H Q _ => ∃ (rA : Addr) (p q : Int) (o : OwnD) (rs : Prog), vs = [.ref rA, .int p, .int q] ∧ ProgAt o H rA rs ∧ OwnOk o ∧ RowsGood o rs ∧ Ranked rs ∧ rs.length ≤ 9 ∧ 0 ≤ p ∧ p < rs.length ∧ 0 ≤ q ∧ q < rs.length ∧
  ∀ (r : Option (List Bool)) (v : V) (H' : Hp), Same H H' → wordV H' r v → (∀ w, r = some w → Parts rs p q w ∧ w.length ≤ 9 ∧ ∀ v, Parts rs p q v → cd w ≤ cd v) → (r = none → ∀ v, ¬ Parts rs p q v) → Q v H'
abbrev NWd : List Str := ["rows", "this", "that", "words", "long", "word", "more"]
section
variable {P : Program} {w : World} {K : PySem.W.Frag} {mg : Str → Option Value} {base : Heap}
theorem scWordDue : FnScope NWd ["rows", "this", "that"] (defScope sWordDue) := ⟨rfl, rfl, rfl, by decide +kernel, rfl, by decide +kernel, by decide +kernel⟩
theorem ok_wordDue {f : Addr} {fd : FuncData} (F : Fun K "_law_word_due" "_law_word_due" sWordDue f fd) (dP : Df K mg "_law_parts_by" sPartsBy ["rows", "this", "that", "word"]) (dU : Df K mg "_law_is_unlike" sUnlike ["this", "that"]) (B : Bl mg) : FnOk P w K mg base CX0 3 f fd ["rows", "this", "that"] spWordDue := by
  have GB : FnOk P w K mg base CX0 2 dP.f dP.fd ["rows", "this", "that", "word"] spPartsBy := ok_partsBy dP.F dU B
  refine F.ok scWordDue (fun vs H Q E h => ?_) (fun cdv A outer s H vs Q E hr h => ?_)
  · obtain ⟨rA, p, q, o, rs, rfl, _⟩ := h
    rfl
  · obtain ⟨rA, p, q, o, rs, rfl, hR, hO, hG, ⟨rk, hrk, hfall⟩, h9, p0, p1, q0, q1, qq⟩ := h
    refine ⟨_, pss_cons (ps_set (i := 3) scWordDue.nd rfl (Or.inl rfl) (pe_lst (pa_cons (pe_tup pa_nil) pa_nil)))
      (pss_cons (ps_for PassesOwn.never rfl (pi_range1 rfl B.range (pa_cons (pe_op op_add (pe_callB call_len_seq (by rfl) B.len PySem.boot_len (pa_cons (pv 0) pa_nil)) pe_int) pa_nil)) (pg_name (i := 4) scWordDue.nd rfl (Or.inl rfl))
        (pss_cons (ps_for PassesOwn.never rfl (pi_list (pv 3)) (pg_name (i := 5) scWordDue.nd rfl (Or.inl rfl))
          (pss_one (ps_if (pt_val (pe_call GB hr rfl dP.m dP.F.kp dP.b .nil pass0 (pa_cons (pv 0) (pa_cons (pv 1) (pa_cons (pv 2) (pa_cons (pv 5) pa_nil)))))) (pss_one (ps_ret (pv 5))) pss_nil)))
        (pss_cons (ps_set (i := 6) scWordDue.nd rfl (Or.inl rfl) (pe_lst pa_nil))
        (pss_cons (ps_for PassesOwn.never rfl (pi_list (pv 3)) (pg_name (i := 5) scWordDue.nd rfl (Or.inl rfl))
          (pss_one (ps_set (i := 6) scWordDue.nd rfl (Or.inl rfl) (pe_op op_catS (pv 6) (pe_lst (pa_cons (pe_op op_catH (pv 5) (pe_tup (pa_cons pe_bl pa_nil))) (pa_cons (pe_op op_catH (pv 5) (pe_tup (pa_cons pe_bl pa_nil))) pa_nil)))))))
        (pss_one (ps_set (i := 3) scWordDue.nd rfl (Or.inl rfl) (pv 6)))))))
      (pss_one (ps_ret pe_non))), ?read⟩
    case read =>
      obtain ⟨rvs, hRA, hRows⟩ := hR.at_
      have rlen : rvs.length = rs.length := hRows.length.symm
      refine seq_cut (fun σ' H' => ∃ wL : Addr, σ' = [some (.ref rA), some (.int p), some (.int q), some (.ref wL), none, none, none] ∧ Same H H' ∧ WdsAt H' wL (allW 0)) (fun nx imp => ?_) ?_
      · refine ⟨(by show 0 ≤ sizeLine; decide), fun a ha => ⟨(by show 1 ≤ sizeLine; decide), fun L hL => imp _ _ ⟨L, rfl, (same_new ha _).trans (same_new hL _), [.ref a], upd_same, .cons ⟨a, rfl, ?_⟩ .nil⟩⟩⟩
        exact same_new hL _ _ _ upd_same
      rintro σ H1 ⟨wL, rfl, s1, hw1⟩
      refine seq_cut (fun σ' H' => Same H H' ∧ ∀ v, Parts rs p q v → 2 ^ (rs.length + 1) ≤ cd v) (fun nx imp => ?_) ?_
      · refine ⟨_, rfl, rA, _, rfl, .inr (SqT.of (s1 _ _ hRA)), _, _, rfl, rfl, ((rvs.length : Nat) : Int) + 1, rfl, by omega, by omega, ?_⟩
        refine for_range (lo := 0) (n := (((rvs.length : Nat) : Int) + 1).toNat) (fun i σ H' => ∃ wL v4 v5 v6, σ = [some (.ref rA), some (.int p), some (.int q), some (.ref wL), v4, v5, v6] ∧ Same H H' ∧ WdsAt H' wL (allW i) ∧ ∀ v, Parts rs p q v → 2 ^ i ≤ cd v) ⟨wL, none, none, none, rfl, s1, hw1, fun v _ => (cdF_ge v 1)⟩ ?_ ?_
        · clear s1 hw1 wL
          rintro i σ H2 hi ⟨wL, v4, v5, v6, rfl, s2, hw2, low⟩
          have hi9 : i ≤ 9 := by omega
          have hpw := pow9 hi9
          have alen := allW_len i
          refine seq_cut (fun σ' H' => ∃ v4 v5, σ' = [some (.ref rA), some (.int p), some (.int q), some (.ref wL), v4, v5, v6] ∧ Same H H' ∧ WdsAt H' wL (allW i) ∧ ∀ v, Parts rs p q v → 2 ^ (i + 1) ≤ cd v) (fun nx2 imp2 => ?_) ?_
          · obtain ⟨wvs, hwL, hwp⟩ := hw2
            have wlen : wvs.length = 2 ^ i := by rw [← hwp.length]; exact alen
            refine ⟨_, rfl, wL, rfl, ⟨_, SqL.of hwL⟩, ?_⟩
            refine for_list (K := K) (a := wL) (xs := wvs) (fun j σ H' => ∃ v4 v5, σ = [some (.ref rA), some (.int p), some (.int q), some (.ref wL), v4, v5, v6] ∧ Same H2 H' ∧ ∀ v, Parts rs p q v → 2 ^ i + j ≤ cd v) ⟨_, _, rfl, fun _ _ e => e, low⟩ (fun j σ H' _ z => by obtain ⟨_, _, _, z, _⟩ := z; exact SqL.of (z _ _ hwL)) ?_ ?_
            · rintro j x σ H3 hx ⟨w4, w5, rfl, s3, lowj⟩
              obtain ⟨u, hu, uA, rfl, huA⟩ := paired_at hwp hx
              obtain ⟨ecd, ulen⟩ := allW_cd i j u hu
              obtain ⟨bb, hbb⟩ := PBB.ex (g := rs) hG.tg hfall (rk p + 1) p q u (Nat.lt_succ_self _) p0 p1 q0 q1
              have s23 := s2.trans s3
              refine ⟨_, rfl, _, rfl, _, rfl, _, rfl, rA, uA, p, q, o, rs, u, rk, bb, rfl, hR.keep (KeepT.of s23), s3 _ _ huA, hO, hG.pl, hfall, by omega, hbb, fun H4 s4 => ⟨bb, rfl, ?_⟩⟩
              cases bb with
              | true =>
                have hp := hbb.told.mp rfl
                refine iteT ⟨_, rfl, qq (some u) _ H4 (s23.trans s4) ⟨uA, rfl, s4 _ _ (s3 _ _ huA)⟩ (fun w ew => ?_) (fun z => nomatch z)⟩
                cases ew
                refine ⟨hp, by omega, fun v hv => ?_⟩
                rw [ecd]
                exact lowj v hv
              | false =>
                refine iteF ⟨_, _, rfl, s3.trans s4, fun v hv => ?_⟩
                have h1 := lowj v hv
                rcases Nat.lt_or_ge (2 ^ i + j) (cd v) with z | z
                · omega
                · have e : cd v = cd u := by omega
                  rw [cd_inj e] at hv
                  exact absurd (hbb.told.mpr hv) (by decide)
            · rintro σ H3 ⟨w4, w5, rfl, s3, lowj⟩
              refine imp2 _ _ ⟨_, _, rfl, s2.trans s3, ⟨wvs, s3 _ _ hwL, Paired.mapP hwp fun _ _ z => z.keep s3⟩, fun v hv => ?_⟩
              have := lowj v hv
              rw [Nat.pow_succ]
              omega
          clear low hw2 s2
          rintro σ H3 ⟨w4, w5, rfl, s3, hw3, low⟩
          refine seq_cut (fun σ' H' => ∃ mL : Addr, σ' = [some (.ref rA), some (.int p), some (.int q), some (.ref wL), w4, w5, some (.ref mL)] ∧ Same H3 H' ∧ WdsAt H' mL []) (fun nx2 imp2 => ?_) ?_
          · exact ⟨(by show 0 ≤ sizeLine; decide), fun mL hmL => imp2 _ _ ⟨mL, rfl, same_new hmL _, [], upd_same, .nil⟩⟩
          rintro σ H4 ⟨mL0, rfl, s4, hm4⟩
          refine seq_cut (fun σ' H' => ∃ mL v4 v5, σ' = [some (.ref rA), some (.int p), some (.int q), some (.ref wL), v4, v5, some (.ref mL)] ∧ Same H3 H' ∧ WdsAt H' mL (allW (i + 1))) (fun nx2 imp2 => ?_) ?_
          · obtain ⟨wvs, hwL, hwp⟩ := hw3
            have wlen : wvs.length = 2 ^ i := by rw [← hwp.length]; exact alen
            refine ⟨_, rfl, wL, rfl, ⟨_, SqL.of (s4 _ _ hwL)⟩, ?_⟩
            refine for_list (K := K) (a := wL) (xs := wvs) (fun j σ H' => ∃ mL v4 v5, σ = [some (.ref rA), some (.int p), some (.int q), some (.ref wL), v4, v5, some (.ref mL)] ∧ Same H3 H' ∧ WdsAt H' mL (((allW i).take j).flatMap fun w => [w ++ [false], w ++ [true]])) ⟨mL0, _, _, rfl, s4, hm4⟩ (fun j σ H' _ z => by obtain ⟨_, _, _, _, z, _⟩ := z; exact SqL.of (z _ _ hwL)) ?_ ?_
            · rintro j x σ H5 hx ⟨mL, x4, x5, rfl, s5, ⟨mvs, hmL, hmp⟩⟩
              obtain ⟨u, hu, uA, rfl, huA⟩ := paired_at hwp hx
              obtain ⟨ecd, ulen⟩ := allW_cd i j u hu
              have hj : j < 2 ^ i := by rw [← alen]; exact (List.getElem?_eq_some_iff.mp hu).1
              have mlen : mvs.length ≤ 1024 := by
                rw [← hmp.length]
                have e : ∀ l : List (List Bool), (l.flatMap fun w => [w ++ [false], w ++ [true]]).length = 2 * l.length := by
                  intro l
                  induction l with
                  | nil => rfl
                  | cons a l ih => rw [List.flatMap_cons, List.length_append, ih, List.length_cons]; simp; omega
                rw [e, List.length_take]
                omega
              refine ⟨_, rfl, _, rfl, (by show 1 ≤ sizeLine; decide), fun c1 hc1 => ⟨uA, c1, _, _, rfl, rfl, same_new hc1 _ _ _ (s5 _ _ huA), upd_same, (by rw [List.length_map]; show u.length + 1 ≤ 2000; omega), fun d1 H6 s6 hd1 => ?_⟩⟩
              refine ⟨_, rfl, (by show 1 ≤ sizeLine; decide), fun c2 hc2 => ⟨uA, c2, _, _, rfl, rfl, same_new hc2 _ _ _ (s6 _ _ (same_new hc1 _ _ _ (s5 _ _ huA))), upd_same, (by rw [List.length_map]; show u.length + 1 ≤ 2000; omega), fun d2 H7 s7 hd2 => ?_⟩⟩
              refine ⟨(by show 2 ≤ sizeLine; decide), fun e1 he1 => ?_⟩
              have s17 := (same_new hc1 (.tup [V.bl false])).trans (s6.trans ((same_new hc2 (.tup [V.bl true])).trans (s7.trans (same_new he1 (.lst [V.ref d1, V.ref d2])))))
              refine ⟨mL, e1, _, _, rfl, rfl, SqL.of (s17 _ _ hmL), SqL.of upd_same, (by rw [sizeLine_eq]; show mvs.length + 2 ≤ _; omega), fun m2 hm2 => ⟨m2, _, _, rfl, ?_, _, upd_same, ?_⟩⟩
              · exact s5.trans (s17.trans (same_new hm2 _))
              · have sm := same_new hm2 (.lst (mvs ++ [V.ref d1, V.ref d2]))
                have se := same_new he1 (.lst [V.ref d1, V.ref d2])
                have hd1' := sm _ _ (se _ _ (s7 _ _ (same_new hc2 (.tup [V.bl true]) _ _ hd1)))
                have hd2' := sm _ _ (se _ _ hd2)
                rw [List.take_add_one, hu, List.flatMap_append]
                refine paired_snoc2 (Paired.mapP hmp fun _ _ z => z.keep (s17.trans sm)) ⟨d1, rfl, ?_⟩ ⟨d2, rfl, ?_⟩
                · rw [List.map_append]; exact hd1'
                · rw [List.map_append]; exact hd2'
            · rintro σ H5 ⟨mL, x4, x5, rfl, s5, hm5⟩
              refine imp2 _ _ ⟨mL, _, _, rfl, s5, ?_⟩
              rw [wlen, ← alen, List.take_length] at hm5
              exact hm5
          rintro σ H5 ⟨mL, x4, x5, rfl, s5, hm5⟩
          exact ⟨_, rfl, mL, _, _, _, rfl, s3.trans s5, hm5, low⟩
        · rintro σ H2 ⟨wL2, v4, v5, v6, rfl, s2, _, low⟩
          refine imp _ _ ⟨s2, fun v hv => ?_⟩
          have := low v hv
          have e : (((rvs.length : Nat) : Int) + 1).toNat = rs.length + 1 := by omega
          rw [e] at this
          exact this
      rintro σ H2 ⟨s2, low⟩
      refine qq none .non H2 s2 rfl (fun w z => nomatch z) (fun _ v hv => ?_)
      have a := low v hv
      have b := cd_lt v
      have c := parts_short hfall hv
      have d := hrk p
      have e : 2 ^ (v.length + 1) ≤ 2 ^ (rs.length + 1) := Nat.pow_le_pow_right (by decide) (by omega)
      omega
end
end My
set_option Elab.async false
set_option linter.all false
set_option maxRecDepth 100000
set_option maxHeartbeats 4000000
namespace L2
open PySem PySem.Spec PyProof.Rows
theorem noFill_tuple_mul : fillsNumberSlot (.type "tuple") "mul" = pure false :=
  PySem.fillsNumberSlot_seq (id := "tuple.__mul__") (r := some (.builtin "tuple.__rmul__")) F.slot_tuple_mul.lookup (by decide +kernel) F.slot_tuple_rmul.lookup (by decide +kernel)
theorem repeat_tuple : seqRepeat? (.type "tuple") = pure (some (.builtin "tuple.__mul__")) := by
  unfold seqRepeat?
  rw [PySem.seqSlot_of (T := "tuple") (name := "__mul__") (id := "tuple.__mul__") F.slot_tuple_mul.lookup (by decide +kernel), PySem.seqSlot_of (T := "tuple") (name := "__rmul__") (id := "tuple.__rmul__") F.slot_tuple_rmul.lookup (by decide +kernel)]
  rfl
theorem rmul_tup (a : Int) (t : Tok) (l : Addr) (items : Array Value) (n : Nat) (dd : Option Addr) (sl : Array (Option Value)) :
    Meets (Builtin.«int.__rmul__» ⟨[.int a t, .ref l], []⟩) (fun _ R s => s.heap.get? l = some { cls := .type "tuple", dict := dd, data := .seq items n, slots := sl } ∧ R (.ok (.ret Value.notImplemented)) s) :=
  .of_wp fun prog w A R s h => by obtain ⟨hp, g, d, tk, os⟩ := s; obtain ⟨hl, h⟩ := h; wp_walk; exact ⟨_, rfl, h⟩
theorem mul_tup1 (l : Addr) (items : Array Value) (n : Nat) (x : Int) (u : Tok) (dd : Option Addr) (sl : Array (Option Value)) (hc0 : ¬(decide (x < -(2 ^ 63)) || decide (x ≥ 2 ^ 63)) = true) (hc1 : (items.isEmpty || x == 1) = true) :
    Meets (Builtin.«tuple.__mul__» ⟨[.ref l, .int x u], []⟩) (fun _ R s => s.heap.get? l = some { cls := .type "tuple", dict := dd, data := .seq items n, slots := sl } ∧ R (.ok (.ret (Value.ref l))) s) :=
  .of_wp fun prog w A R s h => by obtain ⟨hp, g, d, tk, os⟩ := s; obtain ⟨hl, h⟩ := h; have f1 := AutoSeq1.idx_int; have f2 := AutoSeq1.sub_tuple_tuple; wp_walk using wpAny_loadPart' hl; refine wpAny_ite_false (decide_eq_false hc0) ?_; wp_walk using wpAny_loadPart' hl; exact ⟨_, rfl, h⟩
theorem mul_tup0 (l : Addr) (items : Array Value) (n : Nat) (x : Int) (u : Tok) (dd : Option Addr) (sl : Array (Option Value)) (hc0 : ¬(decide (x < -(2 ^ 63)) || decide (x ≥ 2 ^ 63)) = true) (hc1 : ¬(items.isEmpty || x == 1) = true) (hc2 : (decide (x ≤ 0) || items.isEmpty) = true) :
    Meets (Builtin.«tuple.__mul__» ⟨[.ref l, .int x u], []⟩) (fun _ R s => s.heap.get? l = some { cls := .type "tuple", dict := dd, data := .seq items n, slots := sl } ∧ R (.ok (.ret (Value.ref s.heap.objs.size))) { s with heap := s.heap.push { cls := Value.type "tuple", data := Data.seq #[] }, toks := s.toks }) :=
  .of_wp fun prog w A R s h => by obtain ⟨hp, g, d, tk, os⟩ := s; obtain ⟨hl, h⟩ := h; have f1 := AutoSeq1.idx_int; have f2 := AutoSeq1.sub_tuple_tuple; wp_walk using wpAny_loadPart' hl; refine wpAny_ite_false (decide_eq_false hc0) ?_; wp_walk using wpAny_loadPart' hl; exact ⟨_, rfl, h⟩
theorem mul_tupN (l : Addr) (items : Array Value) (n : Nat) (x : Int) (u : Tok) (dd : Option Addr) (sl : Array (Option Value)) (hc0 : ¬(decide (x < -(2 ^ 63)) || decide (x ≥ 2 ^ 63)) = true) (hc1 : ¬(items.isEmpty || x == 1) = true) (hc2 : ¬(decide (x ≤ 0) || items.isEmpty) = true)
    (hc3 : ¬ (items.size * x > (2 ^ 63 - 1) / 8)) (hc4 : ¬ Builtin.Tuple.tupleTooMany (items.size * x) = true) (hsz : (List.foldl (fun x1 x2 => x1 ++ x2) #[] (List.replicate x.toNat items)).size ≤ sizeLine) :
    Meets (Builtin.«tuple.__mul__» ⟨[.ref l, .int x u], []⟩) (fun _ R s => s.heap.get? l = some { cls := .type "tuple", dict := dd, data := .seq items n, slots := sl } ∧ R (.ok (.ret (Value.ref s.heap.objs.size))) { s with heap := s.heap.push { cls := Value.type "tuple", data := Data.seq (List.foldl (fun x1 x2 => x1 ++ x2) #[] (List.replicate x.toNat items)) }, toks := s.toks }) :=
  .of_wp fun prog w A R s h => by
    obtain ⟨hp, g, d, tk, os⟩ := s; obtain ⟨hl, h⟩ := h; have f1 := AutoSeq1.idx_int; have f2 := AutoSeq1.sub_tuple_tuple
    wp_walk using wpAny_loadPart' hl
    refine wpAny_ite_false (decide_eq_false hc0) ?_
    wp_walk using wpAny_loadPart' hl
    refine wpAny_ite_false (decide_eq_false hc3) ?_
    wp_walk using wpAny_loadPart' hl
    exact ⟨_, rfl, h⟩
end L2
set_option Elab.async false
set_option linter.all false
set_option maxRecDepth 100000
set_option maxHeartbeats 4000000
namespace L2
open PySem PySem.Spec PyProof.Rows
section
variable {X : Cx}
/-- a tuple of one thing times an int -/
def rRepT : R2 := fun x y H Q => ∃ l k z, x = .ref l ∧ y = .int k ∧ H l = some (.tup [z]) ∧ -(2 ^ 63) ≤ k ∧ k ≤ 1000 ∧
  ∀ p H', Same H H' → H' p = some (.tup (List.replicate k.toNat z)) → Q (.ref p) H'
theorem foldl_one {v : Value} : ∀ (k : Nat) (acc : Array Value), List.foldl (fun x1 x2 => x1 ++ x2) acc (List.replicate k #[v]) = acc ++ (List.replicate k v).toArray
  | 0, acc => by simp
  | k + 1, acc => by
    rw [List.replicate_succ, List.foldl_cons, foldl_one k, List.replicate_succ]
    apply Array.ext'
    simp
theorem vals_rep {z : V} {v : Value} (h : RelV z v) : ∀ k : Nat, Vals (List.replicate k z) (List.replicate k v)
  | 0 => .nil
  | k + 1 => .cons h (vals_rep h k)
theorem op_repT : OpR X (binaryOp .Mult) rRepT := by
  intro pins s σ H x y v u Q I rx ry h
  obtain ⟨l, k, z, rfl, rfl, hH, h1, h2, q⟩ := h
  cases rx
  obtain ⟨t, rfl⟩ := ry
  obtain ⟨its, r1, p1, _⟩ := I.tuple (SqT.of hH)
  obtain ⟨zv, rfl, rz⟩ := vals1 r1
  obtain ⟨⟨cls, dd, data, sl⟩, ho, hc, n, hd⟩ := id p1
  simp only at hc hd
  subst hc hd
  have hc0 : ¬(decide (k < -(2 ^ 63)) || decide (k ≥ 2 ^ 63)) = true := by
    rw [Bool.or_eq_true, decide_eq_true_iff, decide_eq_true_iff]
    omega
  refine wpAny_binaryOp_repeat_ref (T := "tuple") (U := "int") (by decide) ⟨_, ho, rfl⟩ (fun s' => typeIs_int s' k t) noFill_tuple_mul F.fills_int_mul F.slot_int_rmul repeat_tuple F.slot_int_index.lookup
    (call_meets F.slot_int_rmul (typeIs_int s k t) F.entry_int_rmul (F.args_int_rmul_2 _ _) (rmul_tup k t l _ n dd sl) ⟨ho, rfl, ⟨_, ho, rfl⟩, ?_⟩)
  by_cases e1 : k = 1
  · subst e1
    refine call_meets F.slot_tuple_mul ⟨_, ho, rfl⟩ F.entry_tuple_mul (F.args_tuple_mul_2 _ _) (mul_tup1 l _ n 1 t dd sl hc0 (by rfl)) ⟨ho, ?_⟩
    exact ⟨.ref l, H, I, rfl, q l H (fun _ _ e => e) hH⟩
  by_cases e0 : k ≤ 0
  · refine call_meets F.slot_tuple_mul ⟨_, ho, rfl⟩ F.entry_tuple_mul (F.args_tuple_mul_2 _ _) (mul_tup0 l _ n k t dd sl hc0 (by simp [e1]) (by simp [e0])) ⟨ho, ?_⟩
    have e : k.toNat = 0 := by omega
    have fr := I.hok.fresh (Nat.le_refl s.heap.objs.size)
    refine ⟨.ref s.heap.objs.size, _, I.laid (t' := s.toks) (o := .tup []) (fun b ob q => Heap.get?_push_of_some _ q) (Nat.le_refl _) ?_, rfl, q _ _ (fun b o e => by rw [upd_ne (ne_of_none e fr)]; exact e) (by rw [e]; exact upd_same)⟩
    exact ⟨Nat.zero_le _, [], .nil, IsTupN.new _ _⟩
  · have ex : (List.foldl (fun x1 x2 => x1 ++ x2) #[] (List.replicate k.toNat [zv].toArray)) = (List.replicate k.toNat zv).toArray := by
      have := foldl_one (v := zv) k.toNat #[]
      simpa using this
    have sz : (List.foldl (fun x1 x2 => x1 ++ x2) #[] (List.replicate k.toNat [zv].toArray)).size ≤ sizeLine := by
      rw [ex, List.size_toArray, List.length_replicate, sizeLine_eq]
      omega
    refine call_meets F.slot_tuple_mul ⟨_, ho, rfl⟩ F.entry_tuple_mul (F.args_tuple_mul_2 _ _) (mul_tupN l _ n k t dd sl hc0 (by simp [e1]) (by simp; omega) (by simp; omega) (by unfold Builtin.Tuple.tupleTooMany; rw [decide_eq_true_iff, sizeLine_eq]; simp; omega) sz) ⟨ho, ?_⟩
    rw [ex]
    have fr := I.hok.fresh (Nat.le_refl s.heap.objs.size)
    refine ⟨.ref s.heap.objs.size, _, I.laid (t' := s.toks) (o := .tup (List.replicate k.toNat z)) (fun b ob q => Heap.get?_push_of_some _ q) (Nat.le_refl _) ?_, rfl, q _ _ (fun b o e => by rw [upd_ne (ne_of_none e fr)]; exact e) upd_same⟩
    exact ⟨by rw [List.length_replicate, sizeLine_eq]; omega, _, vals_rep rz _, IsTupN.new _ _⟩
end
end L2
set_option Elab.async false
set_option linter.all false
set_option maxRecDepth 100000
set_option maxHeartbeats 4000000
namespace My
open PySem L2 TL Sx
abbrev sRight : Stmt := top 33
abbrev sLong : Stmt := top 34
abbrev sLaw : Stmt := top 35
def spRight : Sp := fun vs H Q _ => ∃ (k : Addr), vs = [.ref k] ∧ Sack H k 0 ∧ ∀ H', SameBut k H H' → Q (.bl true) H'
def spLaw (K : PySem.W.Frag) : Sp := fun vs H Q _ => ∃ (a : Addr) (ns : List Int), vs = [.ref a] ∧ SqL K H a (ns.map V.int) ∧ ns.length ≤ 63 ∧ (∀ x ∈ ns, Builtin.Int.intBits x ≤ 2 ^ 20) ∧ ∀ H', Q (.bl true) H'
abbrev NRg : List Str := ["bag", "hold", "turn", "k", "this", "that", "due", "word"]
abbrev NLg : List Str := ["bag", "many", "rows", "chain", "first", "k", "hold"]
theorem seq_but {K : PySem.W.Frag} {H H1 H2 : Hp} {a k : Addr} {xs : List V} (h : SqL K H a xs) (hk : H k = none) (s : Same H H1) (b : SameBut k H1 H2) : SqL K H2 a xs := by
  rcases h with h | h
  · rcases h with h | ⟨o, h⟩
    · exact .inl (.inl (b _ _ (s _ _ h) (ne_of_none h hk)))
    · exact .inl (.inr ⟨o, b _ _ (s _ _ h) (ne_of_none h hk)⟩)
  · exact .inr h
theorem kitBB {K : PySem.W.Frag} : PySem.W.kitOne K (.type "bool") (.type "bool") = some true := by rfl
theorem shaped_tbls (w : List Bool) : SeqAt.shaped (.tuple (w.map PyData.bool)) = true := shaped_of (lay_bls w).1 (by show PyData.depthAll (w.map PyData.bool) + 1 ≤ 60; rw [(lay_bls w).2]; decide)
/-- the word told, as data -/
def pwD : Option (List Bool) → PyData
  | none => .none
  | some w => .tuple (w.map PyData.bool)
theorem pwD_dp {K : PySem.W.Frag} {H : Hp} {r : Option (List Bool)} {v : V} (h : wordV H r v) : Dp K H v (pwD r) := by
  cases r with
  | none =>
    have h : v = .non := h
    subst h
    exact .non
  | some w =>
    obtain ⟨a, rfl, h1⟩ := h
    exact .tup (SqT.of h1) (dp_bls w)
theorem pwD_sh (r : Option (List Bool)) : SeqAt.shaped (pwD r) = true := by
  cases r with
  | none => rfl
  | some w => exact shaped_tbls w
theorem wordV.keep {H H' : Hp} (s : Same H H') {r : Option (List Bool)} {v : V} (h : wordV H r v) : wordV H' r v := by
  cases r with
  | none => exact h
  | some w =>
    obtain ⟨a, e, h1⟩ := h
    exact ⟨a, e, s _ _ h1⟩
theorem word_eq {rs : Prog} {p q : Int} {r r1 : Option (List Bool)} (pb : PB rs [⟨p, q, []⟩] [] [] r1) (h : ∀ w, r = some w → Parts rs p q w ∧ w.length ≤ 9 ∧ ∀ v, Parts rs p q v → cd w ≤ cd v) (hn : r = none → ∀ v, ¬ Parts rs p q v) : r1 = r := by
  cases r with
  | none =>
    cases r1 with
    | none => rfl
    | some w =>
      obtain ⟨t, ht, v, _, hp⟩ := pb.sound rfl
      have : t = ⟨p, q, []⟩ := by simpa using ht
      subst this
      exact absurd hp (hn rfl v)
  | some w =>
    obtain ⟨h1, _, h2⟩ := h w rfl
    obtain ⟨w1, rfl, hp⟩ := pb.told ⟨w, h1⟩
    have a := pb.least w h1
    have b := h2 w1 hp
    rw [cd_inj (by omega : cd w1 = cd w)]
def allC (n : Nat) : List (Int × Int) := (List.range n).flatMap fun (i : Nat) => (List.range n).map fun (j : Nat) => ((i : Int), (j : Int))
theorem mem_allC {n : Nat} {p q : Int} : (p, q) ∈ allC n ↔ (0 ≤ p ∧ p < n) ∧ 0 ≤ q ∧ q < n := by
  unfold allC
  rw [List.mem_flatMap]
  constructor
  · rintro ⟨i, hi, h⟩
    obtain ⟨j, hj, e⟩ := List.mem_map.mp h
    cases e
    have := List.mem_range.mp hi
    have := List.mem_range.mp hj
    omega
  · rintro ⟨⟨a, b⟩, c, d⟩
    exact ⟨p.toNat, List.mem_range.mpr (by omega), List.mem_map.mpr ⟨q.toNat, List.mem_range.mpr (by omega), by rw [show ((p.toNat : Nat) : Int) = p by omega, show ((q.toNat : Nat) : Int) = q by omega]⟩⟩
theorem allC_few {n : Nat} (h : n ≤ 9) : (allC n).length ≤ 1225 := by
  have : n = 0 ∨ n = 1 ∨ n = 2 ∨ n = 3 ∨ n = 4 ∨ n = 5 ∨ n = 6 ∨ n = 7 ∨ n = 8 ∨ n = 9 := by omega
  rcases this with rfl | rfl | rfl | rfl | rfl | rfl | rfl | rfl | rfl | rfl <;> decide
theorem clC_all {o : OwnD} {rs : Prog} (G : RowsGood o rs) (h9 : rs.length ≤ 9) : ClC rs (allC rs.length) := by
  have tg : ∀ {p : Int} {r : List Ordr × Onw}, rowN rs p = some r → ∀ t ∈ tgts r.2, 0 ≤ t ∧ t < rs.length := fun e => G.tg _ _ (rowN_rng e).2.2
  refine ⟨fun x hx => ?_, fun p q cs j k _ e1 e2 => ?_, fun p q cs c j k j' k' _ e1 e2 => ?_, allC_few h9⟩
  · obtain ⟨⟨a, b⟩, c, d⟩ := mem_allC.mp (show (x.1, x.2) ∈ _ from hx)
    exact ⟨a, b, c, d⟩
  · exact mem_allC.mpr ⟨tg e1 j List.mem_cons_self, tg e2 k List.mem_cons_self⟩
  · exact ⟨mem_allC.mpr ⟨tg e1 j List.mem_cons_self, tg e2 j' List.mem_cons_self⟩, mem_allC.mpr ⟨tg e1 k (List.mem_cons_of_mem _ List.mem_cons_self), tg e2 k' (List.mem_cons_of_mem _ List.mem_cons_self)⟩⟩
/-- f(other = o, store = s, one = n): turned into s, n, o -/
def rot51 {α : Type} : List α → List α → List α
  | [], [a, b, c] => [b, c, a]
  | _, _ => []
theorem rot51_inv {α : Type} {us ws : List α} (h : (rot51 us ws).length = 3) : us = [] ∧ ∃ a b c, ws = [a, b, c] := by
  unfold rot51 at h
  split at h
  · exact ⟨rfl, _, _, _, rfl⟩
  · cases h
theorem vals_rot51 {ys zs : List V} {us ws : List Value} (h1 : Vals ys us) (h2 : Vals zs ws) : Vals (rot51 ys zs) (rot51 us ws) := by
  cases h1 with
  | cons a h => exact .nil
  | nil =>
    cases h2 with
    | nil => exact .nil
    | cons a h =>
      cases h with
      | nil => exact .nil
      | cons b h =>
        cases h with
        | nil => exact .nil
        | cons c h =>
          cases h with
          | nil => exact .cons b (.cons c (.cons a .nil))
          | cons d h => exact .nil
section
variable {P : Program} {w : World} {K : PySem.W.Frag} {mg : Str → Option Value} {base : Heap}
structure DfR (K : PySem.W.Frag) (mg : Str → Option Value) where
  DO : DfO K mg
  few : Df K mg "_law_few" sFew ["bag"]
  orders : Df K mg "_law_orders" sOrders ["bag", "kit"]
  names : Df K mg "_law_names" sNamesL ["bag", "many"]
  chain : Df K mg "_law_chain" sChain ["bag", "kit", "many", "pool"]
  put : Df K mg "_law_put" sPut ["onward", "numbers"]
  laid : Df K mg "_law_laid" sLaid ["bag", "kit", "most"]
  whole : Df K mg "is_whole" sWhole ["thing"]
  betw : Df K mg "is_between" sBetween ["thing", "low", "high"]
  named : Df K mg "rows_named" sNamed ["onward"]
  face : Df K mg "face_of" sFace ["row"]
  parted : Df K mg "parted" sParted ["store", "one", "other"]
  unlike : Df K mg "_law_is_unlike" sUnlike ["this", "that"]
  partsBy : Df K mg "_law_parts_by" sPartsBy ["rows", "this", "that", "word"]
  due : Df K mg "_law_word_due" sWordDue ["rows", "this", "that"]
theorem kb_parted (D : Df K mg "parted" sParted ["store", "one", "other"]) : KBinds K D.fd ["store", "one", "other"] ["other", "store", "one"] rot51 rot51 := by
  obtain ⟨oc, od, kV, doc, pm, an, cdv, ct, osl, e, lk, hcd⟩ := D.F.ex
  rw [e]
  refine ⟨fun s us ws _ hl => ?_, fun r1 r2 => vals_rot51 r1 r2⟩
  obtain ⟨rfl, a, b, c, rfl⟩ := rot51_inv hl
  exact .of_eq rfl
theorem scRight : FnScope NRg ["bag"] (defScope sRight) := ⟨rfl, rfl, rfl, by decide +kernel, rfl, by decide +kernel, by decide +kernel⟩
theorem ok_right {f : Addr} {fd : FuncData} (F : Fun K "_law_right" "_law_right" sRight f fd) (D : DfR K mg) (bset : mg "set" = none) (B : Bl mg) : FnOk P w K mg base CX0 8 f fd ["bag"] spRight := by
  have dP := D.DO.pull
  have GP : FnOk P w K mg base CX0 1 dP.f dP.fd ["bag", "many"] spPull := ok_pull dP.F
  have GF : FnOk P w K mg base CX0 2 D.few.f D.few.fd ["bag"] spOwn := ok_few D.few.F dP B
  have GL : FnOk P w K mg base CX0 7 D.laid.f D.laid.fd ["bag", "kit", "most"] spLaid := ok_laid D.laid.F D.DO D.orders D.names D.chain D.put B
  have GT : FnOk P w K mg base CX0 3 D.parted.f D.parted.fd ["store", "one", "other"] spParted := ok_parted D.parted.F D.whole D.betw D.named D.face B bset
  have GW : FnOk P w K mg base CX0 3 D.due.f D.due.fd ["rows", "this", "that"] spWordDue := ok_wordDue D.due.F D.partsBy D.unlike B
  refine F.ok scRight (fun vs H Q E h => ?_) (fun cdv A outer s H vs Q E hr h => ?_)
  · obtain ⟨k, rfl, _⟩ := h
    rfl
  · obtain ⟨k, rfl, S0, q⟩ := h
    have hr1 : Room 1 _ := hr.mono (by decide)
    have hr2 : Room 2 _ := hr.mono (by decide)
    have hr3 : Room 3 _ := hr.mono (by decide)
    refine ⟨_, pss_cons (ps_set (i := 1) scRight.nd rfl (Or.inr rfl) (pe_call GL hr rfl D.laid.m D.laid.F.kp D.laid.b .nil pass0 (pa_cons (pv 0) (pa_cons (pe_call GF hr2 rfl D.few.m D.few.F.kp D.few.b .nil pass0 (pa_cons (pv 0) pa_nil)) (pa_cons pe_int pa_nil)))))
      (pss_cons (ps_for PassesOwn.never rfl (pi_range1 rfl B.range (pa_cons pe_int pa_nil)) (pg_name (i := 2) scRight.nd rfl (Or.inl rfl))
        (pss_cons (ps_asg (pe_lc (own := [("k", 3)]) (g := gName 3) (te := tCall spPull [] E0 (tCons (tVar 0) (tCons (tCB (rLenK K) (tCons (tOp (rIxT K) (tVar 1) (tC (.int 0))) tNil)) tNil))) (by rfl) scRight.nd (pi_range1 rfl B.range (pa_cons pe_int pa_nil)) (blkOk_by (own := [("k", 3)]) (N := NRg) (sc := defScope sRight) (by decide +kernel)) (fun _ _ _ _ _ => pg_name (i := 3) scRight.nd rfl (Or.inl rfl)) (fun _ _ _ _ _ => pts_nil)
            (fun _ _ _ _ _ => pe_call GP hr1 rfl dP.m dP.F.kp dP.b .nil pass0 (pa_cons (pv 0) (pa_cons (pe_callB call_len_seq (by rfl) B.len PySem.boot_len (pa_cons (pe_ix ix_tup (pv 1) pe_int (fun _ _ => rfl)) pa_nil)) pa_nil))))
          (pg_lst (by rfl) (pgs_cons (pg_name (i := 4) scRight.nd rfl (Or.inl rfl)) (pgs_cons (pg_name (i := 5) scRight.nd rfl (Or.inl rfl)) pgs_nil))))
        (pss_cons (ps_set (i := 6) scRight.nd rfl (Or.inl rfl) (pe_call GW hr3 rfl D.due.m D.due.F.kp D.due.b .nil pass0 (pa_cons (pe_ix ix_tup (pv 1) pe_int (fun _ _ => rfl)) (pa_cons (pv 4) (pa_cons (pv 5) pa_nil)))))
        (pss_one (ps_for PassesOwn.never rfl (pi_list (pe_lst (pa_cons (pe_call GT hr3 rfl D.parted.m D.parted.F.kp D.parted.b .nil pass0 (pa_cons (pv 1) (pa_cons (pv 4) (pa_cons (pv 5) pa_nil)))) (pa_cons (pe_callK0 GT hr3 rfl D.parted.m D.parted.F.kp (kb_parted D.parted) pass0 (pk_cons (pv 5) (pk_cons (pv 1) (pk_cons (pv 4) pk_nil)))) pa_nil)))) (pg_name (i := 7) scRight.nd rfl (Or.inl rfl))
          (pss_cons (ps_if (pt_cmpR (op_neD hr.units) (pv 7) (pv 6) (nomark _)) (pss_one (ps_ret pe_bl)) pss_nil)
          (pss_one (ps_if (PW.pt (pw_and (pt_cmp (pc_notN (pv 6))) (pw_and1 (pt_cmpR (op_neD hr.units) (pe_lc (own := [("this", 4)]) (g := gName 4) (tt := tNot (tB (tCB (rIsiK K) (tCons (tVar 4) (tCons (tC (.ty "bool")) tNil))))) (te := tVar 4) (by rfl) scRight.nd (pi_tup (pv 7)) (blkOk_by (own := [("this", 4)]) (N := NRg) (sc := defScope sRight) (by decide +kernel)) (fun _ _ _ _ _ => pg_name (i := 4) scRight.nd rfl (Or.inl rfl))
            (fun _ _ _ _ _ => pts_one (pt_not (pt_val (pe_callB call_isi (by rfl) B.isi (by decide +kernel) (pa_cons (pv 4) (pa_cons (pe_bltn (v := .ty "bool") (by rfl) B.bool (by decide +kernel) rfl) pa_nil)))))) (fun _ _ _ _ _ => pv 4)) (pe_lst pa_nil) (nomark _))))) (pss_one (ps_ret pe_bl)) pss_nil))))))))
      (pss_one (ps_ret pe_bl))), ?read⟩
    case read =>
      -- hold
      refine seq_cut (fun σ' H' => ∃ (t rA : Addr) (v2 : V) (rs : Prog) (o : OwnD), σ' = [some (.ref k), some (.ref t), none, none, none, none, none, none] ∧ Sack H' k 7000 ∧ SameBut k H H' ∧ H' t = some (.tup [.ref rA, v2]) ∧ ProgAt o H' rA rs ∧ OwnOk o ∧ RowsGood o rs ∧ Ranked rs ∧ 1 ≤ rs.length ∧ rs.length ≤ 9) (fun nx imp => ?_) ?_
      · exact ⟨_, rfl, _, rfl, k, 0, rfl, S0, by decide, fun p o H1 _ sb1 S1 T1 O1 => ⟨k, p, 120, o, 9, rfl, S1, by decide, T1, O1, by decide, by decide, fun t rA v2 rs H2 sb2 S2 hT hR hG hK h1 h9 => imp _ _ ⟨t, rA, v2, rs, o, rfl, S2.mono (by decide), sb1.trans sb2, hT, hR, O1, hG, hK, h1, h9⟩⟩⟩
      rintro σ H1 ⟨t, rA, v2, rs, o, rfl, S1, sb1, hT1, hR1, hO, hG, hK, h1, h9⟩
      obtain ⟨rvs, hRA, hRows⟩ := hR1.at_
      have rlen : rvs.length = rs.length := hRows.length.symm
      have hCl := clC_all hG h9
      refine seq_cut (fun σ' H' => SameBut k H H') (fun nx imp => ?_) ?_
      · refine ⟨6, rfl, by decide, by decide, ?_⟩
        refine for_range (lo := 0) (n := (6 : Int).toNat) (fun i σ H' => ∃ v2 v3 v4 v5 v6 v7, σ = [some (.ref k), some (.ref t), v2, v3, v4, v5, v6, v7] ∧ Sack H' k (7000 + 20 * i) ∧ SameBut k H1 H') ⟨none, none, none, none, none, none, rfl, S1, SameBut.refl⟩ ?_ ?_
        · rintro i σ H2 hi ⟨w2, w3, w4, w5, w6, w7, rfl, S2, sb2⟩
          have hi : i < 6 := hi
          -- this, that
          refine seq_cut (fun σ' H' => ∃ (w2 w3 : Option V) (p q : Int), σ' = [some (.ref k), some (.ref t), w2, w3, some (.int p), some (.int q), w6, w7] ∧ Sack H' k (7000 + 20 * i + 5) ∧ SameBut k H1 H' ∧ 0 ≤ p ∧ p < rs.length ∧ 0 ≤ q ∧ q < rs.length) (fun nx2 imp2 => ?_) ?_
          · refine ⟨2, rfl, by decide, by decide, fun D0 hD => ?_⟩
            have nDk : D0 ≠ k := by
              obtain ⟨_, _, _, z, _⟩ := S2
              exact (ne_of_none z hD).symm
            refine lc_range (lo := 0) (n := (2 : Int).toNat) (fun j H4 => ∃ ns : List Int, H4 D0 = some (.lst (ns.map V.int)) ∧ ns.length = j ∧ (∀ x ∈ ns, 0 ≤ x ∧ x < rs.length) ∧ Sack H4 k (7000 + 20 * i + j) ∧ SameBut k H2 H4)
              ⟨[], upd_same, rfl, (fun x hx => nomatch hx), S2.same (same_new hD _), SameBut.new hD⟩ ?_ ?_
            · rintro j H4 hj ⟨ns, d1, d2, d3, S4, sb4⟩
              have hj : j < 2 := hj
              have kk := (S1.keepT sb2).trans (S2.keepT sb4)
              refine ⟨rfl, _, rfl, _, rfl, t, _, _, _, rfl, rfl, SqT.of (kk _ _ hT1), at0, rA, _, rfl, .inr (SqT.of (kk _ _ hRA)), k, _, _, rfl, S4, by omega, by omega, by omega, fun r5 H5 a5 b5 sb5 S5 => ?_⟩
              refine ⟨_, sb5 _ _ d1 nDk, (by rw [List.length_map]; exact small1000 (by omega)), ns ++ [r5], (by rw [upd_same, List.map_append]; rfl), (by rw [List.length_append, d2]; rfl), fun x hx => ?_, (S5.updK nDk).mono (by omega), (sb4.trans sb5).updNew hD⟩
              rcases List.mem_append.mp hx with z | z
              · exact d3 x z
              · rw [List.mem_singleton.mp z]
                omega
            · rintro H4 ⟨ns, d1, d2, d3, S4, sb4⟩
              have d2 : ns.length = 2 := d2
              obtain ⟨x, y, rfl⟩ : ∃ x y, ns = [x, y] := by
                match ns, d2 with
                | [x, y], _ => exact ⟨x, y, rfl⟩
              have S4' : Sack H4 k (7000 + 20 * i + 2) := S4
              have hx := d3 x List.mem_cons_self
              have hy := d3 y (List.mem_cons_of_mem _ List.mem_cons_self)
              exact ⟨D0, _, rfl, SqL.of d1, rfl, _, _, rfl, _, _, rfl, rfl, imp2 _ _ ⟨_, _, x, y, rfl, S4'.mono (by omega), sb2.trans sb4, hx.1, hx.2, hy.1, hy.2⟩⟩
          clear S2 sb2 w2 w3 w4 w5
          rintro σ H2 ⟨w2, w3, p, q', rfl, S2, sb2, p0, p1, q0, q1⟩
          have k12 := S1.keepT sb2
          -- due
          refine seq_cut (fun σ' H' => ∃ (r : Option (List Bool)) (v : V), σ' = [some (.ref k), some (.ref t), w2, w3, some (.int p), some (.int q'), some v, w7] ∧ Same H2 H' ∧ wordV H' r v ∧ (∀ w, r = some w → Parts rs p q' w ∧ w.length ≤ 9 ∧ ∀ v, Parts rs p q' v → cd w ≤ cd v) ∧ (r = none → ∀ v, ¬ Parts rs p q' v)) (fun nx2 imp2 => ?_) ?_
          · exact ⟨_, rfl, t, _, _, _, rfl, rfl, SqT.of (k12 _ _ hT1), at0, _, rfl, _, rfl, rA, p, q', o, rs, rfl, hR1.keep k12, hO, hG, hK, h9, p0, p1, q0, q1, fun r v H3 s3 hv h1 h2 => imp2 _ _ ⟨r, v, rfl, s3, hv, h1, h2⟩⟩
          rintro σ H3 ⟨r, dv, rfl, s3, hv3, hw1, hw2⟩
          have k13 := k12.trans (KeepT.of s3)
          -- told twice
          refine ⟨_, rfl, _, rfl, _, rfl, t, rA, v2, p, q', o, rs, rfl, k13 _ _ hT1, hR1.keep k13, hO, hG, by omega, ⟨_, hCl, mem_allC.mpr ⟨⟨p0, p1⟩, q0, q1⟩⟩, fun ra va H4 s4 pba la hva => ?_⟩
          have ea : ra = r := word_eq pba hw1 hw2
          subst ea
          have k14 := k13.trans (KeepT.of s4)
          refine ⟨_, rfl, _, rfl, _, rfl, t, rA, v2, p, q', o, rs, rfl, k14 _ _ hT1, hR1.keep k14, hO, hG, by omega, ⟨_, hCl, mem_allC.mpr ⟨⟨p0, p1⟩, q0, q1⟩⟩, fun rb vb H5 s5 pbb lb hvb => ?_⟩
          have eb : rb = ra := word_eq pbb hw1 hw2
          subst eb
          refine ⟨(by show 2 ≤ sizeLine; decide), fun L hL => ?_⟩
          have s6 := same_new hL (.lst [va, vb])
          have hL6 : (upd H5 L (.lst [va, vb])) L = some (.lst [va, vb]) := upd_same
          have hva6 := (hva.keep s5).keep s6
          have hvb6 := hvb.keep s6
          have hd6 := ((hv3.keep s4).keep s5).keep s6
          have s36 := s4.trans (s5.trans s6)
          refine ⟨L, rfl, ⟨_, SqL.of hL6⟩, ?_⟩
          refine for_list (K := K) (a := L) (xs := [va, vb]) (fun j σ H' => ∃ v7, σ = [some (.ref k), some (.ref t), w2, w3, some (.int p), some (.int q'), some dv, v7] ∧ Same (upd H5 L (.lst [va, vb])) H') ⟨_, rfl, fun _ _ e => e⟩ (fun j σ H' _ z => by obtain ⟨_, _, z⟩ := z; exact SqL.of (z _ _ hL6)) ?_ ?_
          · rintro j x σ H7 hx ⟨x7, rfl, s7⟩
            have hwx : wordV H7 rb x := by
              match j, hx with
              | 0, hx => cases hx; exact hva6.keep s7
              | 1, hx => cases hx; exact hvb6.keep s7
              | j + 2, hx => simp at hx
            have hd7 := hd6.keep s7
            refine seq_cut (fun σ' H' => σ' = [some (.ref k), some (.ref t), w2, w3, some (.int p), some (.int q'), some dv, some x] ∧ H' = H7) (fun nx2 imp2 => ?_) ?_
            · refine ⟨_, rfl, _, rfl, pwD rb, pwD rb, pwD_dp hwx, pwD_dp hd7, pwD_sh rb, pwD_sh rb, _, rfl, ?_⟩
              rw [SeqAt.eqv_refl _ (SeqAt.canLay_of_shaped (pwD_sh rb))]
              exact iteF (imp2 _ _ ⟨rfl, rfl⟩)
            rintro σ H7' ⟨rfl, eH⟩
            subst eH
            cases rb with
            | none =>
              have e : dv = .non := hd7
              subst e
              exact ⟨_, rfl, _, rfl, iteF (iteF ⟨_, rfl, s7⟩)⟩
            | some wd =>
              obtain ⟨dA, rfl, _⟩ := hd7
              obtain ⟨wA, rfl, hwA⟩ := hwx
              refine ⟨_, rfl, _, rfl, iteT ?_⟩
              refine ⟨_, rfl, wA, rfl, ⟨_, SqT.of hwA⟩, fun D0 hD0 => ?_⟩
              refine lc_tup (K := K) (a := wA) (xs := wd.map V.bl) (fun i H10 => Same H7' H10 ∧ H10 D0 = some (.lst [])) ⟨same_new hD0 _, upd_same⟩ (fun i H10 _ h => SqT.of (h.1 _ _ hwA)) ?_ ?_
              · rintro i v H10 hv ⟨s10, hd10⟩
                obtain ⟨b, _, rfl⟩ := List.mem_map.mp (List.mem_of_getElem? hv)
                exact ⟨rfl, _, rfl, _, _, _, true, rfl, .bl _, kitBB, _, rfl, iteF ⟨s10, hd10⟩⟩
              · rintro H10 ⟨s10, hd10⟩
                refine ⟨(by show 0 ≤ sizeLine; decide), fun e0 he0 => ?_⟩
                have t1 := same_new he0 (.lst [])
                exact ⟨.list ([] : List PyData), .list [], .lst (SqL.of (t1 _ _ hd10)) .nil, .lst (SqL.of upd_same) .nil, shaped_bls [], shaped_bls [], _, rfl, iteF ⟨_, rfl, s7.trans (s10.trans t1)⟩⟩
          · rintro σ H7 ⟨x7, rfl, s7⟩
            have sF := s3.trans (s36.trans s7)
            exact ⟨_, _, _, _, _, _, rfl, (S2.same sF).mono (by omega), sb2.trans sF.but⟩
        · rintro σ H2 ⟨_, _, _, _, _, _, rfl, _, sb2⟩
          exact imp _ _ (sb1.trans sb2)
      rintro σ H2 sb2
      exact q _ sb2
end
end My
set_option Elab.async false
set_option linter.all false
set_option maxRecDepth 100000
set_option maxHeartbeats 4000000
namespace My
open PySem L2 TL Sx
theorem lgO_ok : OwnOk lgO := ⟨by decide, ⟨1, ⟨rfl, List.nodup_cons.mpr ⟨(fun z => nomatch z), List.nodup_nil⟩, fun x hx => by rw [List.mem_singleton.mp hx]; exact (by rfl : isNameB (Str.ofString "a") = true)⟩, by decide, by decide⟩, by decide, by decide, by decide, by decide⟩
theorem range_snoc {m n : Nat} : (List.range (n + 1)).map (lgRow m) = (List.range n).map (lgRow m) ++ [lgRow m n] := by rw [List.range_succ, List.map_append]; rfl
section
variable {P : Program} {w : World} {K : PySem.W.Frag} {mg : Str → Option Value} {base : Heap}
theorem scLong : FnScope NLg ["bag"] (defScope sLong) := ⟨rfl, rfl, rfl, by decide +kernel, rfl, by decide +kernel, by decide +kernel⟩
theorem ok_long {f : Addr} {fd : FuncData} (F : Fun K "_law_long_right" "_law_long_right" sLong f fd) (D : DfR K mg) (bset : mg "set" = none) (B : Bl mg) : FnOk P w K mg base CX0 8 f fd ["bag"] spRight := by
  have dP := D.DO.pull
  have GP : FnOk P w K mg base CX0 1 dP.f dP.fd ["bag", "many"] spPull := ok_pull dP.F
  have GT : FnOk P w K mg base CX0 3 D.parted.f D.parted.fd ["store", "one", "other"] spParted := ok_parted D.parted.F D.whole D.betw D.named D.face B bset
  refine F.ok scLong (fun vs H Q E h => ?_) (fun cdv A outer s H vs Q E hr h => ?_)
  · obtain ⟨k, rfl, _⟩ := h
    rfl
  · obtain ⟨k, rfl, S0, q⟩ := h
    have hr1 : Room 1 _ := hr.mono (by decide)
    have hr3 : Room 3 _ := hr.mono (by decide)
    refine ⟨_, pss_cons (ps_set (i := 1) scLong.nd rfl (Or.inl rfl) (pe_op op_add pe_int (pe_call GP hr1 rfl dP.m dP.F.kp dP.b .nil pass0 (pa_cons (pv 0) (pa_cons (pe_ix ix_list (pe_lst (pa_cons pe_int (pa_cons pe_int pa_nil))) (pe_call GP hr1 rfl dP.m dP.F.kp dP.b .nil pass0 (pa_cons (pv 0) (pa_cons pe_int pa_nil))) (fun _ _ => rfl)) pa_nil)))))
      (pss_cons (ps_set (i := 2) scLong.nd rfl (Or.inl rfl) (pe_lst pa_nil))
      (pss_cons (ps_for PassesOwn.never rfl (pi_range1 rfl B.range (pa_cons pe_int pa_nil)) (pg_name (i := 3) scLong.nd rfl (Or.inl rfl))
        (pss_cons (ps_set (i := 4) scLong.nd rfl (Or.inl rfl) (pe_callB call_len_seq (by rfl) B.len PySem.boot_len (pa_cons (pv 2) pa_nil)))
        (pss_cons (ps_for PassesOwn.never rfl (pi_range1 rfl B.range (pa_cons (pv 1) pa_nil)) (pg_name (i := 5) scLong.nd rfl (Or.inl rfl))
          (pss_one (ps_expr (pe_bm PySem.F.plainAttrs_list PySem.F.slot_list_append PySem.F.type_list_append mt_append (pv 2) (pa_cons (pe_tup (pa_cons (pe_tup pa_nil) (pa_cons (pe_tup (pa_cons pe_str (pa_cons (pe_tup (pa_cons pe_str (pa_cons pe_str pa_nil))) (pa_cons (pe_op op_add (pe_op op_add (pv 4) (pv 5)) pe_int) (pa_cons (pe_op op_add (pe_op op_add (pv 4) (pv 5)) pe_int) pa_nil))))) pa_nil))) pa_nil)))))
        (pss_one (ps_expr (pe_bm PySem.F.plainAttrs_list PySem.F.slot_list_append PySem.F.type_list_append mt_append (pv 2) (pa_cons (pe_tup (pa_cons (pe_tup (pa_cons (pe_tup (pa_cons pe_str (pa_cons (pe_tup (pa_cons pe_str (pa_cons pe_str pa_nil))) (pa_cons (pv 3) pa_nil)))) pa_nil)) (pa_cons (pe_tup (pa_cons pe_str pa_nil)) pa_nil))) pa_nil)))))))
      (pss_cons (ps_set (i := 6) scLong.nd rfl (Or.inl rfl) (pe_tup (pa_cons (pe_callTy call_tuple_of (by rfl) B.tup (by decide +kernel) (pa_cons (pv 2) pa_nil)) (pa_cons (pe_tup (pa_cons (pe_tup (pa_cons pe_str (pa_cons pe_int pa_nil))) (pa_cons (pe_tup (pa_cons pe_str (pa_cons (pe_op op_add (pv 1) pe_int) pa_nil))) pa_nil))) pa_nil))))
      (pss_cons (ps_for PassesOwn.never rfl (pi_range1 rfl B.range (pa_cons (pe_op op_add (pv 1) pe_int) pa_nil)) (pg_name (i := 5) scLong.nd rfl (Or.inl rfl))
        (pss_one (ps_if (pt_cmpR (op_neD hr.units) (pe_call GT hr3 rfl D.parted.m D.parted.F.kp D.parted.b .nil pass0 (pa_cons (pv 6) (pa_cons (pv 5) (pa_cons (pe_op op_add (pe_op op_add (pv 1) pe_int) (pv 5)) pa_nil)))) (pe_op op_repT (pe_tup (pa_cons pe_bl pa_nil)) (pe_op op_sub (pv 1) (pv 5))) (nomark _)) (pss_one (ps_ret pe_bl)) pss_nil)))
      (pss_one (ps_ret (pe_cmpR (op_eqD hr.units) (pe_call GT hr3 rfl D.parted.m D.parted.F.kp D.parted.b .nil pass0 (pa_cons (pv 6) (pa_cons pe_int (pa_cons pe_int pa_nil)))) (pe_op op_repT (pe_tup (pa_cons pe_bl pa_nil)) (pe_op op_sub (pv 1) pe_int)) (nomark _)))))))), ?read⟩
    case read =>
      have nek : ∀ {H1 : Hp} {m : Nat} {b : Addr}, Sack H1 k m → H1 b = none → b ≠ k := fun S hb => by
        obtain ⟨_, _, _, z, _⟩ := S
        exact (ne_of_none z hb).symm
      -- many
      refine seq_cut (fun σ' H' => ∃ m : Nat, σ' = [some (.ref k), some (.int m), none, none, none, none, none] ∧ SameBut k H H' ∧ 1 ≤ m ∧ m ≤ 60) (fun nx imp => ?_) ?_
      · refine ⟨_, rfl, (by show 2 ≤ sizeLine; decide), fun L hL => ?_⟩
        have s1 := same_new hL (.lst [V.int 12, V.int 60])
        refine ⟨_, rfl, k, _, _, rfl, S0.same s1, by decide, by decide, by decide, fun r1 H1 a1 b1 sb1 S1 => ?_⟩
        obtain ⟨c, hc, c1, c2⟩ : ∃ c : Int, atI [V.int 12, V.int 60] r1 = some (.int c) ∧ 1 ≤ c ∧ c ≤ 60 := by
          obtain rfl | rfl : r1 = 0 ∨ r1 = 1 := by omega
          · exact ⟨12, rfl, by decide, by decide⟩
          · exact ⟨60, rfl, by decide, by decide⟩
        refine ⟨L, _, _, _, rfl, rfl, SqL.of (sb1 _ _ upd_same (nek S0 hL)), hc, k, c, _, rfl, S1, by decide, by omega, by omega, fun r2 H2 a2 b2 sb2 S2 => ⟨_, _, rfl, rfl, ?_⟩⟩
        exact imp _ _ ⟨(1 + r2).toNat, by rw [show (((1 + r2).toNat : Nat) : Int) = 1 + r2 by omega]; rfl, s1.but.trans (sb1.trans sb2), by omega, by omega⟩
      rintro σ H1 ⟨m, rfl, sb1, m1, m60⟩
      -- rows
      refine seq_cut (fun σ' H' => ∃ R : Addr, σ' = [some (.ref k), some (.int m), some (.ref R), none, none, none, none] ∧ H1 R = none ∧ H' = upd H1 R (.lst [])) (fun nx imp => ?_) ?_
      · exact ⟨(by show 0 ≤ sizeLine; decide), fun R hR => imp _ _ ⟨R, rfl, hR, rfl⟩⟩
      rintro σ H2 ⟨R, rfl, hR0, eH2⟩
      -- what stands: n rows laid
      refine seq_cut (fun σ' H' => ∃ (vs : List V) (v3 v4 v5 : Option V), σ' = [some (.ref k), some (.int m), some (.ref R), v3, v4, v5, none] ∧ H' R = some (.lst vs) ∧ RowsAt lgO H' (lgProg m) vs ∧ SameBut R H2 H') (fun nx imp => ?_) ?_
      · refine ⟨2, rfl, by decide, by decide, ?_⟩
        refine for_range (lo := 0) (n := (2 : Int).toNat) (fun c σ H' => ∃ (vs : List V) (v3 v4 v5 : Option V), σ = [some (.ref k), some (.int m), some (.ref R), v3, v4, v5, none] ∧ H' R = some (.lst vs) ∧ RowsAt lgO H' ((List.range (c * (m + 1))).map (lgRow m)) vs ∧ SameBut R H2 H')
          ⟨[], none, none, none, rfl, by rw [eH2]; exact upd_same, by rw [Nat.zero_mul]; exact .nil, SameBut.refl⟩ ?_ ?_
        · rintro c σ H3 hc ⟨vs, v3, v4, v5, rfl, hR3, hA3, sb3⟩
          have hc : c < 2 := hc
          have vlen : vs.length = c * (m + 1) := by rw [← hA3.length, List.length_map, List.length_range]
          -- first
          refine seq_cut (fun σ' H' => σ' = [some (.ref k), some (.int m), some (.ref R), some (.int (c : Nat)), some (.int ((c * (m + 1) : Nat) : Int)), v5, none] ∧ H' = H3) (fun nx2 imp2 => ?_) ?_
          · exact ⟨_, rfl, R, _, rfl, .inl (SqL.of hR3), imp2 _ _ ⟨by rw [vlen, Int.zero_add]; rfl, rfl⟩⟩
          rintro σ H3' ⟨rfl, eH⟩
          subst eH
          generalize ef : c * (m + 1) = fi at *
          have rowT : ∀ i, i < m → lgRow m (fi + i) = ([], .test rA1 (((fi + i : Nat) : Int) + 1) (((fi + i : Nat) : Int) + 1)) := fun i hi => by
            obtain rfl | rfl : c = 0 ∨ c = 1 := by omega
            · have : fi = 0 := by omega
              subst this
              rw [Nat.zero_add]
              exact lgT hi
            · have : fi = m + 1 := by omega
              subst this
              exact lgT2 hi
          have rowE : lgRow m (fi + m) = ([.put rA1 ((c : Nat) : Int)], .fin) := by
            obtain rfl | rfl : c = 0 ∨ c = 1 := by omega
            · have : fi = 0 := by omega
              subst this
              rw [Nat.zero_add]
              exact lgE m
            · have : fi = m + 1 := by omega
              subst this
              exact lgE2 m
          have f61 : fi ≤ 61 := by
            obtain rfl | rfl : c = 0 ∨ c = 1 := by omega
            · omega
            · omega
          have fnx : (c + 1) * (m + 1) = fi + m + 1 := by rw [Nat.succ_mul, ef]; omega
          -- the tests
          refine seq_cut (fun σ' H' => ∃ (vs : List V) (v5 : Option V), σ' = [some (.ref k), some (.int m), some (.ref R), some (.int (c : Nat)), some (.int (fi : Nat)), v5, none] ∧ H' R = some (.lst vs) ∧ RowsAt lgO H' ((List.range (fi + m)).map (lgRow m)) vs ∧ SameBut R H2 H') (fun nx2 imp2 => ?_) ?_
          · refine ⟨_, rfl, (m : Int), rfl, by omega, by omega, ?_⟩
            refine for_range (lo := 0) (n := (m : Int).toNat) (fun i σ H' => ∃ (vs : List V) (v5 : Option V), σ = [some (.ref k), some (.int m), some (.ref R), some (.int (c : Nat)), some (.int (fi : Nat)), v5, none] ∧ H' R = some (.lst vs) ∧ RowsAt lgO H' ((List.range (fi + i)).map (lgRow m)) vs ∧ SameBut R H2 H') ⟨vs, _, rfl, hR3, hA3, sb3⟩ ?_ ?_
            · rintro i σ H4 hi ⟨vs4, w5, rfl, hR4, hA4, sb4⟩
              have hi : i < m := by omega
              have vl4 : vs4.length = fi + i := by rw [← hA4.length, List.length_map, List.length_range]
              refine ⟨_, rfl, .inl ⟨rfl, _, SqL.of hR4⟩, (by show 0 ≤ sizeLine; decide), fun a1 h1 => ?_⟩
              refine ⟨(by show 2 ≤ sizeLine; decide), fun a2 h2 => ⟨_, rfl, _, rfl, _, _, rfl, rfl, _, _, rfl, rfl, _, rfl, _, rfl, _, _, rfl, rfl, _, _, rfl, rfl, (by show 4 ≤ sizeLine; decide), fun a3 h3 => ⟨(by show 2 ≤ sizeLine; decide), fun a4 h4 => ?_⟩⟩⟩
              have e0 : ((fi : Nat) : Int) + (0 + (i : Nat)) + 1 = ((fi + i : Nat) : Int) + 1 := by omega
              have t1 := same_new h1 (.tup [])
              have t2 := same_new h2 (.tup [V.str (Str.ofString "reg"), V.str (Str.ofString "a")])
              have t3 := same_new h3 (.tup [V.str (Str.ofString "test"), V.ref a2, V.int (((fi : Nat) : Int) + (0 + (i : Nat)) + 1), V.int (((fi : Nat) : Int) + (0 + (i : Nat)) + 1)])
              have t4 := same_new h4 (.tup [V.ref a1, V.ref a3])
              have t14 := t1.trans (t2.trans (t3.trans t4))
              have hR5 := t14 _ _ hR4
              refine ⟨R, _, _, rfl, rfl, hR5, small1000 (by omega), vs4 ++ [.ref a4], _, rfl, upd_same, ?_, (sb4.trans t14.but).trans SameBut.upd⟩
              have kU : KeepT _ (upd _ R (.lst (vs4 ++ [V.ref a4]))) := KeepT.upd hR5
              rw [show fi + (i + 1) = fi + i + 1 by omega, range_snoc]
              refine paired_snocK ⟨a4, a1, a3, [], rfl, kU _ _ upd_same, kU _ _ (t4 _ _ (t3 _ _ (t2 _ _ upd_same))), ?_, ?_⟩ (hA4.keep ((KeepT.of t14).trans kU))
              · rw [rowT i hi]; exact .nil
              · rw [rowT i hi, ← e0]
                exact .tup (kU _ _ (t4 _ _ upd_same)) (.cons (.str _) (.cons (.tup (kU _ _ (t4 _ _ (t3 _ _ upd_same))) (.cons (.str _) (.cons (.str _) .nil))) (.cons (.int _) (.cons (.int _) .nil))))
            · rintro σ H4 ⟨vs4, w5, rfl, hR4, hA4, sb4⟩
              exact imp2 _ _ ⟨vs4, _, rfl, hR4, hA4, sb4⟩
          rintro σ H4 ⟨vs4, w5, rfl, hR4, hA4, sb4⟩
          have vl4 : vs4.length = fi + m := by rw [← hA4.length, List.length_map, List.length_range]
          refine ⟨_, rfl, .inl ⟨rfl, _, SqL.of hR4⟩, (by show 2 ≤ sizeLine; decide), fun a1 h1 => ⟨_, rfl, (by show 3 ≤ sizeLine; decide), fun a2 h2 => ⟨(by show 1 ≤ sizeLine; decide), fun a3 h3 => ⟨(by show 1 ≤ sizeLine; decide), fun a4 h4 => ⟨(by show 2 ≤ sizeLine; decide), fun a5 h5 => ?_⟩⟩⟩⟩⟩
          have t1 := same_new h1 (.tup [V.str (Str.ofString "reg"), V.str (Str.ofString "a")])
          have t2 := same_new h2 (.tup [V.str (Str.ofString "put"), V.ref a1, V.int (c : Nat)])
          have t3 := same_new h3 (.tup [V.ref a2])
          have t4 := same_new h4 (.tup [V.str (Str.ofString "end")])
          have t5 := same_new h5 (.tup [V.ref a3, V.ref a4])
          have t15 := t1.trans (t2.trans (t3.trans (t4.trans t5)))
          have hR5 := t15 _ _ hR4
          refine ⟨R, _, _, rfl, rfl, hR5, small1000 (by omega), vs4 ++ [.ref a5], _, _, _, rfl, upd_same, ?_, (sb4.trans t15.but).trans SameBut.upd⟩
          have kU : KeepT _ (upd _ R (.lst (vs4 ++ [V.ref a5]))) := KeepT.upd hR5
          rw [fnx, range_snoc]
          refine paired_snocK ⟨a5, a3, a4, [.ref a2], rfl, kU _ _ upd_same, kU _ _ (t5 _ _ (t4 _ _ upd_same)), ?_, ?_⟩ (hA4.keep ((KeepT.of t15).trans kU))
          · rw [rowE]
            refine .cons ⟨?_, ?_⟩ .nil
            · exact .tup (kU _ _ (t5 _ _ (t4 _ _ (t3 _ _ upd_same)))) (.cons (.str _) (.cons (.tup (kU _ _ (t5 _ _ (t4 _ _ (t3 _ _ (t2 _ _ upd_same))))) (.cons (.str _) (.cons (.str _) .nil))) (.cons (.int _) .nil)))
            · refine ⟨List.mem_singleton.mpr rfl, by omega, ?_⟩
              show ((c : Nat) : Int) < 2
              omega
          · rw [rowE]
            exact .tup (kU _ _ (t5 _ _ upd_same)) (.cons (.str _) .nil)
        · rintro σ H3 ⟨vs, v3, v4, v5, rfl, hR3, hA3, sb3⟩
          have e : (2 : Int).toNat * (m + 1) = 2 * m + 2 := by show 2 * (m + 1) = _; omega
          rw [e] at hA3
          exact imp _ _ ⟨vs, v3, v4, v5, rfl, hR3, hA3, sb3⟩
      rintro σ H3 ⟨vs, v3, v4, v5, rfl, hR3, hA3, sb3⟩
      have sb13 : SameBut k H H3 := by
        refine sb1.trans ?_
        intro b u e n
        have : H2 b = some u := by rw [eH2, upd_ne (ne_of_none e hR0)]; exact e
        exact sb3 _ _ this (ne_of_none e hR0)
      -- hold
      refine seq_cut (fun σ' H' => ∃ (t rA : Addr) (v2 : V), σ' = [some (.ref k), some (.int m), some (.ref R), v3, v4, v5, some (.ref t)] ∧ Same H3 H' ∧ H' t = some (.tup [.ref rA, v2]) ∧ ProgAt lgO H' rA (lgProg m)) (fun nx imp => ?_) ?_
      · refine ⟨_, rfl, R, _, rfl, .inl ⟨SqL.of hR3, fun rA hrA => ?_⟩⟩
        refine ⟨(by show 2 ≤ sizeLine; decide), fun a1 h1 => ⟨_, rfl, _, _, rfl, rfl, (by show 2 ≤ sizeLine; decide), fun a2 h2 => ⟨(by show 2 ≤ sizeLine; decide), fun a3 h3 => ⟨(by show 2 ≤ sizeLine; decide), fun t ht => imp _ _ ⟨t, rA, .ref a3, rfl, ?_, upd_same, ?_⟩⟩⟩⟩⟩
        · exact (same_new hrA _).trans ((same_new h1 _).trans ((same_new h2 _).trans ((same_new h3 _).trans (same_new ht _))))
        · have z := (same_new h1 _).trans ((same_new h2 _).trans ((same_new h3 _).trans (same_new ht (.tup [V.ref rA, V.ref a3]))))
          exact ⟨vs, z _ _ upd_same, hA3.keep (KeepT.of ((same_new hrA _).trans z))⟩
      rintro σ H4 ⟨t, rA, v2, rfl, s4, ht4, hP4⟩
      have cl := lg_clC m60
      have gd := lg_good m
      have ll := lgLen m
      have told : ∀ (r : Option (List Bool)) (n : Nat) (v u : V) (H5 : Hp), r = some (List.replicate n false) → wordV H5 r v → (∃ a, u = .ref a ∧ H5 a = some (.tup (List.replicate n (V.bl false)))) → ∃ d e, Dp K H5 v d ∧ Dp K H5 u e ∧ SeqAt.shaped d = true ∧ SeqAt.shaped e = true ∧ d = e := by
        rintro r n v u H5 rfl hv ⟨a, rfl, ha⟩
        refine ⟨_, _, pwD_dp hv, pwD_dp (r := some (List.replicate n false)) ⟨a, rfl, ?_⟩, pwD_sh _, pwD_sh _, rfl⟩
        rw [List.map_replicate]
        exact ha
      refine seq_cut (fun σ' H' => ∃ v5, σ' = [some (.ref k), some (.int m), some (.ref R), v3, v4, v5, some (.ref t)] ∧ Same H4 H') (fun nx imp => ?_) ?_
      · refine ⟨_, rfl, _, _, rfl, rfl, (m : Int) + 1, rfl, by omega, by omega, ?_⟩
        refine for_range (lo := 0) (n := ((m : Int) + 1).toNat) (fun i σ H' => ∃ v5, σ = [some (.ref k), some (.int m), some (.ref R), v3, v4, v5, some (.ref t)] ∧ Same H4 H') ⟨_, rfl, fun _ _ e => e⟩ ?_ ?_
        · rintro i σ H5 hi ⟨w5, rfl, s5⟩
          have hi : i ≤ m := by omega
          have e1 : (0 : Int) + (i : Nat) = (i : Nat) := by omega
          rw [e1]
          have e2 : (m : Int) + 1 + (i : Nat) = ((m + 1 + i : Nat) : Int) := by omega
          refine ⟨_, rfl, _, rfl, _, rfl, _, _, rfl, rfl, _, rfl, _, _, rfl, rfl, t, rA, v2, (i : Nat), (m : Int) + 1 + (i : Nat), lgO, lgProg m, rfl, s5 _ _ ht4, hP4.keep (KeepT.of s5), lgO_ok, gd, by omega, ⟨_, cl, by rw [e2]; exact lgC1 hi⟩, fun r v H6 s6 pb _ hv => ?_⟩
          rw [e2] at pb
          have er := lg_word pb (lg_ex1 (m - i) i (by omega)) (fun w hw => lg_len1 hw i rfl hi rfl)
          refine ⟨(by show 1 ≤ sizeLine; decide), fun c1 hc1 => ⟨_, rfl, _, rfl, _, _, rfl, rfl, c1, (m : Int) - (i : Nat), V.bl false, rfl, rfl, upd_same, by omega, by omega, fun pA H7 s7 hpA => ?_⟩⟩
          have s67 := (same_new hc1 (.tup [V.bl false])).trans s7
          rw [show ((m : Int) - (i : Nat)).toNat = m - i by omega] at hpA
          obtain ⟨d, e, hd, he, sd, se, ede⟩ := told r (m - i) v (.ref pA) H7 er (hv.keep s67) ⟨pA, rfl, hpA⟩
          refine ⟨d, e, hd, he, sd, se, _, rfl, ?_⟩
          subst ede
          rw [SeqAt.eqv_refl _ (SeqAt.canLay_of_shaped sd)]
          exact iteF ⟨_, rfl, s5.trans (s6.trans s67)⟩
        · rintro σ H5 ⟨w5, rfl, s5⟩
          exact imp _ _ ⟨_, rfl, s5⟩
      rintro σ H5 ⟨w5, rfl, s5⟩
      refine ⟨_, rfl, t, rA, v2, 0, 1, lgO, lgProg m, rfl, s5 _ _ ht4, hP4.keep (KeepT.of s5), lgO_ok, gd, by omega, ⟨_, cl, lgC2 (m := m) (k := 0) (by omega)⟩, fun r v H6 s6 pb _ hv => ?_⟩
      have er := lg_word pb (lg_ex2 (m := m) (m - 1) 0 (by omega)) (fun w hw => by rw [lg_len2 hw 0 rfl (by omega) rfl]; omega)
      refine ⟨(by show 1 ≤ sizeLine; decide), fun c1 hc1 => ⟨_, rfl, _, _, rfl, rfl, c1, (m : Int) - 1, V.bl false, rfl, rfl, upd_same, by omega, by omega, fun pA H7 s7 hpA => ?_⟩⟩
      have s67 := (same_new hc1 (.tup [V.bl false])).trans s7
      rw [show ((m : Int) - 1).toNat = m - 1 by omega] at hpA
      obtain ⟨d, e, hd, he, sd, se, ede⟩ := told r (m - 1) v (.ref pA) H7 er (hv.keep s67) ⟨pA, rfl, hpA⟩
      refine ⟨d, e, hd, he, sd, se, ?_⟩
      subst ede
      rw [SeqAt.eqv_refl _ (SeqAt.canLay_of_shaped sd)]
      exact q _ (sb13.trans (s4.but.trans (s5.but.trans (s6.but.trans s67.but))))
theorem scLaw : FnScope ["script", "k"] ["script"] (defScope sLaw) := ⟨rfl, rfl, rfl, by decide +kernel, rfl, by decide +kernel, by decide +kernel⟩
theorem ok_law {f : Addr} {fd : FuncData} (F : Fun K "law" "law" sLaw f fd) (D : DfR K mg) (bset : mg "set" = none) (dS : Df K mg "_law_bag" sSack ["cell", "at"]) (dR : Df K mg "_law_right" sRight ["bag"]) (dL : Df K mg "_law_long_right" sLong ["bag"]) (B : Bl mg) : FnOk P w K mg base CX0 9 f fd ["script"] (spLaw K) := by
  have GS : FnOk P w K mg base CX0 1 dS.f dS.fd ["cell", "at"] spSack := ok_sack dS.F B.max
  have GR : FnOk P w K mg base CX0 8 dR.f dR.fd ["bag"] spRight := ok_right dR.F D bset B
  have GL : FnOk P w K mg base CX0 8 dL.f dL.fd ["bag"] spRight := ok_long dL.F D bset B
  refine F.ok scLaw (fun vs H Q E h => ?_) (fun cdv A outer s H vs Q E hr h => ?_)
  · obtain ⟨a, ns, rfl, _⟩ := h
    rfl
  · obtain ⟨a, ns, rfl, hS, hn, hB, q⟩ := h
    have hr1 : Room 1 _ := hr.mono (by decide)
    refine ⟨_, pss_cons (ps_for PassesOwn.never rfl (pi_range1 rfl B.range (pa_cons (pe_callB (call_max2 rfl) (by rfl) B.max (by decide +kernel) (pa_cons pe_int (pa_cons (pe_callB (call_min2 rfl) (by rfl) B.min (by decide +kernel) (pa_cons (pe_callB call_len_seq (by rfl) B.len PySem.boot_len (pa_cons (pv 0) pa_nil)) (pa_cons pe_int pa_nil))) pa_nil))) pa_nil)) (pg_name (i := 1) scLaw.nd rfl (Or.inl rfl)) (pss_one (ps_if (pt_not (pt_val (pe_call GR hr rfl dR.m dR.F.kp dR.b .nil pass0 (pa_cons (pe_call GS hr1 rfl dS.m dS.F.kp dS.b .nil pass0 (pa_cons (pe_ix ix_list (pe_op op_catS (pv 0) (pe_lst (pa_cons pe_int pa_nil))) (pv 1) (fun _ _ => rfl)) (pa_cons (pv 1) pa_nil))) pa_nil)))) (pss_one (ps_ret pe_bl)) pss_nil)))
      (pss_one (ps_ret (pe_call GL hr rfl dL.m dL.F.kp dL.b .nil pass0 (pa_cons (pe_call GS hr1 rfl dS.m dS.F.kp dS.b .nil pass0 (pa_cons (pe_ix ix_list (pe_op op_catS (pv 0) (pe_lst (pa_cons pe_int pa_nil))) pe_int (fun _ _ => rfl)) (pa_cons pe_int pa_nil))) pa_nil)))), ?_⟩
    have hln : (ns.map V.int).length = ns.length := List.length_map _
    generalize emx : (if (if (4 : Int) < ((ns.map V.int).length : Int) then 4 else ((ns.map V.int).length : Int)) > 1 then (if (4 : Int) < ((ns.map V.int).length : Int) then 4 else ((ns.map V.int).length : Int)) else 1) = mx
    have mx1 : 1 ≤ mx ∧ mx ≤ 4 ∧ mx ≤ ns.length + 1 := by
      rw [hln] at emx
      rw [← emx]
      split <;> split <;> omega
    have em : ns.map V.int ++ [V.int 0] = (ns ++ [0]).map V.int := by rw [List.map_append]; rfl
    have cellAt : ∀ i : Nat, i < ns.length + 1 → ∃ c, atI (ns.map V.int ++ [V.int 0]) ((i : Nat) : Int) = some (.int c) ∧ Builtin.Int.intBits c ≤ 2 ^ 20 := fun i hi => by
      have lx : i < (ns ++ [0]).length := by rw [List.length_append]; exact hi
      refine ⟨(ns ++ [0])[i], ?_, ?_⟩
      · rw [em]
        refine atI_nat ?_
        rw [List.getElem?_map, List.getElem?_eq_getElem lx]
        rfl
      · have := List.getElem_mem lx
        rcases List.mem_append.mp this with z | z
        · exact hB _ z
        · rw [List.mem_singleton.mp z]; decide
    refine ⟨_, rfl, a, _, rfl, .inl hS, _, _, rfl, _, _, rfl, mx, congrArg (fun z => [V.int z]) emx, by omega, by omega, ?_⟩
    refine for_range (lo := 0) (n := mx.toNat) (fun i σ H' => ∃ v1, σ = [some (.ref a), v1] ∧ SqL K H' a (ns.map V.int)) ⟨none, rfl, hS⟩ ?_ ?_
    · rintro i σ H1 hi ⟨v1, rfl, h1⟩
      obtain ⟨c, hat, hc⟩ := cellAt i (by omega)
      refine ⟨_, rfl, (by show 1 ≤ sizeLine; decide), fun p hp => ?_⟩
      have s1 := same_new hp (.lst [V.int 0])
      refine ⟨a, p, _, _, rfl, rfl, s1.seq h1, SqL.of upd_same, (by rw [hln]; exact Nat.le_of_lt (small1000 (by show ns.length + 1 ≤ 1000; omega))), fun p2 hp2 => ?_⟩
      have s2 := s1.trans (same_new hp2 (.lst (ns.map V.int ++ [V.int 0])))
      have e0 : (0 : Int) + (i : Nat) = (i : Nat) := by omega
      refine ⟨_, rfl, p2, _, _, _, rfl, rfl, SqL.of upd_same, (by rw [e0]; exact hat), _, rfl, _, _, rfl, hc, by omega, by omega, fun k H2 hk s3 Sk => ?_⟩
      refine ⟨k, rfl, Sk, fun H3 kp => ⟨_, rfl, iteF ⟨_, rfl, ?_⟩⟩⟩
      exact seq_but (s2.seq h1) hk s3 kp
    · rintro σ H1 ⟨v1, rfl, h1⟩
      obtain ⟨c, hat, hc⟩ := cellAt 0 (by omega)
      refine ⟨_, rfl, (by show 1 ≤ sizeLine; decide), fun p hp => ?_⟩
      have s1 := same_new hp (.lst [V.int 0])
      refine ⟨a, p, _, _, rfl, rfl, s1.seq h1, SqL.of upd_same, (by rw [hln]; exact Nat.le_of_lt (small1000 (by show ns.length + 1 ≤ 1000; omega))), fun p2 hp2 => ?_⟩
      exact ⟨p2, _, _, _, rfl, rfl, SqL.of upd_same, hat, _, _, rfl, hc, by decide, by decide, fun k H2 hk s3 Sk => ⟨k, rfl, Sk, fun H3 kp => q H3⟩⟩
end
end My
set_option Elab.async false
set_option linter.all false
set_option maxRecDepth 100000
set_option maxHeartbeats 2000000
namespace My
open PySem L2 TL Sx
theorem all_mk {l : PySem.W.OpenLaw} {w : World} {K : PySem.W.Frag} {h : Heap} {mg : Str → Option Value} {fa : Addr} (X : K.In h) (G : h.Ns mainGlobals mg) (hfa : mg "law" = some (.ref fa))
    {f1 f2 f3 f4 f5 f6 f7 f8 f9 f10 f11 f12 f13 f14 f15 f16 f17 f18 f19 f20 f21 f22 f23 f24 f25 f26 f27 : Addr} {od1 an1 od2 an2 od3 an3 od4 an4 od5 an5 od6 an6 od7 an7 od8 an8 od9 an9 od10 an10 od11 an11 od12 an12 od13 an13 od14 an14 od15 an15 od16 an16 od17 an17 od18 an18 od19 an19 od20 an20 od21 an21 od22 an22 od23 an23 od24 an24 od25 an25 od26 an26 od27 an27 : Option Addr} {sl1 sl2 sl3 sl4 sl5 sl6 sl7 sl8 sl9 sl10 sl11 sl12 sl13 sl14 sl15 sl16 sl17 sl18 sl19 sl20 sl21 sl22 sl23 sl24 sl25 sl26 sl27 : Array (Option Value)} {oc1 kV1 dc1 pm1 cd1 ct1 oc2 kV2 dc2 pm2 cd2 ct2 oc3 kV3 dc3 pm3 cd3 ct3 oc4 kV4 dc4 pm4 cd4 ct4 oc5 kV5 dc5 pm5 cd5 ct5 oc6 kV6 dc6 pm6 cd6 ct6 oc7 kV7 dc7 pm7 cd7 ct7 oc8 kV8 dc8 pm8 cd8 ct8 oc9 kV9 dc9 pm9 cd9 ct9 oc10 kV10 dc10 pm10 cd10 ct10 oc11 kV11 dc11 pm11 cd11 ct11 oc12 kV12 dc12 pm12 cd12 ct12 oc13 kV13 dc13 pm13 cd13 ct13 oc14 kV14 dc14 pm14 cd14 ct14 oc15 kV15 dc15 pm15 cd15 ct15 oc16 kV16 dc16 pm16 cd16 ct16 oc17 kV17 dc17 pm17 cd17 ct17 oc18 kV18 dc18 pm18 cd18 ct18 oc19 kV19 dc19 pm19 cd19 ct19 oc20 kV20 dc20 pm20 cd20 ct20 oc21 kV21 dc21 pm21 cd21 ct21 oc22 kV22 dc22 pm22 cd22 ct22 oc23 kV23 dc23 pm23 cd23 ct23 oc24 kV24 dc24 pm24 cd24 ct24 oc25 kV25 dc25 pm25 cd25 ct25 oc26 kV26 dc26 pm26 cd26 ct26 oc27 kV27 dc27 pm27 cd27 ct27 : Value}
    (a1 : PySem.W.nsIn K mainGlobals "is_whole" = some (some (.ref f1))) (l1 : K.lookup f1 = some ⟨oc1, od1, .func (PySem.W.fnOf "is_whole" "is_whole" (defArgs sWhole) (defBody sWhole) (defScope sWhole) .none kV1 dc1 pm1 an1 cd1 ct1), sl1⟩) (c1 : PySem.W.codeIn K cd1 "is_whole" = true) (k1 : PySem.W.keepIn K (.ref f1) = true)
    (a2 : PySem.W.nsIn K mainGlobals "is_between" = some (some (.ref f2))) (l2 : K.lookup f2 = some ⟨oc2, od2, .func (PySem.W.fnOf "is_between" "is_between" (defArgs sBetween) (defBody sBetween) (defScope sBetween) .none kV2 dc2 pm2 an2 cd2 ct2), sl2⟩) (c2 : PySem.W.codeIn K cd2 "is_between" = true) (k2 : PySem.W.keepIn K (.ref f2) = true)
    (a3 : PySem.W.nsIn K mainGlobals "rows_named" = some (some (.ref f3))) (l3 : K.lookup f3 = some ⟨oc3, od3, .func (PySem.W.fnOf "rows_named" "rows_named" (defArgs sNamed) (defBody sNamed) (defScope sNamed) .none kV3 dc3 pm3 an3 cd3 ct3), sl3⟩) (c3 : PySem.W.codeIn K cd3 "rows_named" = true) (k3 : PySem.W.keepIn K (.ref f3) = true)
    (a4 : PySem.W.nsIn K mainGlobals "parted" = some (some (.ref f4))) (l4 : K.lookup f4 = some ⟨oc4, od4, .func (PySem.W.fnOf "parted" "parted" (defArgs sParted) (defBody sParted) (defScope sParted) .none kV4 dc4 pm4 an4 cd4 ct4), sl4⟩) (c4 : PySem.W.codeIn K cd4 "parted" = true) (k4 : PySem.W.keepIn K (.ref f4) = true)
    (a5 : PySem.W.nsIn K mainGlobals "face_of" = some (some (.ref f5))) (l5 : K.lookup f5 = some ⟨oc5, od5, .func (PySem.W.fnOf "face_of" "face_of" (defArgs sFace) (defBody sFace) (defScope sFace) .none kV5 dc5 pm5 an5 cd5 ct5), sl5⟩) (c5 : PySem.W.codeIn K cd5 "face_of" = true) (k5 : PySem.W.keepIn K (.ref f5) = true)
    (a6 : PySem.W.nsIn K mainGlobals "_law_bag" = some (some (.ref f6))) (l6 : K.lookup f6 = some ⟨oc6, od6, .func (PySem.W.fnOf "_law_bag" "_law_bag" (defArgs sSack) (defBody sSack) (defScope sSack) .none kV6 dc6 pm6 an6 cd6 ct6), sl6⟩) (c6 : PySem.W.codeIn K cd6 "_law_bag" = true) (k6 : PySem.W.keepIn K (.ref f6) = true)
    (a7 : PySem.W.nsIn K mainGlobals "_law_draw" = some (some (.ref f7))) (l7 : K.lookup f7 = some ⟨oc7, od7, .func (PySem.W.fnOf "_law_draw" "_law_draw" (defArgs sPull) (defBody sPull) (defScope sPull) .none kV7 dc7 pm7 an7 cd7 ct7), sl7⟩) (c7 : PySem.W.codeIn K cd7 "_law_draw" = true) (k7 : PySem.W.keepIn K (.ref f7) = true)
    (a8 : PySem.W.nsIn K mainGlobals "_law_top" = some (some (.ref f8))) (l8 : K.lookup f8 = some ⟨oc8, od8, .func (PySem.W.fnOf "_law_top" "_law_top" (defArgs sTop) (defBody sTop) (defScope sTop) .none kV8 dc8 pm8 an8 cd8 ct8), sl8⟩) (c8 : PySem.W.codeIn K cd8 "_law_top" = true) (k8 : PySem.W.keepIn K (.ref f8) = true)
    (a9 : PySem.W.nsIn K mainGlobals "_law_place" = some (some (.ref f9))) (l9 : K.lookup f9 = some ⟨oc9, od9, .func (PySem.W.fnOf "_law_place" "_law_place" (defArgs sPlace) (defBody sPlace) (defScope sPlace) .none kV9 dc9 pm9 an9 cd9 ct9), sl9⟩) (c9 : PySem.W.codeIn K cd9 "_law_place" = true) (k9 : PySem.W.keepIn K (.ref f9) = true)
    (a10 : PySem.W.nsIn K mainGlobals "_law_word" = some (some (.ref f10))) (l10 : K.lookup f10 = some ⟨oc10, od10, .func (PySem.W.fnOf "_law_word" "_law_word" (defArgs sWordL) (defBody sWordL) (defScope sWordL) .none kV10 dc10 pm10 an10 cd10 ct10), sl10⟩) (c10 : PySem.W.codeIn K cd10 "_law_word" = true) (k10 : PySem.W.keepIn K (.ref f10) = true)
    (a11 : PySem.W.nsIn K mainGlobals "_law_place_text" = some (some (.ref f11))) (l11 : K.lookup f11 = some ⟨oc11, od11, .func (PySem.W.fnOf "_law_place_text" "_law_place_text" (defArgs sPlT) (defBody sPlT) (defScope sPlT) .none kV11 dc11 pm11 an11 cd11 ct11), sl11⟩) (c11 : PySem.W.codeIn K cd11 "_law_place_text" = true) (k11 : PySem.W.keepIn K (.ref f11) = true)
    (a12 : PySem.W.nsIn K mainGlobals "_law_order_text" = some (some (.ref f12))) (l12 : K.lookup f12 = some ⟨oc12, od12, .func (PySem.W.fnOf "_law_order_text" "_law_order_text" (defArgs sOrT) (defBody sOrT) (defScope sOrT) .none kV12 dc12 pm12 an12 cd12 ct12), sl12⟩) (c12 : PySem.W.codeIn K cd12 "_law_order_text" = true) (k12 : PySem.W.keepIn K (.ref f12) = true)
    (a13 : PySem.W.nsIn K mainGlobals "_law_key" = some (some (.ref f13))) (l13 : K.lookup f13 = some ⟨oc13, od13, .func (PySem.W.fnOf "_law_key" "_law_key" (defArgs sKey) (defBody sKey) (defScope sKey) .none kV13 dc13 pm13 an13 cd13 ct13), sl13⟩) (c13 : PySem.W.codeIn K cd13 "_law_key" = true) (k13 : PySem.W.keepIn K (.ref f13) = true)
    (a14 : PySem.W.nsIn K mainGlobals "_law_to" = some (some (.ref f14))) (l14 : K.lookup f14 = some ⟨oc14, od14, .func (PySem.W.fnOf "_law_to" "_law_to" (defArgs sTo) (defBody sTo) (defScope sTo) .none kV14 dc14 pm14 an14 cd14 ct14), sl14⟩) (c14 : PySem.W.codeIn K cd14 "_law_to" = true) (k14 : PySem.W.keepIn K (.ref f14) = true)
    (a15 : PySem.W.nsIn K mainGlobals "_law_order" = some (some (.ref f15))) (l15 : K.lookup f15 = some ⟨oc15, od15, .func (PySem.W.fnOf "_law_order" "_law_order" (defArgs sOrderL) (defBody sOrderL) (defScope sOrderL) .none kV15 dc15 pm15 an15 cd15 ct15), sl15⟩) (c15 : PySem.W.codeIn K cd15 "_law_order" = true) (k15 : PySem.W.keepIn K (.ref f15) = true)
    (a16 : PySem.W.nsIn K mainGlobals "_law_orders" = some (some (.ref f16))) (l16 : K.lookup f16 = some ⟨oc16, od16, .func (PySem.W.fnOf "_law_orders" "_law_orders" (defArgs sOrders) (defBody sOrders) (defScope sOrders) .none kV16 dc16 pm16 an16 cd16 ct16), sl16⟩) (c16 : PySem.W.codeIn K cd16 "_law_orders" = true) (k16 : PySem.W.keepIn K (.ref f16) = true)
    (a17 : PySem.W.nsIn K mainGlobals "_law_few" = some (some (.ref f17))) (l17 : K.lookup f17 = some ⟨oc17, od17, .func (PySem.W.fnOf "_law_few" "_law_few" (defArgs sFew) (defBody sFew) (defScope sFew) .none kV17 dc17 pm17 an17 cd17 ct17), sl17⟩) (c17 : PySem.W.codeIn K cd17 "_law_few" = true) (k17 : PySem.W.keepIn K (.ref f17) = true)
    (a18 : PySem.W.nsIn K mainGlobals "_law_chain" = some (some (.ref f18))) (l18 : K.lookup f18 = some ⟨oc18, od18, .func (PySem.W.fnOf "_law_chain" "_law_chain" (defArgs sChain) (defBody sChain) (defScope sChain) .none kV18 dc18 pm18 an18 cd18 ct18), sl18⟩) (c18 : PySem.W.codeIn K cd18 "_law_chain" = true) (k18 : PySem.W.keepIn K (.ref f18) = true)
    (a19 : PySem.W.nsIn K mainGlobals "_law_names" = some (some (.ref f19))) (l19 : K.lookup f19 = some ⟨oc19, od19, .func (PySem.W.fnOf "_law_names" "_law_names" (defArgs sNamesL) (defBody sNamesL) (defScope sNamesL) .none kV19 dc19 pm19 an19 cd19 ct19), sl19⟩) (c19 : PySem.W.codeIn K cd19 "_law_names" = true) (k19 : PySem.W.keepIn K (.ref f19) = true)
    (a20 : PySem.W.nsIn K mainGlobals "_law_put" = some (some (.ref f20))) (l20 : K.lookup f20 = some ⟨oc20, od20, .func (PySem.W.fnOf "_law_put" "_law_put" (defArgs sPut) (defBody sPut) (defScope sPut) .none kV20 dc20 pm20 an20 cd20 ct20), sl20⟩) (c20 : PySem.W.codeIn K cd20 "_law_put" = true) (k20 : PySem.W.keepIn K (.ref f20) = true)
    (a21 : PySem.W.nsIn K mainGlobals "_law_laid" = some (some (.ref f21))) (l21 : K.lookup f21 = some ⟨oc21, od21, .func (PySem.W.fnOf "_law_laid" "_law_laid" (defArgs sLaid) (defBody sLaid) (defScope sLaid) .none kV21 dc21 pm21 an21 cd21 ct21), sl21⟩) (c21 : PySem.W.codeIn K cd21 "_law_laid" = true) (k21 : PySem.W.keepIn K (.ref f21) = true)
    (a22 : PySem.W.nsIn K mainGlobals "_law_is_unlike" = some (some (.ref f22))) (l22 : K.lookup f22 = some ⟨oc22, od22, .func (PySem.W.fnOf "_law_is_unlike" "_law_is_unlike" (defArgs sUnlike) (defBody sUnlike) (defScope sUnlike) .none kV22 dc22 pm22 an22 cd22 ct22), sl22⟩) (c22 : PySem.W.codeIn K cd22 "_law_is_unlike" = true) (k22 : PySem.W.keepIn K (.ref f22) = true)
    (a23 : PySem.W.nsIn K mainGlobals "_law_parts_by" = some (some (.ref f23))) (l23 : K.lookup f23 = some ⟨oc23, od23, .func (PySem.W.fnOf "_law_parts_by" "_law_parts_by" (defArgs sPartsBy) (defBody sPartsBy) (defScope sPartsBy) .none kV23 dc23 pm23 an23 cd23 ct23), sl23⟩) (c23 : PySem.W.codeIn K cd23 "_law_parts_by" = true) (k23 : PySem.W.keepIn K (.ref f23) = true)
    (a24 : PySem.W.nsIn K mainGlobals "_law_word_due" = some (some (.ref f24))) (l24 : K.lookup f24 = some ⟨oc24, od24, .func (PySem.W.fnOf "_law_word_due" "_law_word_due" (defArgs sWordDue) (defBody sWordDue) (defScope sWordDue) .none kV24 dc24 pm24 an24 cd24 ct24), sl24⟩) (c24 : PySem.W.codeIn K cd24 "_law_word_due" = true) (k24 : PySem.W.keepIn K (.ref f24) = true)
    (a25 : PySem.W.nsIn K mainGlobals "_law_right" = some (some (.ref f25))) (l25 : K.lookup f25 = some ⟨oc25, od25, .func (PySem.W.fnOf "_law_right" "_law_right" (defArgs sRight) (defBody sRight) (defScope sRight) .none kV25 dc25 pm25 an25 cd25 ct25), sl25⟩) (c25 : PySem.W.codeIn K cd25 "_law_right" = true) (k25 : PySem.W.keepIn K (.ref f25) = true)
    (a26 : PySem.W.nsIn K mainGlobals "_law_long_right" = some (some (.ref f26))) (l26 : K.lookup f26 = some ⟨oc26, od26, .func (PySem.W.fnOf "_law_long_right" "_law_long_right" (defArgs sLong) (defBody sLong) (defScope sLong) .none kV26 dc26 pm26 an26 cd26 ct26), sl26⟩) (c26 : PySem.W.codeIn K cd26 "_law_long_right" = true) (k26 : PySem.W.keepIn K (.ref f26) = true)
    (a27 : PySem.W.nsIn K mainGlobals "law" = some (some (.ref f27))) (l27 : K.lookup f27 = some ⟨oc27, od27, .func (PySem.W.fnOf "law" "law" (defArgs sLaw) (defBody sLaw) (defScope sLaw) .none kV27 dc27 pm27 an27 cd27 ct27), sl27⟩) (c27 : PySem.W.codeIn K cd27 "law" = true) (k27 : PySem.W.keepIn K (.ref f27) = true)
    (z1 : PySem.W.nsIn K mainGlobals "isinstance" = some none) (z2 : PySem.W.nsIn K mainGlobals "tuple" = some none) (z3 : PySem.W.nsIn K mainGlobals "str" = some none) (z4 : PySem.W.nsIn K mainGlobals "int" = some none) (z5 : PySem.W.nsIn K mainGlobals "len" = some none) (z6 : PySem.W.nsIn K mainGlobals "range" = some none) (z7 : PySem.W.nsIn K mainGlobals "max" = some none) (z8 : PySem.W.nsIn K mainGlobals "min" = some none) (z9 : PySem.W.nsIn K mainGlobals "list" = some none) (z10 : PySem.W.nsIn K mainGlobals "all" = some none) (z11 : PySem.W.nsIn K mainGlobals "zip" = some none) (z12 : PySem.W.nsIn K mainGlobals "bool" = some none) (z13 : PySem.W.nsIn K mainGlobals "sorted" = some none) (z14 : PySem.W.nsIn K mainGlobals "enumerate" = some none) (z15 : PySem.W.nsIn K mainGlobals "set" = some none) :
    ∃ fd : FuncData, (∀ (s : Shared) (v : Value), BindsTo s fd ⟨[v], []⟩ [("script", v)]) ∧ ∀ base : Heap, K.In base → base.Ns mainGlobals mg → FnOk l.prog w K mg base CX0 9 fa fd ["script"] (spLaw K) := by
  have e := hfa.symm.trans (PySem.W.mg_of X G a27)
  cases e
  have F1 := fun_mk (st := sWhole) l1 c1 k1
  have F2 := fun_mk (st := sBetween) l2 c2 k2
  have F3 := fun_mk (st := sNamed) l3 c3 k3
  have F4 := fun_mk (st := sParted) l4 c4 k4
  have F5 := fun_mk (st := sFace) l5 c5 k5
  have F6 := fun_mk (st := sSack) l6 c6 k6
  have F7 := fun_mk (st := sPull) l7 c7 k7
  have F8 := fun_mk (st := sTop) l8 c8 k8
  have F9 := fun_mk (st := sPlace) l9 c9 k9
  have F10 := fun_mk (st := sWordL) l10 c10 k10
  have F11 := fun_mk (st := sPlT) l11 c11 k11
  have F12 := fun_mk (st := sOrT) l12 c12 k12
  have F13 := fun_mk (st := sKey) l13 c13 k13
  have F14 := fun_mk (st := sTo) l14 c14 k14
  have F15 := fun_mk (st := sOrderL) l15 c15 k15
  have F16 := fun_mk (st := sOrders) l16 c16 k16
  have F17 := fun_mk (st := sFew) l17 c17 k17
  have F18 := fun_mk (st := sChain) l18 c18 k18
  have F19 := fun_mk (st := sNamesL) l19 c19 k19
  have F20 := fun_mk (st := sPut) l20 c20 k20
  have F21 := fun_mk (st := sLaid) l21 c21 k21
  have F22 := fun_mk (st := sUnlike) l22 c22 k22
  have F23 := fun_mk (st := sPartsBy) l23 c23 k23
  have F24 := fun_mk (st := sWordDue) l24 c24 k24
  have F25 := fun_mk (st := sRight) l25 c25 k25
  have F26 := fun_mk (st := sLong) l26 c26 k26
  have F27 := fun_mk (st := sLaw) l27 c27 k27
  have b1 := F1.binds (ps := ["thing"]) fun _ _ _ _ _ _ us hl => match us, hl with | [_], _ => rfl
  let d1 : Df K mg "is_whole" sWhole ["thing"] := ⟨f1, _, F1, b1, PySem.W.mg_of X G a1⟩
  have b2 := F2.binds (ps := ["thing", "low", "high"]) fun _ _ _ _ _ _ us hl => match us, hl with | [_, _, _], _ => rfl
  let d2 : Df K mg "is_between" sBetween ["thing", "low", "high"] := ⟨f2, _, F2, b2, PySem.W.mg_of X G a2⟩
  have b3 := F3.binds (ps := ["onward"]) fun _ _ _ _ _ _ us hl => match us, hl with | [_], _ => rfl
  let d3 : Df K mg "rows_named" sNamed ["onward"] := ⟨f3, _, F3, b3, PySem.W.mg_of X G a3⟩
  have b4 := F4.binds (ps := ["store", "one", "other"]) fun _ _ _ _ _ _ us hl => match us, hl with | [_, _, _], _ => rfl
  let d4 : Df K mg "parted" sParted ["store", "one", "other"] := ⟨f4, _, F4, b4, PySem.W.mg_of X G a4⟩
  have b5 := F5.binds (ps := ["row"]) fun _ _ _ _ _ _ us hl => match us, hl with | [_], _ => rfl
  let d5 : Df K mg "face_of" sFace ["row"] := ⟨f5, _, F5, b5, PySem.W.mg_of X G a5⟩
  have b6 := F6.binds (ps := ["cell", "at"]) fun _ _ _ _ _ _ us hl => match us, hl with | [_, _], _ => rfl
  let d6 : Df K mg "_law_bag" sSack ["cell", "at"] := ⟨f6, _, F6, b6, PySem.W.mg_of X G a6⟩
  have b7 := F7.binds (ps := ["bag", "many"]) fun _ _ _ _ _ _ us hl => match us, hl with | [_, _], _ => rfl
  let d7 : Df K mg "_law_draw" sPull ["bag", "many"] := ⟨f7, _, F7, b7, PySem.W.mg_of X G a7⟩
  have b8 := F8.binds (ps := ["kit"]) fun _ _ _ _ _ _ us hl => match us, hl with | [_], _ => rfl
  let d8 : Df K mg "_law_top" sTop ["kit"] := ⟨f8, _, F8, b8, PySem.W.mg_of X G a8⟩
  have b9 := F9.binds (ps := ["bag", "kit"]) fun _ _ _ _ _ _ us hl => match us, hl with | [_, _], _ => rfl
  let d9 : Df K mg "_law_place" sPlace ["bag", "kit"] := ⟨f9, _, F9, b9, PySem.W.mg_of X G a9⟩
  have b10 := F10.binds (ps := ["bag", "kit"]) fun _ _ _ _ _ _ us hl => match us, hl with | [_, _], _ => rfl
  let d10 : Df K mg "_law_word" sWordL ["bag", "kit"] := ⟨f10, _, F10, b10, PySem.W.mg_of X G a10⟩
  have b11 := F11.binds (ps := ["spot"]) fun _ _ _ _ _ _ us hl => match us, hl with | [_], _ => rfl
  let d11 : Df K mg "_law_place_text" sPlT ["spot"] := ⟨f11, _, F11, b11, PySem.W.mg_of X G a11⟩
  have b12 := F12.binds (ps := ["this"]) fun _ _ _ _ _ _ us hl => match us, hl with | [_], _ => rfl
  let d12 : Df K mg "_law_order_text" sOrT ["this"] := ⟨f12, _, F12, b12, PySem.W.mg_of X G a12⟩
  have b13 := F13.binds (ps := ["this"]) fun _ _ _ _ _ _ us hl => match us, hl with | [_], _ => rfl
  let d13 : Df K mg "_law_key" sKey ["this"] := ⟨f13, _, F13, b13, PySem.W.mg_of X G a13⟩
  have b14 := F14.binds (ps := ["this"]) fun _ _ _ _ _ _ us hl => match us, hl with | [_], _ => rfl
  let d14 : Df K mg "_law_to" sTo ["this"] := ⟨f14, _, F14, b14, PySem.W.mg_of X G a14⟩
  have b15 := F15.binds (ps := ["bag", "kit", "word"]) fun _ _ _ _ _ _ us hl => match us, hl with | [_, _, _], _ => rfl
  let d15 : Df K mg "_law_order" sOrderL ["bag", "kit", "word"] := ⟨f15, _, F15, b15, PySem.W.mg_of X G a15⟩
  have b16 := F16.binds (ps := ["bag", "kit"]) fun _ _ _ _ _ _ us hl => match us, hl with | [_, _], _ => rfl
  let d16 : Df K mg "_law_orders" sOrders ["bag", "kit"] := ⟨f16, _, F16, b16, PySem.W.mg_of X G a16⟩
  have b17 := F17.binds (ps := ["bag"]) fun _ _ _ _ _ _ us hl => match us, hl with | [_], _ => rfl
  let d17 : Df K mg "_law_few" sFew ["bag"] := ⟨f17, _, F17, b17, PySem.W.mg_of X G a17⟩
  have b18 := F18.binds (ps := ["bag", "kit", "many", "pool"]) fun _ _ _ _ _ _ us hl => match us, hl with | [_, _, _, _], _ => rfl
  let d18 : Df K mg "_law_chain" sChain ["bag", "kit", "many", "pool"] := ⟨f18, _, F18, b18, PySem.W.mg_of X G a18⟩
  have b19 := F19.binds (ps := ["bag", "many"]) fun _ _ _ _ _ _ us hl => match us, hl with | [_, _], _ => rfl
  let d19 : Df K mg "_law_names" sNamesL ["bag", "many"] := ⟨f19, _, F19, b19, PySem.W.mg_of X G a19⟩
  have b20 := F20.binds (ps := ["onward", "numbers"]) fun _ _ _ _ _ _ us hl => match us, hl with | [_, _], _ => rfl
  let d20 : Df K mg "_law_put" sPut ["onward", "numbers"] := ⟨f20, _, F20, b20, PySem.W.mg_of X G a20⟩
  have b21 := F21.binds (ps := ["bag", "kit", "most"]) fun _ _ _ _ _ _ us hl => match us, hl with | [_, _, _], _ => rfl
  let d21 : Df K mg "_law_laid" sLaid ["bag", "kit", "most"] := ⟨f21, _, F21, b21, PySem.W.mg_of X G a21⟩
  have b22 := F22.binds (ps := ["this", "that"]) fun _ _ _ _ _ _ us hl => match us, hl with | [_, _], _ => rfl
  let d22 : Df K mg "_law_is_unlike" sUnlike ["this", "that"] := ⟨f22, _, F22, b22, PySem.W.mg_of X G a22⟩
  have b23 := F23.binds (ps := ["rows", "this", "that", "word"]) fun _ _ _ _ _ _ us hl => match us, hl with | [_, _, _, _], _ => rfl
  let d23 : Df K mg "_law_parts_by" sPartsBy ["rows", "this", "that", "word"] := ⟨f23, _, F23, b23, PySem.W.mg_of X G a23⟩
  have b24 := F24.binds (ps := ["rows", "this", "that"]) fun _ _ _ _ _ _ us hl => match us, hl with | [_, _, _], _ => rfl
  let d24 : Df K mg "_law_word_due" sWordDue ["rows", "this", "that"] := ⟨f24, _, F24, b24, PySem.W.mg_of X G a24⟩
  have b25 := F25.binds (ps := ["bag"]) fun _ _ _ _ _ _ us hl => match us, hl with | [_], _ => rfl
  let d25 : Df K mg "_law_right" sRight ["bag"] := ⟨f25, _, F25, b25, PySem.W.mg_of X G a25⟩
  have b26 := F26.binds (ps := ["bag"]) fun _ _ _ _ _ _ us hl => match us, hl with | [_], _ => rfl
  let d26 : Df K mg "_law_long_right" sLong ["bag"] := ⟨f26, _, F26, b26, PySem.W.mg_of X G a26⟩
  let DO : DfO K mg := ⟨d7, d8, d9, d10, d11, d12, d13, d14, d15⟩
  let D : DfR K mg := ⟨DO, d17, d16, d19, d18, d20, d21, d1, d2, d3, d5, d4, d22, d23, d24⟩
  have bset : mg "set" = none := PySem.W.mg_none_of X G z15
  have B : Bl mg := ⟨PySem.W.mg_none_of X G z1, PySem.W.mg_none_of X G z2, PySem.W.mg_none_of X G z3, PySem.W.mg_none_of X G z4, PySem.W.mg_none_of X G z5, PySem.W.mg_none_of X G z6, PySem.W.mg_none_of X G z7, PySem.W.mg_none_of X G z8, PySem.W.mg_none_of X G z9, PySem.W.mg_none_of X G z10, PySem.W.mg_none_of X G z11, PySem.W.mg_none_of X G z12, PySem.W.mg_none_of X G z13, PySem.W.mg_none_of X G z14⟩
  exact ⟨PySem.W.fnOf "law" "law" (defArgs sLaw) (defBody sLaw) (defScope sLaw) .none kV27 dc27 pm27 an27 cd27 ct27, fun s v => .of_eq rfl, fun base _ _ => ok_law F27 D bset d6 d25 d26 B⟩
end My
namespace My
open PySem PySem.Spec PyProof.Rows PySem.W PySem.Calls L2
theorem bits_of {ns : List Int} (h : WData.layableAll [WData.list (ns.map WData.int)] = true) : ∀ x ∈ ns, Builtin.Int.intBits x ≤ 2 ^ 20 := by
  intro x hx
  have h1 : (WData.list (ns.map WData.int)).layable = true := by
    unfold WData.layableAll at h
    rw [List.all_cons, Bool.and_eq_true] at h
    exact h.1
  obtain ⟨c, _, wt⟩ := layableW_iff.mp h1
  have c2 : WData.canLayAll (ns.map WData.int) = true := by simpa only [WData.canLay] using c
  simp only [WData.weight] at wt
  have z := (items_part (List.mem_map.mpr ⟨x, hx, rfl⟩) c2).2.2
  simp only [WData.weight] at z
  exact Nat.le_trans z wt
/-- the goal of the top, with the bits of the script's numbers -/
theorem walk {l : PySem.W.OpenLaw} {q : Program} {loose : List Str} {XP : (Str → Option Value) → Heap → Prop} {YP : World → Heap → Prop} {d : DefRec} {K : Params → PySem.W.Frag} (hn : l.most = some 63) (hdf : d.params.defaults = [])
    (hY : ∀ (w : World) (h : Heap), YP w h → (K w.params).In h)
    (F : ∀ (w : World) (mg : Str → Option Value) (fa : Addr) (h : Heap), (K w.params).In h → h.Ns mainGlobals mg → mg d.name = some (.ref fa) →
      ∃ fd : FuncData, (∀ (s : Shared) (u : Value), BindsTo s fd ⟨[u], []⟩ [("script", u)]) ∧ ∀ base : Heap, (K w.params).In base → base.Ns mainGlobals mg → FnOk l.prog w (K w.params) mg base CX0 9 fa fd ["script"] (spLaw (K w.params))) :
    PySem.W.WalkO q loose XP YP l.row.toRowW d [] (fun f vs => PySem.call f vs) := by
  intro w s₀ s₁ mg mb G Y fa o pm cd doc dV kV ho hd hcd hD hmg hg args vals as hpre hlay hrd hwl hlo
  obtain rfl : dV = .none := Dflts.none hD hdf
  obtain rfl : kV = .none := Dflts.noKw hD
  obtain ⟨a, vs, ns, rfl, rfl, hobj, hints, hlen⟩ := Att.script_of hn hpre hwl
  have KX := hY w _ Y
  obtain ⟨fd, hb, hF⟩ := F w mg fa _ KX G.T.g hmg
  refine enter_call (codeAny_mono (law_call KX G.T.g G.T.b G.T.builtins G.T.nolimit hg hobj hints (Nat.le_trans hlen (by decide)) ⟨rfl, by decide, by decide⟩ hF hb (fun H hO hS => ⟨a, ns, rfl, hS, hlen, bits_of hlay, fun _ => rfl⟩) fun H e s' z => z) fun r s' hq => ?_)
  obtain ⟨rfl, h2, h3, h4⟩ := hq
  exact ⟨.inl ⟨.bool true, .bool true, [], rfl, fun _ => rfl, .bool true, Att.post_true l _, fun _ => ⟨List.Pairwise.nil, fun _ hm => (nomatch hm)⟩⟩, h2, h3, h4⟩
end My
open PySem PySem.W PyProof.Rows
set_option Elab.async false
set_option maxRecDepth 100000 in
set_option maxHeartbeats 0 in
theorem PySem.Challenge.cw_steploft_k51_words_that_part_holds : PySem.Challenge.rw_steploft_k51_words_that_part.Holds := by
  w_on; o_law; k_head; (case hw => w_witness2)
  k_fill
  refine My.walk (l := PySem.Challenge.rw_steploft_k51_words_that_part) rfl rfl (fun w h Y => PySem.W.kIn_of Y) ?F
  case F =>
    intro w mg fa h KX G hmg
    refine' My.all_mk KX G hmg ?a1 ?l1 ?c1 ?k1 ?a2 ?l2 ?c2 ?k2 ?a3 ?l3 ?c3 ?k3 ?a4 ?l4 ?c4 ?k4 ?a5 ?l5 ?c5 ?k5 ?a6 ?l6 ?c6 ?k6 ?a7 ?l7 ?c7 ?k7 ?a8 ?l8 ?c8 ?k8 ?a9 ?l9 ?c9 ?k9 ?a10 ?l10 ?c10 ?k10 ?a11 ?l11 ?c11 ?k11 ?a12 ?l12 ?c12 ?k12 ?a13 ?l13 ?c13 ?k13 ?a14 ?l14 ?c14 ?k14 ?a15 ?l15 ?c15 ?k15 ?a16 ?l16 ?c16 ?k16 ?a17 ?l17 ?c17 ?k17 ?a18 ?l18 ?c18 ?k18 ?a19 ?l19 ?c19 ?k19 ?a20 ?l20 ?c20 ?k20 ?a21 ?l21 ?c21 ?k21 ?a22 ?l22 ?c22 ?k22 ?a23 ?l23 ?c23 ?k23 ?a24 ?l24 ?c24 ?k24 ?a25 ?l25 ?c25 ?k25 ?a26 ?l26 ?c26 ?k26 ?a27 ?l27 ?c27 ?k27  ?z1 ?z2 ?z3 ?z4 ?z5 ?z6 ?z7 ?z8 ?z9 ?z10 ?z11 ?z12 ?z13 ?z14 ?z15
    (case a1 => k_is); (case l1 => k_is); (case c1 => k_is); (case k1 => k_is)
    (case a2 => k_is); (case l2 => k_is); (case c2 => k_is); (case k2 => k_is)
    (case a3 => k_is); (case l3 => k_is); (case c3 => k_is); (case k3 => k_is)
    (case a4 => k_is); (case l4 => k_is); (case c4 => k_is); (case k4 => k_is)
    (case a5 => k_is); (case l5 => k_is); (case c5 => k_is); (case k5 => k_is)
    (case a6 => k_is); (case l6 => k_is); (case c6 => k_is); (case k6 => k_is)
    (case a7 => k_is); (case l7 => k_is); (case c7 => k_is); (case k7 => k_is)
    (case a8 => k_is); (case l8 => k_is); (case c8 => k_is); (case k8 => k_is)
    (case a9 => k_is); (case l9 => k_is); (case c9 => k_is); (case k9 => k_is)
    (case a10 => k_is); (case l10 => k_is); (case c10 => k_is); (case k10 => k_is)
    (case a11 => k_is); (case l11 => k_is); (case c11 => k_is); (case k11 => k_is)
    (case a12 => k_is); (case l12 => k_is); (case c12 => k_is); (case k12 => k_is)
    (case a13 => k_is); (case l13 => k_is); (case c13 => k_is); (case k13 => k_is)
    (case a14 => k_is); (case l14 => k_is); (case c14 => k_is); (case k14 => k_is)
    (case a15 => k_is); (case l15 => k_is); (case c15 => k_is); (case k15 => k_is)
    (case a16 => k_is); (case l16 => k_is); (case c16 => k_is); (case k16 => k_is)
    (case a17 => k_is); (case l17 => k_is); (case c17 => k_is); (case k17 => k_is)
    (case a18 => k_is); (case l18 => k_is); (case c18 => k_is); (case k18 => k_is)
    (case a19 => k_is); (case l19 => k_is); (case c19 => k_is); (case k19 => k_is)
    (case a20 => k_is); (case l20 => k_is); (case c20 => k_is); (case k20 => k_is)
    (case a21 => k_is); (case l21 => k_is); (case c21 => k_is); (case k21 => k_is)
    (case a22 => k_is); (case l22 => k_is); (case c22 => k_is); (case k22 => k_is)
    (case a23 => k_is); (case l23 => k_is); (case c23 => k_is); (case k23 => k_is)
    (case a24 => k_is); (case l24 => k_is); (case c24 => k_is); (case k24 => k_is)
    (case a25 => k_is); (case l25 => k_is); (case c25 => k_is); (case k25 => k_is)
    (case a26 => k_is); (case l26 => k_is); (case c26 => k_is); (case k26 => k_is)
    (case a27 => k_is); (case l27 => k_is); (case c27 => k_is); (case k27 => k_is)
    (case z1 => k_is); (case z2 => k_is); (case z3 => k_is); (case z4 => k_is); (case z5 => k_is); (case z6 => k_is); (case z7 => k_is); (case z8 => k_is); (case z9 => k_is); (case z10 => k_is); (case z11 => k_is); (case z12 => k_is); (case z13 => k_is); (case z14 => k_is); (case z15 => k_is)
